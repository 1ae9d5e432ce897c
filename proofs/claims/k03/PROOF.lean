import PyProof.Rows.All
import Wide.All
import OpenK.AllK
import Wide.FinOn
import HandS.ForMost
import HandS.ForExc
import HandS.Walk
import HandS.Deep
import HandS.HeadHook4
import PyProof.ReprRoads
import HandS.RaiseMore
import HandS.SortRule
import HandS.Style
import HandS.TupAny
import HandS.IsInst
import HandS.Exc
import HandS.ExcOwn
import HandS.Defaults
import HandS.HeadEnd
import HandS.Flow
import HandS.DictComp
import HandS.WordsDict
import HandS.TupLen
import HandS.BoundList
import HandS.OwnEq
import HandS.More
import HandS.Lambda
import KE.KStateDown
import HandS.Head0
import HandS.Head1
import HandS.Head2
import PySem.Challenge.RW_kindredbush_k03_whole_tables_turned
set_option Elab.async false
set_option linter.all false
set_option maxRecDepth 100000
/-! A small store in place of the heap: places are numbers, new things come at its end. What a def does is a plain function over it. -/
namespace Mp
open PySem L2

inductive MV where
  | non | bl (b : Bool) | int (i : Int) | str (x : Str) | ref (i : Nat) | glo (x : Str)
  deriving DecidableEq

inductive Ob where
  | lst (xs : List MV) | rol (xs : List MV) | tup (xs : List MV) | ktp (xs : List MV) | kls (xs : List MV)
  | dic (kvs : List (Key × MV)) | dit (kvs : List (List Key × MV)) | ins (C : Str) (fs : List (Str × MV))

abbrev Sto := List Ob
abbrev Rho := List (Option MV)
def Ob.isK : Ob → Bool
  | .ktp _ => true
  | .kls _ => true
  | _ => false

/-! ### lists by pairs -/
section
variable {α β : Type} {F G : α → β → Prop}
theorem Pd.get : ∀ {xs : List α} {ys : List β} {i : Nat} {x : α}, Paired F xs ys → xs[i]? = some x → ∃ y, ys[i]? = some y ∧ F x y
  | _, _, _, _, .nil, e => by simp at e
  | _, _, 0, _, .cons r _, e => by simp at e; subst e; exact ⟨_, rfl, r⟩
  | _, _, i + 1, x, .cons _ t, e => by
    obtain ⟨y, h1, h2⟩ := Pd.get (i := i) (x := x) t (by simpa using e)
    exact ⟨y, by simpa using h1, h2⟩
theorem Pd.get' : ∀ {xs : List α} {ys : List β} {i : Nat} {y : β}, Paired F xs ys → ys[i]? = some y → ∃ x, xs[i]? = some x ∧ F x y
  | _, _, _, _, .nil, e => by simp at e
  | _, _, 0, _, .cons r _, e => by simp at e; subst e; exact ⟨_, rfl, r⟩
  | _, _, i + 1, x, .cons _ t, e => by
    obtain ⟨y, h1, h2⟩ := Pd.get' (i := i) t (by simpa using e)
    exact ⟨y, by simpa using h1, h2⟩
theorem Pd.mono : ∀ {xs : List α} {ys : List β}, Paired F xs ys → (∀ a b, F a b → G a b) → Paired G xs ys
  | _, _, .nil, _ => .nil
  | _, _, .cons r t, h => .cons (h _ _ r) (Pd.mono t h)
theorem Pd.len : ∀ {xs : List α} {ys : List β}, Paired F xs ys → xs.length = ys.length
  | _, _, .nil => rfl
  | _, _, .cons _ t => by simp [Pd.len t]
theorem Pd.set {x : α} {y : β} (r : F x y) : ∀ {xs : List α} {ys : List β} (i : Nat), Paired F xs ys → Paired F (xs.set i x) (ys.set i y)
  | _, _, _, .nil => .nil
  | _, _, 0, .cons _ t => .cons r t
  | _, _, i + 1, .cons q t => .cons q (Pd.set r i t)
theorem Pd.append : ∀ {xs zs : List α} {ys ws : List β}, Paired F xs ys → Paired F zs ws → Paired F (xs ++ zs) (ys ++ ws)
  | _, _, _, _, .nil, s => s
  | _, _, _, _, .cons r t, s => .cons r (Pd.append t s)
theorem Pd.take : ∀ {xs : List α} {ys : List β} (n : Nat), Paired F xs ys → Paired F (xs.take n) (ys.take n)
  | _, _, 0, _ => .nil
  | _, _, _ + 1, .nil => .nil
  | _, _, n + 1, .cons r t => .cons r (Pd.take n t)
theorem Pd.drop : ∀ {xs : List α} {ys : List β} (n : Nat), Paired F xs ys → Paired F (xs.drop n) (ys.drop n)
  | _, _, 0, r => r
  | _, _, _ + 1, .nil => .nil
  | _, _, n + 1, .cons _ t => Pd.drop n t
theorem Pd.eraseIdx : ∀ {xs : List α} {ys : List β} (n : Nat), Paired F xs ys → Paired F (xs.eraseIdx n) (ys.eraseIdx n)
  | _, _, _, .nil => .nil
  | _, _, 0, .cons _ t => t
  | _, _, n + 1, .cons r t => .cons r (Pd.eraseIdx n t)
theorem Pd.reverse : ∀ {xs : List α} {ys : List β}, Paired F xs ys → Paired F xs.reverse ys.reverse
  | _, _, .nil => .nil
  | _, _, .cons r t => by simp only [List.reverse_cons]; exact Pd.append (Pd.reverse t) (.cons r .nil)
theorem Pd.of_get : ∀ {xs : List α} {ys : List β}, xs.length = ys.length → (∀ (i : Nat) (x : α) (y : β), xs[i]? = some x → ys[i]? = some y → F x y) → Paired F xs ys
  | [], [], _, _ => .nil
  | x :: xs, y :: ys, h, g => .cons (g 0 x y rfl rfl) (Pd.of_get (by simpa using h) fun i a b ha hb => g (i + 1) a b (by simpa using ha) (by simpa using hb))
  | [], _ :: _, h, _ => by simp at h
  | _ :: _, [], h, _ => by simp at h
end

/-! ### places -/
def Pre (μ ν : List Addr) : Prop := ∃ l, ν = μ ++ l
theorem Pre.refl (μ : List Addr) : Pre μ μ := ⟨[], by simp⟩
theorem Pre.trans {a b c : List Addr} (h : Pre a b) (g : Pre b c) : Pre a c := by
  obtain ⟨l, rfl⟩ := h
  obtain ⟨m, rfl⟩ := g
  exact ⟨l ++ m, by simp⟩
theorem Pre.snoc (μ : List Addr) (a : Addr) : Pre μ (μ ++ [a]) := ⟨[a], rfl⟩
theorem Pre.get {μ ν : List Addr} (h : Pre μ ν) {i : Nat} {a : Addr} (e : μ[i]? = some a) : ν[i]? = some a := by
  obtain ⟨l, rfl⟩ := h
  rw [List.getElem?_append_left (List.getElem?_eq_some_iff.mp e).1]
  exact e

section
variable (K : PySem.W.Frag) (μ : List Addr)
def RV : MV → V → Prop
  | .non, u => u = .non
  | .bl b, u => u = .bl b
  | .int i, u => u = .int i
  | .str x, u => u = .str x
  | .ref i, u => ∃ a, μ[i]? = some a ∧ u = .ref a
  | .glo x, u => u = .ref (He.ga K x)
abbrev RVs : List MV → List V → Prop := Paired (RV K μ)
def RVO : Option MV → Option V → Prop
  | some v, some u => RV K μ v u
  | none, none => True
  | _, _ => False
abbrev Rs : Rho → St → Prop := Paired (RVO K μ)
def RKV {κ : Type} : κ × MV → κ × V → Prop := fun p q => p.1 = q.1 ∧ RV K μ p.2 q.2
abbrev RKs {κ : Type} : List (κ × MV) → List (κ × V) → Prop := Paired (RKV K μ)
def RO (H : Hp) (a : Addr) : Ob → Prop
  | .lst xs => ∃ ys, RVs K μ xs ys ∧ H a = some (.lst ys)
  | .rol xs => ∃ ys o, RVs K μ xs ys ∧ H a = some (.frz o (.lst ys))
  | .tup xs => ∃ ys, RVs K μ xs ys ∧ H a = some (.tup ys)
  | .ktp xs => ∃ ys, RVs K μ xs ys ∧ ∀ H', SqT K H' a ys
  | .kls xs => ∃ ys, RVs K μ xs ys ∧ ∀ H', SqL K H' a ys
  | .dic kvs => ∃ ls, RKs K μ kvs ls ∧ H a = some (.dK ls)
  | .dit kvs => ∃ ls, RKs K μ kvs ls ∧ H a = some (.dT ls)
  | .ins C fs => ∃ dx gs, RKs K μ fs gs ∧ H a = some (.ins (He.ga K C) dx gs)
end
section
variable {K : PySem.W.Frag} {μ ν : List Addr} {H H' : Hp} {a : Addr}
theorem RV.mono (h : Pre μ ν) : ∀ {v : MV} {u : V}, RV K μ v u → RV K ν v u
  | .non, _, r => r
  | .bl _, _, r => r
  | .int _, _, r => r
  | .str _, _, r => r
  | .ref _, _, ⟨a, e, q⟩ => ⟨a, h.get e, q⟩
  | .glo _, _, r => r
theorem RVs.mono (h : Pre μ ν) {xs : List MV} {ys : List V} (r : RVs K μ xs ys) : RVs K ν xs ys := Pd.mono r fun _ _ => RV.mono h
theorem RKs.mono {κ : Type} (h : Pre μ ν) {xs : List (κ × MV)} {ys : List (κ × V)} (r : RKs K μ xs ys) : RKs K ν xs ys := Pd.mono r fun _ _ q => ⟨q.1, RV.mono h q.2⟩
theorem RVO.mono (h : Pre μ ν) : ∀ {v : Option MV} {u : Option V}, RVO K μ v u → RVO K ν v u
  | some _, some _, r => RV.mono h r
  | none, none, r => r
  | some _, none, r => r
  | none, some _, r => r
theorem Rs.mono (h : Pre μ ν) {ρ : Rho} {σ : St} (r : Rs K μ ρ σ) : Rs K ν ρ σ := Pd.mono r fun _ _ => RVO.mono h
theorem RO.mono (h : Pre μ ν) (hh : ∀ o, H a = some o → H' a = some o) : ∀ {o : Ob}, RO K μ H a o → RO K ν H' a o
  | .lst _, ⟨ys, r, e⟩ => ⟨ys, r.mono h, hh _ e⟩
  | .rol _, ⟨ys, o, r, e⟩ => ⟨ys, o, r.mono h, hh _ e⟩
  | .tup _, ⟨ys, r, e⟩ => ⟨ys, r.mono h, hh _ e⟩
  | .ktp _, ⟨ys, r, e⟩ => ⟨ys, r.mono h, e⟩
  | .kls _, ⟨ys, r, e⟩ => ⟨ys, r.mono h, e⟩
  | .dic _, ⟨ys, r, e⟩ => ⟨ys, r.mono h, hh _ e⟩
  | .dit _, ⟨ys, r, e⟩ => ⟨ys, r.mono h, hh _ e⟩
  | .ins _ _, ⟨dx, gs, r, e⟩ => ⟨dx, gs, r.mono h, hh _ e⟩
theorem RO.some {o : Ob} (h : o.isK = false) (r : RO K μ H a o) : ∃ u, H a = some u := by
  cases o with
  | ktp _ => simp [Ob.isK] at h
  | kls _ => simp [Ob.isK] at h
  | lst _ => obtain ⟨_, _, e⟩ := r; exact ⟨_, e⟩
  | rol _ => obtain ⟨_, _, _, e⟩ := r; exact ⟨_, e⟩
  | tup _ => obtain ⟨_, _, e⟩ := r; exact ⟨_, e⟩
  | dic _ => obtain ⟨_, _, e⟩ := r; exact ⟨_, e⟩
  | dit _ => obtain ⟨_, _, e⟩ := r; exact ⟨_, e⟩
  | ins _ _ => obtain ⟨_, _, _, e⟩ := r; exact ⟨_, e⟩
theorem RO.kmono (h : Pre μ ν) {o : Ob} (hk : o.isK = true) (r : RO K μ H a o) : RO K ν H' a o := by
  cases o with
  | ktp _ => obtain ⟨ys, r, e⟩ := r; exact ⟨ys, r.mono h, e⟩
  | kls _ => obtain ⟨ys, r, e⟩ := r; exact ⟨ys, r.mono h, e⟩
  | _ => simp [Ob.isK] at hk
end

/-- the store as it stands in the heap; B tells where the module's own tuples stand -/
structure R (K : PySem.W.Frag) (B : List (Str × Nat)) (μ : List Addr) (D : Sto) (H : Hp) : Prop where
  len : μ.length = D.length
  nd : ∀ (i j : Nat) (a : Addr) (o u : Ob), μ[i]? = some a → μ[j]? = some a → D[i]? = some o → D[j]? = some u → o.isK = false → u.isK = false → i = j
  ob : ∀ (i : Nat) (a : Addr) (o : Ob), μ[i]? = some a → D[i]? = some o → RO K μ H a o
  gl : ∀ p ∈ B, μ[p.2]? = some (He.ga K p.1)
section
variable {K : PySem.W.Frag} {B : List (Str × Nat)} {μ ν : List Addr} {D : Sto} {H H' : Hp} {a p : Addr} {i : Nat} {o o' : Ob}
theorem R.at (r : R K B μ D H) (e : D[i]? = some o) : ∃ a, μ[i]? = some a ∧ RO K μ H a o := by
  have hl : i < μ.length := by rw [r.len]; exact (List.getElem?_eq_some_iff.mp e).1
  exact ⟨μ[i], by simp [hl], r.ob i _ o (by simp [hl]) e⟩
theorem R.ref (r : R K B μ D H) {u : V} (e : D[i]? = some o) (h : RV K μ (.ref i) u) : ∃ a, u = .ref a ∧ μ[i]? = some a ∧ RO K μ H a o := by
  obtain ⟨a, ha, rfl⟩ := h
  exact ⟨a, rfl, ha, r.ob i a o ha e⟩
/-- the heap may know more -/
theorem R.more (r : R K B μ D H) (h : ∀ a o, H a = some o → H' a = some o) : R K B μ D H' :=
  ⟨r.len, r.nd, fun i a o ha hd => (r.ob i a o ha hd).mono (Pre.refl _) (h a), r.gl⟩
theorem R.fresh {ho : HO} (r : R K B μ D H) (hp : H p = none) : R K B μ D (upd H p ho) := r.more fun a o e => by
  rw [upd_ne (ne_of_none e hp)]
  exact e
/-- a new thing at the end -/
theorem R.new {ho : HO} (r : R K B μ D H) (hp : H p = none) (hk : o.isK = false) (h : RO K (μ ++ [p]) (upd H p ho) p o) : R K B (μ ++ [p]) (D ++ [o]) (upd H p ho) := by
  have hl := r.len
  have key : ∀ (j : Nat) (a : Addr) (u : Ob), μ[j]? = some a → D[j]? = some u → u.isK = false → a ≠ p := fun j a u ha hd hu => by
    obtain ⟨w, e⟩ := (r.ob j a u ha hd).some hu
    exact ne_of_none e hp
  have split : ∀ (j : Nat) (a : Addr) (u : Ob), (μ ++ [p])[j]? = some a → (D ++ [o])[j]? = some u → (μ[j]? = some a ∧ D[j]? = some u) ∨ (j = D.length ∧ a = p ∧ u = o) := fun j a u ha hd => by
    by_cases hj : j < D.length
    · rw [List.getElem?_append_left (by omega)] at ha
      rw [List.getElem?_append_left hj] at hd
      exact .inl ⟨ha, hd⟩
    · rw [List.getElem?_append_right (by omega)] at ha hd
      have e : j - D.length = 0 := by
        have := (List.getElem?_eq_some_iff.mp hd).1
        simp at this
        omega
      rw [hl, e] at ha
      rw [e] at hd
      simp at ha hd
      exact .inr ⟨by omega, ha.symm, hd.symm⟩
  refine ⟨by simp [hl], fun i j a u w h1 h2 h3 h4 k1 k2 => ?_, fun i a u ha hd => ?_, fun q hq => (Pre.snoc μ p).get (r.gl q hq)⟩
  · rcases split i a u h1 h3 with ⟨g1, g3⟩ | ⟨g1, g2, g3⟩ <;> rcases split j a w h2 h4 with ⟨g4, g5⟩ | ⟨g4, g5, g6⟩
    · exact r.nd i j a u w g1 g4 g3 g5 k1 k2
    · exact absurd g5 (key i a u g1 g3 k1)
    · exact absurd g2 (key j a w g4 g5 k2)
    · omega
  · rcases split i a u ha hd with ⟨g1, g3⟩ | ⟨g1, g2, g3⟩
    · exact (r.ob i a u g1 g3).mono (Pre.snoc μ p) fun w e => by rw [upd_ne (ne_of_none e hp)]; exact e
    · subst g2 g3
      exact h
/-- a thing is changed -/
theorem R.set {ho : HO} (r : R K B μ D H) (e : D[i]? = some o) (ha : μ[i]? = some a) (hk : o.isK = false) (hk' : o'.isK = false) (h : RO K μ (upd H a ho) a o') : R K B μ (D.set i o') (upd H a ho) := by
  have hi := (List.getElem?_eq_some_iff.mp e).1
  have old : ∀ (j : Nat) (u : Ob), j ≠ i → (D.set i o')[j]? = some u → D[j]? = some u := fun j u hj hd => by
    rw [List.getElem?_set_ne (Ne.symm hj)] at hd
    exact hd
  have new : ∀ (u : Ob), (D.set i o')[i]? = some u → u = o' := fun u hd => by
    rw [List.getElem?_set_self hi] at hd
    exact (Option.some.inj hd).symm
  have kk : ∀ (j : Nat) (u : Ob), (D.set i o')[j]? = some u → u.isK = false → ∃ w, D[j]? = some w ∧ w.isK = false := fun j u hd hu => by
    by_cases hj : j = i
    · subst hj
      exact ⟨o, e, hk⟩
    · exact ⟨u, old j u hj hd, hu⟩
  refine ⟨by simp [r.len], fun j k b u w h1 h2 h3 h4 k1 k2 => ?_, fun j b u hb hd => ?_, r.gl⟩
  · obtain ⟨u', g1, g2⟩ := kk j u h3 k1
    obtain ⟨w', g3, g4⟩ := kk k w h4 k2
    exact r.nd j k b u' w' h1 h2 g1 g3 g2 g4
  · by_cases hj : j = i
    · subst hj
      rw [ha] at hb
      cases hb
      rw [new u hd]
      exact h
    · have hd' := old j u hj hd
      have q := r.ob j b u hb hd'
      by_cases hu : u.isK = true
      · exact q.kmono (Pre.refl _) hu
      · have hu' : u.isK = false := by simpa using hu
        have hne : b ≠ a := fun z => hj (r.nd j i b u o hb (by rw [z]; exact ha) hd' e hu' hk)
        exact q.mono (Pre.refl _) fun w ew => by rw [upd_ne hne]; exact ew
end

/-! ### what a piece of the text does -/
inductive Re (α : Type) where
  | ok (a : α) (D : Sto) | exc (c : Str) (fs : List (Str × MV)) (D : Sto) | err
def Re.bind {α β : Type} (m : Re α) (f : α → Sto → Re β) : Re β := match m with
  | .ok a D => f a D
  | .exc c fs D => .exc c fs D
  | .err => .err
abbrev WH := Value → Option Addr → Hp → Prop
abbrev WX' := Value → Option Addr → St → Hp → Prop
/-- the fields of an exception, in its own dict -/
def XF (K : PySem.W.Frag) (μ : List Addr) (H : Hp) (fs : List (Str × MV)) (d : Option Addr) : Prop :=
  (fs = [] ∧ d = none) ∨ ∃ a gs, d = some a ∧ H a = some (.xd gs) ∧ RKs K μ fs gs
section
variable {α β γ δ : Type} (K : PySem.W.Frag) (B : List (Str × Nat))
def Ok (Rel : List Addr → α → β → Prop) (μ : List Addr) (v : α) (D : Sto) (Q : β → Hp → Prop) : Prop := ∀ μ' H u, Pre μ μ' → R K B μ' D H → Rel μ' v u → Q u H
def Exd (μ : List Addr) (c : Str) (fs : List (Str × MV)) (D : Sto) (W : WH) : Prop := ∀ μ' H d, Pre μ μ' → R K B μ' D H → XF K μ' H fs d → W (.ref (He.ga K c)) d H
def Post (Rel : List Addr → α → β → Prop) (W : WH) (μ : List Addr) (r : Re α) (Q : β → Hp → Prop) : Prop := match r with
  | .ok v D => Ok K B Rel μ v D Q
  | .exc c fs D => Exd K B μ c fs D W
  | .err => False
/-- the wish of a plain function over the store -/
def tX (Rel : List Addr → α → β → Prop) (W : WX') (m : Rho → Sto → Re α) : St → Hp → (β → Hp → Prop) → Prop :=
  fun σ H Q => ∃ μ ρ D, Rs K μ ρ σ ∧ R K B μ D H ∧ Post K B Rel (fun c d H' => W c d σ H') μ (m ρ D) Q
/-- what stands behind a first part -/
def Af (Rel : List Addr → α → β → Prop) (σ : St) (P : List Addr → Rho → Sto → α → Prop) : β → Hp → Prop :=
  fun u H => ∃ μ ρ D v, Rs K μ ρ σ ∧ R K B μ D H ∧ Rel μ v u ∧ P μ ρ D v
end
section
variable {α β γ δ : Type} {K : PySem.W.Frag} {B : List (Str × Nat)} {Rel : List Addr → α → β → Prop} {Rel' : List Addr → γ → δ → Prop} {W : WH} {μ ν : List Addr} {σ : St} {H : Hp} {Q : β → Hp → Prop} {Q' : δ → Hp → Prop}
theorem Post.mono {r : Re α} (h : Pre μ ν) (p : Post K B Rel W μ r Q) : Post K B Rel W ν r Q := by
  cases r with
  | ok v D => exact fun μ' H u l => p μ' H u (h.trans l)
  | exc c fs D => exact fun μ' H d l => p μ' H d (h.trans l)
  | err => exact p
theorem Post.imp {r : Re α} {Q1 : β → Hp → Prop} (p : Post K B Rel W μ r Q) (h : ∀ u H, Q u H → Q1 u H) : Post K B Rel W μ r Q1 := by
  cases r with
  | ok v D => exact fun μ' H u l R r => h u H (p μ' H u l R r)
  | exc c fs D => exact p
  | err => exact p
theorem Post.bind {m : Re α} {f : α → Sto → Re γ} (p : Post K B Rel' W μ (m.bind f) Q')
    (h : ∀ μ' D v u H, Pre μ μ' → R K B μ' D H → Rel μ' v u → Post K B Rel' W μ' (f v D) Q' → Q u H) : Post K B Rel W μ m Q := by
  cases m with
  | ok v D => exact fun μ' H u l r rv => h μ' D v u H l r rv (Post.mono l p)
  | exc c fs D => exact p
  | err => exact p
/-- first m, then k -/
theorem tX_seq {W : WX'} {m : Rho → Sto → Re α} {k : α → Rho → Sto → Re γ} (h : tX K B Rel' W (fun ρ D => (m ρ D).bind fun v D' => k v ρ D') σ H Q') :
    tX K B Rel W m σ H (Af K B Rel σ fun μ ρ D v => Post K B Rel' (fun c d H' => W c d σ H') μ (k v ρ D) Q') := by
  obtain ⟨μ, ρ, D, hs, hr, p⟩ := h
  exact ⟨μ, ρ, D, hs, hr, Post.bind p fun μ' D' v u H' l r rv q => ⟨μ', ρ, D', v, hs.mono l, r, rv, q⟩⟩
theorem Af.go {W : WX'} {m : Rho → Sto → Re γ} {P : List Addr → Rho → Sto → α → Prop} {u : β} (h : Af K B Rel σ P u H) (f : ∀ μ ρ D v, Rs K μ ρ σ → R K B μ D H → Rel μ v u → P μ ρ D v → Post K B Rel' (fun c d H' => W c d σ H') μ (m ρ D) Q') : tX K B Rel' W m σ H Q' := by
  obtain ⟨μ, ρ, D, v, hs, hr, rv, p⟩ := h
  exact ⟨μ, ρ, D, hs, hr, f μ ρ D v hs hr rv p⟩
theorem Ok.go {v : α} {D : Sto} {u : β} (h : Ok K B Rel μ v D Q) (r : R K B μ D H) (rv : Rel μ v u) : Q u H := h μ H u (Pre.refl _) r rv
end
abbrev rB : List Addr → Bool → Bool → Prop := fun _ a b => a = b
abbrev rOI : List Addr → Option Int → Option Int → Prop := fun _ a b => a = b
abbrev EM := Rho → Sto → Re MV
abbrev BM := Rho → Sto → Re Bool
abbrev AM := Rho → Sto → Re (List MV)
section
variable (K : PySem.W.Frag) (B : List (Str × Nat))
abbrev tM (W : WX') (m : EM) : TE := tX K B (RV K) W m
abbrev tMB (W : WX') (m : BM) : TT := tX K B rB W m
abbrev tMA (W : WX') (m : AM) : TA := tX K B (RVs K) W m
end
end Mp

set_option Elab.async false
set_option linter.all false
set_option maxRecDepth 100000
namespace Mp
open PySem L2

/-! ### weaker wishes -/
section
variable {X : Cx}
theorem PE.imp {e : Expr} {t t' : TE} (h : PE X e t) (k : ∀ σ H Q, t' σ H Q → t σ H Q) : PE X e t' := ⟨fun pins s σ H Q I q => h.run pins s σ H Q I (k σ H Q q)⟩
theorem PT.imp {e : Expr} {t t' : TT} (h : PT X e t) (k : ∀ σ H Q, t' σ H Q → t σ H Q) : PT X e t' := ⟨fun pins s σ H Q I q => h.run pins s σ H Q I (k σ H Q q)⟩
theorem PA.imp {es : List Expr} {t t' : TA} (h : PA X es t) (k : ∀ σ H Q, t' σ H Q → t σ H Q) : PA X es t' := ⟨fun pos pins s σ H Q I q => h.run pos pins s σ H Q I (k σ H Q q)⟩
theorem PO.imp {e : Option Expr} {t t' : TO} (h : PO X e t) (k : ∀ σ H Q, t' σ H Q → t σ H Q) : PO X e t' := ⟨fun pins s σ H Q I q => h.run pins s σ H Q I (k σ H Q q)⟩
theorem PS.imp {st : Stmt} {t t' : TS} (h : PS X st t) (k : ∀ D σ H, t' D σ H → t D σ H) : PS X st t' := ⟨fun pins s σ H D I q => h.run pins s σ H D I (k D σ H q)⟩
theorem PSs.imp {st : List Stmt} {t t' : TS} (h : PSs X st t) (k : ∀ D σ H, t' D σ H → t D σ H) : PSs X st t' := ⟨fun pins s σ H D I q => h.run pins s σ H D I (k D σ H q)⟩
theorem PE.or {e : Expr} {t t' : TE} (h : PE X e t) (h' : PE X e t') : PE X e (fun σ H Q => t σ H Q ∨ t' σ H Q) := ⟨fun pins s σ H Q I q => q.elim (h.run pins s σ H Q I) (h'.run pins s σ H Q I)⟩
theorem PC.or {op : CmpOp} {a b : Expr} {t t' : TE} (h : PC X op a b t) (h' : PC X op a b t') : PC X op a b (fun σ H Q => t σ H Q ∨ t' σ H Q) := ⟨fun pins s σ H Q I q => q.elim (h.run pins s σ H Q I) (h'.run pins s σ H Q I)⟩
theorem OpR.or {f : Value → Value → Sem Value} {r r' : R2} (h : OpR X f r) (h' : OpR X f r') : OpR X f (fun x y H Q => r x y H Q ∨ r' x y H Q) :=
  fun pins s σ H x y v u Q I rx ry q => q.elim (h pins s σ H x y v u Q I rx ry) (h' pins s σ H x y v u Q I rx ry)
theorem IxR.or {r r' : R2} (h : IxR X r) (h' : IxR X r') : IxR X (fun x y H Q => r x y H Q ∨ r' x y H Q) :=
  fun va sl pins s σ H x y v u Q I rx ry q => q.elim (h va sl pins s σ H x y v u Q I rx ry) (h' va sl pins s σ H x y v u Q I rx ry)
theorem CallR.or {f : Value} {r r' : List V → Hp → VK → Prop} (h : CallR X f r) (h' : CallR X f r') : CallR X f (fun xs H Q => r xs H Q ∨ r' xs H Q) :=
  fun pins s σ H xs us Q I rx q => q.elim (h pins s σ H xs us Q I rx) (h' pins s σ H xs us Q I rx)
end

/-! ### forms -/
def eVar (i : Nat) : EM := fun ρ D => match ρ[i]? with
  | some (some v) => .ok v D
  | _ => .err
def eC (v : MV) : EM := fun _ D => .ok v D
def eOp (p : MV → MV → Sto → Re MV) (a b : EM) : EM := fun ρ D => (a ρ D).bind fun x D1 => (b ρ D1).bind fun y D2 => p x y D2
def eUn (p : MV → Sto → Re MV) (a : EM) : EM := fun ρ D => (a ρ D).bind fun x D1 => p x D1
def aNil : AM := fun _ D => .ok [] D
def aCons (a : EM) (r : AM) : AM := fun ρ D => (a ρ D).bind fun x D1 => (r ρ D1).bind fun xs D2 => .ok (x :: xs) D2
def eCall (p : List MV → Sto → Re MV) (a : AM) : EM := fun ρ D => (a ρ D).bind fun xs D1 => p xs D1
def boolOf (v : MV) (D : Sto) : Re Bool := match v with
  | .bl b => .ok b D
  | _ => .err
def bTest (a : EM) : BM := fun ρ D => (a ρ D).bind fun x D1 => boolOf x D1
def bAnd (a b : BM) : BM := fun ρ D => (a ρ D).bind fun x D1 => if x then b ρ D1 else .ok false D1
def bOr (a b : BM) : BM := fun ρ D => (a ρ D).bind fun x D1 => if x then .ok true D1 else b ρ D1
def bNot (a : BM) : BM := fun ρ D => (a ρ D).bind fun x D1 => .ok (!x) D1
def eAnd (a b : EM) : EM := fun ρ D => (a ρ D).bind fun x D1 => (boolOf x D1).bind fun c D2 => if c then b ρ D2 else .ok (.bl false) D2
def eOr (a b : EM) : EM := fun ρ D => (a ρ D).bind fun x D1 => (boolOf x D1).bind fun c D2 => if c then .ok (.bl true) D2 else b ρ D2
def eNot (a : EM) : EM := fun ρ D => (a ρ D).bind fun x D1 => (boolOf x D1).bind fun c D2 => .ok (.bl (!c)) D2
def eIf (t : BM) (a b : EM) : EM := fun ρ D => (t ρ D).bind fun c D1 => if c then a ρ D1 else b ρ D1
def pIsN (v : MV) (D : Sto) : Re MV := .ok (.bl (decide (v = .non))) D
def pNotN (v : MV) (D : Sto) : Re MV := .ok (.bl (!decide (v = .non))) D

section
variable (K : PySem.W.Frag) (B : List (Str × Nat))
def P1 (r : V → Hp → VK → Prop) (p : MV → Sto → Re MV) : Prop := ∀ μ D H a x (W : WH) (Q : VK), R K B μ D H → RV K μ a x → Post K B (RV K) W μ (p a D) Q → r x H Q
def P2 (r : R2) (p : MV → MV → Sto → Re MV) : Prop := ∀ μ D H a b x y (W : WH) (Q : VK), R K B μ D H → RV K μ a x → RV K μ b y → Post K B (RV K) W μ (p a b D) Q → r x y H Q
def PL (r : List V → Hp → VK → Prop) (p : List MV → Sto → Re MV) : Prop := ∀ μ D H vs ws (W : WH) (Q : VK), R K B μ D H → RVs K μ vs ws → Post K B (RV K) W μ (p vs D) Q → r ws H Q
end

section
variable {X : Cx} {B : List (Str × Nat)} {W : WX'} {ma mb : EM} {a b : Expr} {pos : Pos}
theorem tM_var {K : PySem.W.Frag} {i : Nat} {σ : St} {H : Hp} {Q : VK} (h : tM K B W (eVar i) σ H Q) : tVar i σ H Q := by
  obtain ⟨μ, ρ, D, hs, hr, p⟩ := h
  unfold eVar at p
  cases e : ρ[i]? with
  | none => rw [e] at p; exact p.elim
  | some o =>
    rw [e] at p
    cases o with
    | none => exact p.elim
    | some v =>
      obtain ⟨u, hu, ru⟩ := Pd.get hs e
      cases u with
      | none => exact ru.elim
      | some u => exact ⟨u, hu, Ok.go p hr ru⟩
theorem me_var (i : Nat) {x : Str} {pos : Pos} (hN : X.N[i]? = some x := by rfl) (hv : Vis X.env.scope x := by first | exact Or.inl rfl | exact Or.inr (Or.inl rfl) | exact Or.inr (Or.inr rfl)) (hd : (x == ("__debug__" : Str)) = false := by decide)
    (hcd : (x == ("__classdict__" : Str)) = false := by decide) : PE X (.Name x pos) (tM X.K B W (eVar i)) := PE.imp (pv i hN hv hd hcd) fun _ _ _ => tM_var
theorem tM_c {K : PySem.W.Frag} {v : MV} {u : V} (r : ∀ μ, RV K μ v u) {σ : St} {H : Hp} {Q : VK} (h : tM K B W (eC v) σ H Q) : tC u σ H Q := by
  obtain ⟨μ, ρ, D, hs, hr, p⟩ := h
  exact Ok.go p hr (r μ)
theorem me_int {i : Int} {j : Nat} {pos : Pos} : PE X (.Constant (.int i) j pos) (tM X.K B W (eC (.int i))) := PE.imp pe_int fun _ _ _ h => tM_c (v := .int i) (u := .int i) (fun _ => rfl) h
theorem me_bl {c : Bool} {j : Nat} {pos : Pos} : PE X (.Constant (.bool c) j pos) (tM X.K B W (eC (.bl c))) := PE.imp pe_bl fun _ _ _ h => tM_c (v := .bl c) (u := .bl c) (fun _ => rfl) h
theorem me_non {j : Nat} {pos : Pos} : PE X (.Constant .none j pos) (tM X.K B W (eC .non)) := PE.imp pe_non fun _ _ _ h => tM_c (v := .non) (u := .non) (fun _ => rfl) h
theorem me_str {x : Str} {j : Nat} {pos : Pos} : PE X (.Constant (.str x) j pos) (tM X.K B W (eC (.str x))) := PE.imp pe_str fun _ _ _ h => tM_c (v := .str x) (u := .str x) (fun _ => rfl) h
theorem me_gint {x : Str} {i : Int} {pos : Pos} (hg : Gl X x) (hm : ∃ t, X.mg x = some (.int i t)) (hd : (x == ("__debug__" : Str)) = false := by decide) : PE X (.Name x pos) (tM X.K B W (eC (.int i))) := by
  obtain ⟨t, hm⟩ := hm
  exact PE.imp (pe_glob (v := .int i) hg hm ⟨t, rfl⟩ hd) fun _ _ _ h => tM_c (v := .int i) (u := .int i) (fun _ => rfl) h
theorem me_gstr {x z : Str} {pos : Pos} (hg : Gl X x) (hm : ∃ t, X.mg x = some (.str z t)) (hd : (x == ("__debug__" : Str)) = false := by decide) : PE X (.Name x pos) (tM X.K B W (eC (.str z))) := by
  obtain ⟨t, hm⟩ := hm
  exact PE.imp (pe_glob (v := .str z) hg hm ⟨t, rfl⟩ hd) fun _ _ _ h => tM_c (v := .str z) (u := .str z) (fun _ => rfl) h
theorem me_glo {x : Str} {pos : Pos} (hg : Gl X x) (hm : X.mg x = some (.ref (He.ga X.K x))) (hd : (x == ("__debug__" : Str)) = false := by decide) : PE X (.Name x pos) (tM X.K B W (eC (.glo x))) :=
  PE.imp (pe_glob (v := .ref (He.ga X.K x)) hg hm rfl hd) fun _ _ _ h => tM_c (v := .glo x) (u := .ref (He.ga X.K x)) (fun _ => rfl) h
/-- a tuple of the module's own, at place i of the store -/
theorem me_gtup {x : Str} {i : Nat} {pos : Pos} (hB : (x, i) ∈ B) (hg : Gl X x) (hm : X.mg x = some (.ref (He.ga X.K x))) (hd : (x == ("__debug__" : Str)) = false := by decide) : PE X (.Name x pos) (tM X.K B W (eC (.ref i))) :=
  PE.imp (pe_glob (v := .ref (He.ga X.K x)) hg hm rfl hd) fun σ H Q h => by
    obtain ⟨μ, ρ, D, hs, hr, p⟩ := h
    exact Ok.go p hr ⟨_, hr.gl _ hB, rfl⟩
theorem tM_op {K : PySem.W.Frag} {r : R2} {p : MV → MV → Sto → Re MV} (hp : P2 K B r p) {σ : St} {H : Hp} {Q : VK} (h : tM K B W (eOp p ma mb) σ H Q) : tOp r (tM K B W ma) (tM K B W mb) σ H Q := by
  obtain ⟨μ, ρ, D, hs, hr, q⟩ := h
  refine ⟨μ, ρ, D, hs, hr, Post.bind q fun μ1 D1 x x' H1 l1 r1 v1 q1 => ?_⟩
  refine ⟨μ1, ρ, D1, hs.mono l1, r1, Post.bind q1 fun μ2 D2 y y' H2 l2 r2 v2 q2 => ?_⟩
  exact hp μ2 D2 H2 x y x' y' _ Q r2 (v1.mono l2) v2 q2
theorem me_op {op : Operator} {r : R2} {p : MV → MV → Sto → Re MV} (ho : OpR X (binaryOp op) r) (hp : P2 X.K B r p) (ha : PE X a (tM X.K B W ma)) (hb : PE X b (tM X.K B W mb)) : PE X (.BinOp a op b pos) (tM X.K B W (eOp p ma mb)) :=
  PE.imp (pe_op ho ha hb) fun _ _ _ => tM_op hp
theorem me_cmp {op : CmpOp} {r : R2} {p : MV → MV → Sto → Re MV} (ho : OpR X (compareOp op) r) (hp : P2 X.K B r p) (ha : PE X a (tM X.K B W ma)) (hb : PE X b (tM X.K B W mb)) (hm : behindInMarks op b = false) : PE X (.Compare a [op] [b] pos) (tM X.K B W (eOp p ma mb)) :=
  PE.imp (pe_cmpR ho ha hb hm) fun _ _ _ => tM_op hp
theorem me_un {op : UnaryOp} {r : V → Hp → VK → Prop} {p : MV → Sto → Re MV} (ho : UnR X (unaryOp op) r) (hp : P1 X.K B r p) (ha : PE X a (tM X.K B W ma)) : PE X (.UnaryOp op a pos) (tM X.K B W (eUn p ma)) :=
  PE.imp (pe_un ho ha) fun σ H Q h => by
    obtain ⟨μ, ρ, D, hs, hr, q⟩ := h
    exact ⟨μ, ρ, D, hs, hr, Post.bind q fun μ1 D1 x x' H1 l1 r1 v1 q1 => hp μ1 D1 H1 x x' _ Q r1 v1 q1⟩
theorem rv_non {K : PySem.W.Frag} {μ : List Addr} {v : MV} {u : V} (h : RV K μ v u) : decide (u = V.non) = decide (v = MV.non) := by
  cases v with
  | non => have e : u = .non := h; subst e; simp
  | bl b => have e : u = .bl b := h; subst e; simp
  | int b => have e : u = .int b := h; subst e; simp
  | str b => have e : u = .str b := h; subst e; simp
  | ref b => obtain ⟨a, _, e⟩ := h; subst e; simp
  | glo b => have e : u = .ref (He.ga K b) := h; subst e; simp
theorem me_isN {j : Nat} {pos' : Pos} (ha : PE X a (tM X.K B W ma)) : PE X (.Compare a [.Is] [.Constant .none j pos'] pos) (tM X.K B W (eUn pIsN ma)) :=
  PE.imp (pe_cmp (pc_isN ha)) fun σ H Q h => by
    obtain ⟨μ, ρ, D, hs, hr, q⟩ := h
    refine ⟨μ, ρ, D, hs, hr, Post.bind q fun μ1 D1 x x' H1 l1 r1 v1 q1 => ?_⟩
    show Q (.bl (decide (x' = .non))) H1
    rw [rv_non v1]
    exact Ok.go q1 r1 rfl
theorem me_notN {j : Nat} {pos' : Pos} (ha : PE X a (tM X.K B W ma)) : PE X (.Compare a [.IsNot] [.Constant .none j pos'] pos) (tM X.K B W (eUn pNotN ma)) :=
  PE.imp (pe_cmp (pc_notN ha)) fun σ H Q h => by
    obtain ⟨μ, ρ, D, hs, hr, q⟩ := h
    refine ⟨μ, ρ, D, hs, hr, Post.bind q fun μ1 D1 x x' H1 l1 r1 v1 q1 => ?_⟩
    show Q (.bl (!decide (x' = .non))) H1
    rw [rv_non v1]
    exact Ok.go q1 r1 rfl
/-! arguments -/
theorem ma_nil : PA X [] (tMA X.K B W aNil) := PA.imp pa_nil fun σ H Q h => by
  obtain ⟨μ, ρ, D, hs, hr, q⟩ := h
  exact Ok.go q hr Paired.nil
theorem tMA_cons {K : PySem.W.Frag} {mr : AM} {σ : St} {H : Hp} {Q : List V → Hp → Prop} (h : tMA K B W (aCons ma mr) σ H Q) : tCons (tM K B W ma) (tMA K B W mr) σ H Q := by
  obtain ⟨μ, ρ, D, hs, hr, q⟩ := h
  refine ⟨μ, ρ, D, hs, hr, Post.bind q fun μ1 D1 x x' H1 l1 r1 v1 q1 => ?_⟩
  refine ⟨μ1, ρ, D1, hs.mono l1, r1, Post.bind q1 fun μ2 D2 y y' H2 l2 r2 v2 q2 => ?_⟩
  exact Ok.go q2 r2 (.cons (v1.mono l2) v2)
theorem ma_cons {es : List Expr} {mr : AM} (ha : PE X a (tM X.K B W ma)) (hr : PA X es (tMA X.K B W mr)) (hs : starEach (a :: es) X.env = (false, eval a X.env) :: starEach es X.env := by rfl) : PA X (a :: es) (tMA X.K B W (aCons ma mr)) :=
  PA.imp (pa_cons ha hr hs) fun _ _ _ => tMA_cons
/-! tests -/
theorem boolOf_ok {K : PySem.W.Frag} {μ : List Addr} {v : MV} {u : V} {D : Sto} {Wh : WH} {Q : Bool → Hp → Prop} {H : Hp} (hr : R K B μ D H) (hv : RV K μ v u) (q : Post K B rB Wh μ (boolOf v D) Q) : ∃ c, u = .bl c ∧ Q c H := by
  cases v with
  | bl c => exact ⟨c, hv, Ok.go q hr rfl⟩
  | _ => exact q.elim
theorem boolOf_bind {K : PySem.W.Frag} {α β : Type} {Rel : List Addr → α → β → Prop} {μ : List Addr} {v : MV} {u : V} {D : Sto} {Wh : WH} {Q : β → Hp → Prop} {k : Bool → Sto → Re α} (hv : RV K μ v u) (q : Post K B Rel Wh μ ((boolOf v D).bind k) Q) : ∃ c, u = .bl c ∧ Post K B Rel Wh μ (k c D) Q := by
  cases v with
  | bl c => exact ⟨c, hv, q⟩
  | _ => exact q.elim
theorem tMB_test {K : PySem.W.Frag} {σ : St} {H : Hp} {Q : Bool → Hp → Prop} (h : tMB K B W (bTest ma) σ H Q) : tTest (tM K B W ma) σ H Q := by
  obtain ⟨μ, ρ, D, hs, hr, q⟩ := h
  exact ⟨μ, ρ, D, hs, hr, Post.bind q fun μ1 D1 x x' H1 l1 r1 v1 q1 => boolOf_ok r1 v1 q1⟩
theorem mt_val (ha : PE X a (tM X.K B W ma)) (he : ∀ whole, isTrue a X.env whole = (do let v ← whole; standAt a.pos; holding [v] (truthy v)) := by intro _; rfl) : PT X a (tMB X.K B W (bTest ma)) :=
  PT.imp (pt_val ha he) fun _ _ _ => tMB_test
theorem mt_cmp {op : CmpOp} {r : R2} {p : MV → MV → Sto → Re MV} (ho : OpR X (compareOp op) r) (hp : P2 X.K B r p) (ha : PE X a (tM X.K B W ma)) (hb : PE X b (tM X.K B W mb)) (hm : behindInMarks op b = false) : PT X (.Compare a [op] [b] pos) (tMB X.K B W (bTest (eOp p ma mb))) :=
  PT.imp (pt_cmpR ho ha hb hm) fun σ H Q h => by
    obtain ⟨μ, ρ, D, hs, hr, q⟩ := tMB_test h
    exact tM_op hp ⟨μ, ρ, D, hs, hr, q⟩
theorem mt_isN {j : Nat} {pos' : Pos} (ha : PE X a (tM X.K B W ma)) : PT X (.Compare a [.Is] [.Constant .none j pos'] pos) (tMB X.K B W (bTest (eUn pIsN ma))) :=
  PT.imp (pt_cmp (pc_isN ha)) fun σ H Q h => by
    obtain ⟨μ, ρ, D, hs, hr, q⟩ := tMB_test h
    refine ⟨μ, ρ, D, hs, hr, Post.bind q fun μ1 D1 x x' H1 l1 r1 v1 q1 => ?_⟩
    show ∃ c, V.bl (decide (x' = .non)) = .bl c ∧ Q c H1
    rw [rv_non v1]
    exact Ok.go q1 r1 rfl
theorem mt_notN {j : Nat} {pos' : Pos} (ha : PE X a (tM X.K B W ma)) : PT X (.Compare a [.IsNot] [.Constant .none j pos'] pos) (tMB X.K B W (bTest (eUn pNotN ma))) :=
  PT.imp (pt_cmp (pc_notN ha)) fun σ H Q h => by
    obtain ⟨μ, ρ, D, hs, hr, q⟩ := tMB_test h
    refine ⟨μ, ρ, D, hs, hr, Post.bind q fun μ1 D1 x x' H1 l1 r1 v1 q1 => ?_⟩
    show ∃ c, V.bl (!decide (x' = .non)) = .bl c ∧ Q c H1
    rw [rv_non v1]
    exact Ok.go q1 r1 rfl
variable {ba bb : BM}
theorem tMB_and {K : PySem.W.Frag} {σ : St} {H : Hp} {Q : Bool → Hp → Prop} (h : tMB K B W (bAnd ba bb) σ H Q) : tAnd (tMB K B W ba) (tMB K B W bb) σ H Q := by
  obtain ⟨μ, ρ, D, hs, hr, q⟩ := h
  refine ⟨μ, ρ, D, hs, hr, Post.bind q fun μ1 D1 x x' H1 l1 r1 v1 q1 => ?_⟩
  obtain rfl : x = x' := v1
  cases x with
  | true => exact iteT ⟨μ1, ρ, D1, hs.mono l1, r1, q1⟩
  | false => exact iteF (Ok.go q1 r1 rfl)
theorem tMB_or {K : PySem.W.Frag} {σ : St} {H : Hp} {Q : Bool → Hp → Prop} (h : tMB K B W (bOr ba bb) σ H Q) : tOr (tMB K B W ba) (tMB K B W bb) σ H Q := by
  obtain ⟨μ, ρ, D, hs, hr, q⟩ := h
  refine ⟨μ, ρ, D, hs, hr, Post.bind q fun μ1 D1 x x' H1 l1 r1 v1 q1 => ?_⟩
  obtain rfl : x = x' := v1
  cases x with
  | true => exact iteT (Ok.go q1 r1 rfl)
  | false => exact iteF ⟨μ1, ρ, D1, hs.mono l1, r1, q1⟩
theorem mt_not (ha : PT X a (tMB X.K B W ba)) : PT X (.UnaryOp .Not a pos) (tMB X.K B W (bNot ba)) :=
  PT.imp (pt_not ha) fun σ H Q h => by
    obtain ⟨μ, ρ, D, hs, hr, q⟩ := h
    refine ⟨μ, ρ, D, hs, hr, Post.bind q fun μ1 D1 x x' H1 l1 r1 v1 q1 => ?_⟩
    obtain rfl : x = x' := v1
    exact Ok.go q1 r1 rfl
theorem PW.imp {e : Expr} {t t' : TT} (h : PW X e t) (k : ∀ σ H Q, t' σ H Q → t σ H Q) : PW X e t' := ⟨fun whole pins s σ H Q I q => h.run whole pins s σ H Q I (k σ H Q q)⟩
theorem mw_one (ha : PT X a (tMB X.K B W ba)) : PW X (.BoolOp .And [a] pos) (tMB X.K B W ba) := pw_and1 ha
theorem mw_oneO (ha : PT X a (tMB X.K B W ba)) : PW X (.BoolOp .Or [a] pos) (tMB X.K B W ba) := pw_or1 ha
theorem mw_and {b : Expr} {rest : List Expr} (ha : PT X a (tMB X.K B W ba)) (hb : PW X (.BoolOp .And (b :: rest) pos) (tMB X.K B W bb)) : PW X (.BoolOp .And (a :: b :: rest) pos) (tMB X.K B W (bAnd ba bb)) := PW.imp (pw_and ha hb) fun _ _ _ => tMB_and
theorem mw_or {b : Expr} {rest : List Expr} (ha : PT X a (tMB X.K B W ba)) (hb : PW X (.BoolOp .Or (b :: rest) pos) (tMB X.K B W bb)) : PW X (.BoolOp .Or (a :: b :: rest) pos) (tMB X.K B W (bOr ba bb)) := PW.imp (pw_or ha hb) fun _ _ _ => tMB_or
/-! and, or, not as values; the conditional expression -/
theorem me_one {op : BoolOp} (ha : PE X a (tM X.K B W ma)) : PE X (.BoolOp op [a] pos) (tM X.K B W ma) := pe_one ha
theorem me_and {rest : List Expr} (ha : PE X a (tM X.K B W ma)) (hb : PE X (.BoolOp .And (b :: rest) pos) (tM X.K B W mb)) : PE X (.BoolOp .And (a :: b :: rest) pos) (tM X.K B W (eAnd ma mb)) :=
  PE.imp (pe_and ha hb) fun σ H Q h => by
    obtain ⟨μ, ρ, D, hs, hr, q⟩ := h
    refine ⟨μ, ρ, D, hs, hr, Post.bind q fun μ1 D1 x x' H1 l1 r1 v1 q1 => ?_⟩
    obtain ⟨c, rfl, q2⟩ := boolOf_bind v1 q1
    refine ⟨c, rfl, ?_⟩
    cases c with
    | true => exact iteT ⟨μ1, ρ, D1, hs.mono l1, r1, q2⟩
    | false => exact iteF (Ok.go q2 r1 rfl)
theorem me_or {rest : List Expr} (ha : PE X a (tM X.K B W ma)) (hb : PE X (.BoolOp .Or (b :: rest) pos) (tM X.K B W mb)) : PE X (.BoolOp .Or (a :: b :: rest) pos) (tM X.K B W (eOr ma mb)) :=
  PE.imp (pe_or ha hb) fun σ H Q h => by
    obtain ⟨μ, ρ, D, hs, hr, q⟩ := h
    refine ⟨μ, ρ, D, hs, hr, Post.bind q fun μ1 D1 x x' H1 l1 r1 v1 q1 => ?_⟩
    obtain ⟨c, rfl, q2⟩ := boolOf_bind v1 q1
    refine ⟨c, rfl, ?_⟩
    cases c with
    | true => exact iteT (Ok.go q2 r1 rfl)
    | false => exact iteF ⟨μ1, ρ, D1, hs.mono l1, r1, q2⟩
theorem me_not (ha : PE X a (tM X.K B W ma)) : PE X (.UnaryOp .Not a pos) (tM X.K B W (eNot ma)) :=
  PE.imp (pe_not ha) fun σ H Q h => by
    obtain ⟨μ, ρ, D, hs, hr, q⟩ := h
    refine ⟨μ, ρ, D, hs, hr, Post.bind q fun μ1 D1 x x' H1 l1 r1 v1 q1 => ?_⟩
    obtain ⟨c, rfl, q2⟩ := boolOf_bind v1 q1
    exact ⟨c, rfl, Ok.go q2 r1 rfl⟩
theorem me_if {c : Expr} (hc : PT X c (tMB X.K B W ba)) (ha : PE X a (tM X.K B W ma)) (hb : PE X b (tM X.K B W mb)) : PE X (.IfExp c a b pos) (tM X.K B W (eIf ba ma mb)) :=
  PE.imp (pe_ifExp hc ha hb) fun σ H Q h => by
    obtain ⟨μ, ρ, D, hs, hr, q⟩ := h
    refine ⟨μ, ρ, D, hs, hr, Post.bind q fun μ1 D1 x x' H1 l1 r1 v1 q1 => ?_⟩
    obtain rfl : x = x' := v1
    cases x with
    | true => exact iteT ⟨μ1, ρ, D1, hs.mono l1, r1, q1⟩
    | false => exact iteF ⟨μ1, ρ, D1, hs.mono l1, r1, q1⟩
/-! calls of built-ins -/
theorem tM_call {K : PySem.W.Frag} {am : AM} {r : List V → Hp → VK → Prop} {p : List MV → Sto → Re MV} (hp : PL K B r p) {σ : St} {H : Hp} {Q : VK} (h : tM K B W (eCall p am) σ H Q) : tCB r (tMA K B W am) σ H Q := by
  obtain ⟨μ, ρ, D, hs, hr, q⟩ := h
  exact ⟨μ, ρ, D, hs, hr, Post.bind q fun μ1 D1 x x' H1 l1 r1 v1 q1 => hp μ1 D1 H1 x x' _ Q r1 v1 q1⟩
theorem me_callB {x : Str} {id : String} {r : List V → Hp → VK → Prop} {p : List MV → Sto → Re MV} {e : Expr} {es : List Expr} {am : AM} {p0 : Pos} (hc : CallR X (.builtin id) r) (hp : PL X.K B r p) (hg : Gl X x) (hm : X.mg x = none) (hv : bootBuiltins x = some (.builtin id)) (ha : PA X (e :: es) (tMA X.K B W am))
    (hn : x ≠ "__name__" := by decide) (hdb : (x == ("__debug__" : Str)) = false := by decide)
    (hs : starEach (e :: es) X.env = (false, eval e X.env) :: starEach es X.env := by rfl) (hpl : (backTo pos (starEach es X.env)).any (·.1) = false := by rfl) : PE X (.Call (.Name x p0) (e :: es) [] pos) (tM X.K B W (eCall p am)) :=
  PE.imp (pe_callB hc hg hm hv ha hn hdb hs hpl) fun _ _ _ => tM_call hp
theorem me_callTy {x : Str} {T : String} {r : List V → Hp → VK → Prop} {p : List MV → Sto → Re MV} {e : Expr} {es : List Expr} {am : AM} {p0 : Pos} (hc : CallR X (.type T) r) (hp : PL X.K B r p) (hg : Gl X x) (hm : X.mg x = none) (hv : bootBuiltins x = some (.type T)) (ha : PA X (e :: es) (tMA X.K B W am))
    (hn : x ≠ "__name__" := by decide) (hdb : (x == ("__debug__" : Str)) = false := by decide)
    (hs : starEach (e :: es) X.env = (false, eval e X.env) :: starEach es X.env := by rfl) (hpl : (backTo pos (starEach es X.env)).any (·.1) = false := by rfl) : PE X (.Call (.Name x p0) (e :: es) [] pos) (tM X.K B W (eCall p am)) :=
  PE.imp (pe_callTy hc hg hm hv ha hn hdb hs hpl) fun _ _ _ => tM_call hp
end
end Mp

set_option Elab.async false
set_option linter.all false
set_option maxRecDepth 100000
namespace Mp
open PySem L2

/-! ### what stands at a place -/
/-- a list that may be written | a list or tuple as it is read -/
def lstAt (D : Sto) (i : Nat) : Option (List MV) := match D[i]? with
  | some (.lst xs) => some xs
  | _ => none
def rdL (D : Sto) (i : Nat) : Option (List MV) := match D[i]? with
  | some (.lst xs) => some xs
  | some (.rol xs) => some xs
  | some (.kls xs) => some xs
  | _ => none
def rdT (D : Sto) (i : Nat) : Option (List MV) := match D[i]? with
  | some (.tup xs) => some xs
  | some (.ktp xs) => some xs
  | _ => none
section
variable {K : PySem.W.Frag} {B : List (Str × Nat)} {μ : List Addr} {D : Sto} {H : Hp} {i : Nat} {xs : List MV} {u : V}
theorem lstAt_ok (r : R K B μ D H) (e : lstAt D i = some xs) (h : RV K μ (.ref i) u) : ∃ a ys, u = .ref a ∧ μ[i]? = some a ∧ D[i]? = some (.lst xs) ∧ RVs K μ xs ys ∧ H a = some (.lst ys) := by
  unfold lstAt at e
  cases q : D[i]? with
  | none => rw [q] at e; cases e
  | some o =>
    rw [q] at e
    cases o with
    | lst zs =>
      cases e
      obtain ⟨a, rfl, ha, ys, ry, hy⟩ := r.ref q h
      exact ⟨a, ys, rfl, ha, rfl, ry, hy⟩
    | _ => cases e
theorem rdL_ok (r : R K B μ D H) (e : rdL D i = some xs) (h : RV K μ (.ref i) u) : ∃ a ys, u = .ref a ∧ RVs K μ xs ys ∧ SqL K H a ys := by
  unfold rdL at e
  cases q : D[i]? with
  | none => rw [q] at e; cases e
  | some o =>
    rw [q] at e
    cases o with
    | lst zs =>
      cases e
      obtain ⟨a, rfl, ha, ys, ry, hy⟩ := r.ref q h
      exact ⟨a, ys, rfl, ry, SqL.of hy⟩
    | rol zs =>
      cases e
      obtain ⟨a, rfl, ha, ys, o, ry, hy⟩ := r.ref q h
      exact ⟨a, ys, rfl, ry, .inl (.inr ⟨o, hy⟩)⟩
    | kls zs =>
      cases e
      obtain ⟨a, rfl, ha, ys, ry, hy⟩ := r.ref q h
      exact ⟨a, ys, rfl, ry, hy H⟩
    | _ => cases e
theorem rdT_ok (r : R K B μ D H) (e : rdT D i = some xs) (h : RV K μ (.ref i) u) : ∃ a ys, u = .ref a ∧ RVs K μ xs ys ∧ SqT K H a ys := by
  unfold rdT at e
  cases q : D[i]? with
  | none => rw [q] at e; cases e
  | some o =>
    rw [q] at e
    cases o with
    | tup zs =>
      cases e
      obtain ⟨a, rfl, ha, ys, ry, hy⟩ := r.ref q h
      exact ⟨a, ys, rfl, ry, SqT.of hy⟩
    | ktp zs =>
      cases e
      obtain ⟨a, rfl, ha, ys, ry, hy⟩ := r.ref q h
      exact ⟨a, ys, rfl, ry, hy H⟩
    | _ => cases e
end

/-! ### data as a whole -/
def atomD : MV → Option PyData
  | .non => some .none
  | .bl b => some (.bool b)
  | .int i => some (.int i)
  | .str x => some (.str x)
  | _ => none
def rdD : Nat → Sto → MV → Option PyData
  | 0, _, v => atomD v
  | n + 1, D, v => match v with
    | .ref i => match D[i]? with
      | some (.lst xs) => (xs.mapM (rdD n D)).map .list
      | some (.rol xs) => (xs.mapM (rdD n D)).map .list
      | some (.kls xs) => (xs.mapM (rdD n D)).map .list
      | some (.tup xs) => (xs.mapM (rdD n D)).map .tuple
      | some (.ktp xs) => (xs.mapM (rdD n D)).map .tuple
      | _ => none
    | v => atomD v
theorem mapM_pd {α β : Type} {f : α → Option β} : ∀ {xs : List α} {ds : List β}, xs.mapM f = some ds → Paired (fun x d => f x = some d) xs ds
  | [], ds, h => by
    simp at h
    subst h
    exact .nil
  | x :: xs, ds, h => by
    rw [List.mapM_cons] at h
    cases e : f x with
    | none => rw [e] at h; simp at h
    | some d =>
      rw [e] at h
      cases e2 : xs.mapM f with
      | none => rw [e2] at h; simp at h
      | some ds' =>
        rw [e2] at h
        simp at h
        subst h
        exact .cons e (mapM_pd e2)
section
variable {K : PySem.W.Frag} {B : List (Str × Nat)} {μ : List Addr} {D : Sto} {H : Hp}
theorem atomD_ok : ∀ {v : MV} {u : V} {d : PyData}, atomD v = some d → RV K μ v u → Dp K H u d
  | .non, u, d, h, r => by cases h; obtain rfl : u = .non := r; exact .non
  | .bl b, u, d, h, r => by cases h; obtain rfl : u = .bl b := r; exact .bl b
  | .int b, u, d, h, r => by cases h; obtain rfl : u = .int b := r; exact .int b
  | .str b, u, d, h, r => by cases h; obtain rfl : u = .str b := r; exact .str b
  | .ref _, _, _, h, _ => by cases h
  | .glo _, _, _, h, _ => by cases h
theorem dpAll_ok {f : MV → Option PyData} (hf : ∀ v u d, f v = some d → RV K μ v u → Dp K H u d) : ∀ {xs : List MV} {ds : List PyData} {ys : List V}, Paired (fun x d => f x = some d) xs ds → RVs K μ xs ys → DpAll K H ys ds
  | _, _, _, .nil, .nil => .nil
  | _, _, _, .cons e t, .cons r s => .cons (hf _ _ _ e r) (dpAll_ok hf t s)
theorem rdD_ok (r : R K B μ D H) : ∀ (n : Nat) (v : MV) (u : V) (d : PyData), rdD n D v = some d → RV K μ v u → Dp K H u d
  | 0, v, u, d, h, rv => atomD_ok h rv
  | n + 1, .ref i, u, d, h, rv => by
    unfold rdD at h
    dsimp only at h
    cases q : D[i]? with
    | none => rw [q] at h; cases h
    | some o =>
      rw [q] at h
      cases o with
      | lst xs =>
        dsimp only at h
        obtain ⟨ds, e, rfl⟩ := Option.map_eq_some_iff.mp h
        obtain ⟨a, ys, rfl, ry, hs⟩ := rdL_ok (xs := xs) r (by unfold rdL; rw [q]) rv
        exact .lst hs (dpAll_ok (rdD_ok r n) (mapM_pd e) ry)
      | rol xs =>
        dsimp only at h
        obtain ⟨ds, e, rfl⟩ := Option.map_eq_some_iff.mp h
        obtain ⟨a, ys, rfl, ry, hs⟩ := rdL_ok (xs := xs) r (by unfold rdL; rw [q]) rv
        exact .lst hs (dpAll_ok (rdD_ok r n) (mapM_pd e) ry)
      | kls xs =>
        dsimp only at h
        obtain ⟨ds, e, rfl⟩ := Option.map_eq_some_iff.mp h
        obtain ⟨a, ys, rfl, ry, hs⟩ := rdL_ok (xs := xs) r (by unfold rdL; rw [q]) rv
        exact .lst hs (dpAll_ok (rdD_ok r n) (mapM_pd e) ry)
      | tup xs =>
        dsimp only at h
        obtain ⟨ds, e, rfl⟩ := Option.map_eq_some_iff.mp h
        obtain ⟨a, ys, rfl, ry, hs⟩ := rdT_ok (xs := xs) r (by unfold rdT; rw [q]) rv
        exact .tup hs (dpAll_ok (rdD_ok r n) (mapM_pd e) ry)
      | ktp xs =>
        dsimp only at h
        obtain ⟨ds, e, rfl⟩ := Option.map_eq_some_iff.mp h
        obtain ⟨a, ys, rfl, ry, hs⟩ := rdT_ok (xs := xs) r (by unfold rdT; rw [q]) rv
        exact .tup hs (dpAll_ok (rdD_ok r n) (mapM_pd e) ry)
      | _ => cases h
  | n + 1, .non, u, d, h, rv => atomD_ok (by unfold rdD at h; exact h) rv
  | n + 1, .bl _, u, d, h, rv => atomD_ok (by unfold rdD at h; exact h) rv
  | n + 1, .int _, u, d, h, rv => atomD_ok (by unfold rdD at h; exact h) rv
  | n + 1, .str _, u, d, h, rv => atomD_ok (by unfold rdD at h; exact h) rv
  | n + 1, .glo _, u, d, h, rv => atomD_ok (by unfold rdD at h; exact h) rv
end
/-- the data that v tells, if it may be compared -/
def datD (D : Sto) (v : MV) : Option PyData := (rdD 65 D v).bind fun d => if SeqAt.shaped d then some d else none
theorem datD_ok {K : PySem.W.Frag} {B : List (Str × Nat)} {μ : List Addr} {D : Sto} {H : Hp} {v : MV} {u : V} {d : PyData} (r : R K B μ D H) (h : datD D v = some d) (rv : RV K μ v u) : Dp K H u d ∧ SeqAt.shaped d = true := by
  unfold datD at h
  cases e : rdD 65 D v with
  | none => rw [e] at h; cases h
  | some d' =>
    rw [e] at h
    by_cases c : SeqAt.shaped d' = true
    · simp [c] at h
      subst h
      exact ⟨rdD_ok r 65 v u d' e rv, c⟩
    · simp [c] at h

/-! ### operators -/
def ok? {α : Type} (o : Option α) (D : Sto) : Re α := match o with
  | some v => .ok v D
  | none => .err
def pEq (a b : MV) (D : Sto) : Re MV := match datD D a, datD D b with
  | some d, some e => .ok (.bl (PyData.eqv d e)) D
  | _, _ => .err
def pNe (a b : MV) (D : Sto) : Re MV := match datD D a, datD D b with
  | some d, some e => .ok (.bl (!PyData.eqv d e)) D
  | _, _ => .err
def pInt (C : Int → Int → Bool) (g : Int → Int → MV) (a b : MV) (D : Sto) : Re MV := match a, b with
  | .int i, .int j => if C i j then .ok (g i j) D else .err
  | _, _ => .err
def new (o : Ob) (D : Sto) : Re MV := .ok (.ref D.length) (D ++ [o])
def pAdd (a b : MV) (D : Sto) : Re MV := match a, b with
  | .int i, .int j => .ok (.int (i + j)) D
  | .str x, .str y => if x.length + y.length ≤ sizeLine then .ok (.str (x ++ y)) D else .err
  | .ref i, .ref j => match D[i]?, D[j]? with
    | some (.lst xs), some (.lst ys) => if xs.length + ys.length ≤ sizeLine then new (.lst (xs ++ ys)) D else .err
    | some (.tup xs), some (.tup ys) => if xs.length + ys.length ≤ sizeLine then (if xs.isEmpty then .ok (.ref j) D else if ys.isEmpty then .ok (.ref i) D else new (.tup (xs ++ ys)) D) else .err
    | _, _ => .err
  | _, _ => .err
def pSub : MV → MV → Sto → Re MV := pInt (fun _ _ => true) fun i j => .int (i - j)
def pLt : MV → MV → Sto → Re MV := pInt (fun _ _ => true) fun i j => .bl (decide (i < j))
def pLe : MV → MV → Sto → Re MV := pInt (fun _ _ => true) fun i j => .bl (decide (i ≤ j))
def pGt : MV → MV → Sto → Re MV := pInt (fun _ _ => true) fun i j => .bl (decide (j < i))
def pGe : MV → MV → Sto → Re MV := pInt (fun _ _ => true) fun i j => .bl (decide (j ≤ i))
def pMod : MV → MV → Sto → Re MV := pInt (fun _ j => decide (j ≠ 0)) fun i j => .int (i.fmod j)
def pFdiv : MV → MV → Sto → Re MV := pInt (fun _ j => decide (j ≠ 0 ∧ j.natAbs < 1073741824)) fun i j => .int (i.fdiv j)
def smallI (i : Int) : Bool := decide (-(2 ^ 64) < i ∧ i < 2 ^ 64)
def pMul (a b : MV) (D : Sto) : Re MV := match a, b with
  | .int i, .int j => if smallI i || smallI j then .ok (.int (i * j)) D else .err
  | .ref l, .int k => match D[l]? with
    | some (.lst xs) => if -(2 ^ 63) ≤ k ∧ k < 2 ^ 63 ∧ xs.length * k.toNat ≤ sizeLine then new (.lst (List.replicate k.toNat xs).flatten) D else .err
    | _ => .err
  | _, _ => .err
def keyOf : MV → Option Key
  | .int i => some (.inl i)
  | .str x => some (.inr x)
  | _ => none
def tkeyOf (D : Sto) : MV → Option (List Key)
  | .ref i => match D[i]? with
    | some (.tup xs) => xs.mapM keyOf
    | _ => none
  | _ => none
def flatM : MV → Bool
  | .non => true
  | .bl _ => true
  | .int _ => true
  | .str _ => true
  | _ => false
def eqM : MV → MV → Bool
  | .non, .non => true
  | .bl a, .bl b => a == b
  | .bl a, .int b => (if a then 1 else 0) == b
  | .int a, .bl b => a == (if b then 1 else 0)
  | .int a, .int b => a == b
  | .str a, .str b => a == b
  | _, _ => false
def lookM {κ : Type} [DecidableEq κ] (kvs : List (κ × MV)) (k : κ) : Option MV := (kvs.find? fun kv => decide (kv.1 = k)).map (·.2)
def putM {κ : Type} [DecidableEq κ] (kvs : List (κ × MV)) (k : κ) (v : MV) : List (κ × MV) :=
  if kvs.any (fun kv => decide (kv.1 = k)) then kvs.map (fun kv => if kv.1 = k then (kv.1, v) else kv) else kvs ++ [(k, v)]
def inStr (x y : Str) : Bool := match x.cps.toList with
  | [c] => decide (c ∈ y.cps.toList)
  | _ => !(Builtin.Str.occurrences y x 0 y.length 1).isEmpty
def inB (a b : MV) (D : Sto) : Option Bool := match b with
  | .str y => match a with
    | .str x => some (inStr x y)
    | _ => none
  | .ref j => match D[j]? with
    | some (.lst _) => match datD D a, datD D b with
      | some d, some (.list ds) => some (ds.any fun z => PyData.eqv z d)
      | _, _ => none
    | some (.tup ys) => if flatM a && ys.all flatM then some (ys.any fun y => eqM y a) else none
    | some (.ktp ys) => if flatM a && ys.all flatM then some (ys.any fun y => eqM y a) else none
    | some (.dic kvs) => (keyOf a).map fun k => (lookM kvs k).isSome
    | some (.dit kvs) => (tkeyOf D a).map fun k => (lookM kvs k).isSome
    | _ => none
  | _ => none
def pIn (a b : MV) (D : Sto) : Re MV := ok? ((inB a b D).map .bl) D
def pNotIn (a b : MV) (D : Sto) : Re MV := ok? ((inB a b D).map fun c => .bl (!c)) D
def ixAt (a b : MV) (D : Sto) : Option MV := match a with
  | .str z => match b with
    | .int i => if z.length ≤ sizeLine then (atI z.cps.toList i).map fun c => .str ⟨#[c]⟩ else none
    | _ => none
  | .ref j => match D[j]? with
    | some (.lst xs) => match b with
      | .int i => atI xs i
      | _ => none
    | some (.rol xs) => match b with
      | .int i => atI xs i
      | _ => none
    | some (.tup xs) => match b with
      | .int i => atI xs i
      | _ => none
    | some (.ktp xs) => match b with
      | .int i => atI xs i
      | _ => none
    | some (.dic kvs) => (keyOf b).bind fun k => lookM kvs k
    | some (.dit kvs) => (tkeyOf D b).bind fun k => lookM kvs k
    | _ => none
  | _ => none
def pIx (a b : MV) (D : Sto) : Re MV := ok? (ixAt a b D) D

section
variable {X : Cx} {B : List (Str × Nat)}
theorem p2_eq : P2 X.K B (rEqD X.K) pEq := fun μ D H a b x y W Q r ra rb p => by
  unfold pEq at p
  cases e1 : datD D a with
  | none => rw [e1] at p; exact p.elim
  | some d =>
    cases e2 : datD D b with
    | none => rw [e1, e2] at p; exact p.elim
    | some d' =>
      rw [e1, e2] at p
      obtain ⟨h1, h2⟩ := datD_ok r e1 ra
      obtain ⟨h3, h4⟩ := datD_ok r e2 rb
      exact ⟨d, d', h1, h3, h2, h4, Ok.go p r rfl⟩
theorem p2_ne : P2 X.K B (rNeD X.K) pNe := fun μ D H a b x y W Q r ra rb p => by
  unfold pNe at p
  cases e1 : datD D a with
  | none => rw [e1] at p; exact p.elim
  | some d =>
    cases e2 : datD D b with
    | none => rw [e1, e2] at p; exact p.elim
    | some d' =>
      rw [e1, e2] at p
      obtain ⟨h1, h2⟩ := datD_ok r e1 ra
      obtain ⟨h3, h4⟩ := datD_ok r e2 rb
      exact ⟨d, d', h1, h3, h2, h4, Ok.go p r rfl⟩
theorem pInt_ok {K : PySem.W.Frag} {μ : List Addr} {D : Sto} {H : Hp} {C : Int → Int → Bool} {g : Int → Int → MV} {gv : Int → Int → V} {a b : MV} {x y : V} {W : WH} {Q : VK} (hg : ∀ μ i j, RV K μ (g i j) (gv i j)) (r : R K B μ D H) (ra : RV K μ a x) (rb : RV K μ b y)
    (p : Post K B (RV K) W μ (pInt C g a b D) Q) : ∃ i j, x = .int i ∧ y = .int j ∧ C i j = true ∧ Q (gv i j) H := by
  cases a with
  | int i =>
    cases b with
    | int j =>
      unfold pInt at p
      dsimp only at p
      by_cases c : C i j = true
      · rw [if_pos c] at p
        exact ⟨i, j, ra, rb, c, Ok.go p r (hg μ i j)⟩
      · rw [if_neg c] at p
        exact p.elim
    | _ => exact p.elim
  | _ => exact p.elim
theorem p2_sub : P2 X.K B (rI0 fun i j => .int (i - j)) pSub := fun μ D H a b x y W Q r ra rb p => by
  obtain ⟨i, j, h1, h2, _, q⟩ := pInt_ok (g := fun i j => .int (i - j)) (gv := fun i j => .int (i - j)) (fun _ _ _ => rfl) r ra rb p
  exact ⟨i, j, h1, h2, q⟩
theorem p2_lt : P2 X.K B (rI0 fun i j => .bl (decide (i < j))) pLt := fun μ D H a b x y W Q r ra rb p => by
  obtain ⟨i, j, h1, h2, _, q⟩ := pInt_ok (g := fun i j => .bl (decide (i < j))) (gv := fun i j => .bl (decide (i < j))) (fun _ _ _ => rfl) r ra rb p
  exact ⟨i, j, h1, h2, q⟩
theorem p2_le : P2 X.K B (rI0 fun i j => .bl (decide (i ≤ j))) pLe := fun μ D H a b x y W Q r ra rb p => by
  obtain ⟨i, j, h1, h2, _, q⟩ := pInt_ok (g := fun i j => .bl (decide (i ≤ j))) (gv := fun i j => .bl (decide (i ≤ j))) (fun _ _ _ => rfl) r ra rb p
  exact ⟨i, j, h1, h2, q⟩
theorem p2_gt : P2 X.K B (rI0 fun i j => .bl (decide (j < i))) pGt := fun μ D H a b x y W Q r ra rb p => by
  obtain ⟨i, j, h1, h2, _, q⟩ := pInt_ok (g := fun i j => .bl (decide (j < i))) (gv := fun i j => .bl (decide (j < i))) (fun _ _ _ => rfl) r ra rb p
  exact ⟨i, j, h1, h2, q⟩
theorem p2_ge : P2 X.K B (rI0 fun i j => .bl (decide (j ≤ i))) pGe := fun μ D H a b x y W Q r ra rb p => by
  obtain ⟨i, j, h1, h2, _, q⟩ := pInt_ok (g := fun i j => .bl (decide (j ≤ i))) (gv := fun i j => .bl (decide (j ≤ i))) (fun _ _ _ => rfl) r ra rb p
  exact ⟨i, j, h1, h2, q⟩
theorem p2_mod : P2 X.K B (rI (fun _ j => j ≠ 0) fun i j => .int (i.fmod j)) pMod := fun μ D H a b x y W Q r ra rb p => by
  obtain ⟨i, j, h1, h2, h3, q⟩ := pInt_ok (g := fun i j => .int (i.fmod j)) (gv := fun i j => .int (i.fmod j)) (fun _ _ _ => rfl) r ra rb p
  exact ⟨i, j, h1, h2, of_decide_eq_true h3, q⟩
theorem p2_fdiv : P2 X.K B (rI CDivN fun i j => .int (i.fdiv j)) pFdiv := fun μ D H a b x y W Q r ra rb p => by
  obtain ⟨i, j, h1, h2, h3, q⟩ := pInt_ok (g := fun i j => .int (i.fdiv j)) (gv := fun i j => .int (i.fdiv j)) (fun _ _ _ => rfl) r ra rb p
  have h4 : j ≠ 0 ∧ j.natAbs < 1073741824 := of_decide_eq_true h3
  exact ⟨i, j, h1, h2, h4, q⟩
/-- a new thing as an answer -/
theorem new_ok {K : PySem.W.Frag} {μ : List Addr} {D : Sto} {H : Hp} {o : Ob} {ho : HO} {p : Addr} {W : WH} {Q : VK} (r : R K B μ D H) (q : Post K B (RV K) W μ (new o D) Q) (hp : H p = none) (hk : o.isK = false) (h : RO K (μ ++ [p]) (upd H p ho) p o) : Q (.ref p) (upd H p ho) := by
  refine q (μ ++ [p]) _ _ (Pre.snoc μ p) (r.new hp hk h) ⟨p, ?_, rfl⟩
  rw [← r.len]
  simp
theorem new_lst {K : PySem.W.Frag} {μ : List Addr} {D : Sto} {H : Hp} {xs : List MV} {ys : List V} {p : Addr} {W : WH} {Q : VK} (r : R K B μ D H) (q : Post K B (RV K) W μ (new (.lst xs) D) Q) (hp : H p = none) (h : RVs K μ xs ys) : Q (.ref p) (upd H p (.lst ys)) :=
  new_ok r q hp rfl ⟨ys, h.mono (Pre.snoc μ p), upd_same⟩
theorem new_tup {K : PySem.W.Frag} {μ : List Addr} {D : Sto} {H : Hp} {xs : List MV} {ys : List V} {p : Addr} {W : WH} {Q : VK} (r : R K B μ D H) (q : Post K B (RV K) W μ (new (.tup xs) D) Q) (hp : H p = none) (h : RVs K μ xs ys) : Q (.ref p) (upd H p (.tup ys)) :=
  new_ok r q hp rfl ⟨ys, h.mono (Pre.snoc μ p), upd_same⟩
theorem RVs.nil_iff {K : PySem.W.Frag} {μ : List Addr} {xs : List MV} {ys : List V} (h : RVs K μ xs ys) : ys = [] ↔ xs = [] := by
  cases h with
  | nil => simp
  | cons _ _ => simp
def rAddA (K : PySem.W.Frag) : R2 := fun x y H Q => (rI0 (fun i j => V.int (i + j)) x y H Q ∨ ∃ i j, x = V.str i ∧ y = V.str j ∧ i.length + j.length ≤ sizeLine ∧ Q (V.str (i ++ j)) H) ∨ (rCat x y H Q ∨ rCatA K x y H Q)
theorem op_addA : OpR X (binaryOp .Add) (rAddA X.K) := OpR.or (OpR.or op_add op_add_str) (OpR.or op_cat op_catA)
theorem p2_add : P2 X.K B (rAddA X.K) pAdd := fun μ D H a b x y W Q r ra rb p => by
  cases a with
  | int i =>
    cases b with
    | int j => exact .inl (.inl ⟨i, j, ra, rb, Ok.go p r rfl⟩)
    | _ => exact p.elim
  | str i =>
    cases b with
    | str j =>
      unfold pAdd at p
      dsimp only at p
      by_cases c : i.length + j.length ≤ sizeLine
      · rw [if_pos c] at p
        exact .inl (.inr ⟨i, j, ra, rb, c, Ok.go p r rfl⟩)
      · rw [if_neg c] at p
        exact p.elim
    | _ => exact p.elim
  | ref i =>
    cases b with
    | ref j =>
      unfold pAdd at p
      dsimp only at p
      cases e1 : D[i]? with
      | none => rw [e1] at p; exact p.elim
      | some o1 =>
        cases e2 : D[j]? with
        | none => rw [e1, e2] at p; cases o1 <;> exact p.elim
        | some o2 =>
          rw [e1, e2] at p
          cases o1 with
          | lst xs =>
            cases o2 with
            | lst ys =>
              dsimp only at p
              by_cases c : xs.length + ys.length ≤ sizeLine
              · rw [if_pos c] at p
                obtain ⟨a1, rfl, _, us, ru, hu⟩ := r.ref e1 ra
                obtain ⟨a2, rfl, _, vs, rv, hv⟩ := r.ref e2 rb
                refine .inr (.inl ⟨a1, a2, us, vs, rfl, rfl, hu, hv, by rw [← Pd.len ru, ← Pd.len rv]; exact c, fun p' hp => new_lst r p hp (Pd.append ru rv)⟩)
              · rw [if_neg c] at p
                exact p.elim
            | _ => exact p.elim
          | tup xs =>
            cases o2 with
            | tup ys =>
              dsimp only at p
              by_cases c : xs.length + ys.length ≤ sizeLine
              · rw [if_pos c] at p
                have ra' := ra
                have rb' := rb
                obtain ⟨a1, rfl, _, us, ru, hu⟩ := r.ref e1 ra
                obtain ⟨a2, rfl, _, vs, rv, hv⟩ := r.ref e2 rb
                refine .inr (.inr ⟨a1, a2, us, vs, rfl, rfl, SqT.of hu, SqT.of hv, by rw [← Pd.len ru, ← Pd.len rv]; exact c, fun z => ?_, fun z z' => ?_, fun z z' p' hp => ?_⟩)
                · obtain rfl := ru.nil_iff.mp z
                  exact Ok.go (show Post X.K B (RV X.K) W μ (.ok (.ref j) D) Q from p) r rb'
                · obtain rfl := rv.nil_iff.mp z'
                  have n : xs.isEmpty = false := by cases xs with
                    | nil => exact absurd (ru.nil_iff.mpr rfl) z
                    | cons _ _ => rfl
                  rw [n] at p
                  exact Ok.go (show Post X.K B (RV X.K) W μ (.ok (.ref i) D) Q from p) r ra'
                · have n : xs.isEmpty = false := by cases xs with
                    | nil => exact absurd (ru.nil_iff.mpr rfl) z
                    | cons _ _ => rfl
                  have n' : ys.isEmpty = false := by cases ys with
                    | nil => exact absurd (rv.nil_iff.mpr rfl) z'
                    | cons _ _ => rfl
                  rw [n, n'] at p
                  exact new_tup r p hp (Pd.append ru rv)
              · rw [if_neg c] at p
                exact p.elim
            | _ => exact p.elim
          | _ => exact p.elim
    | _ => exact p.elim
  | _ => exact p.elim
def rMulA : R2 := fun x y H Q => rI CMul (fun i j => V.int (i * j)) x y H Q ∨ rRep x y H Q
theorem op_mulA : OpR X (binaryOp .Mult) rMulA := OpR.or op_mul op_rep
theorem Pd.flat {α β : Type} {F : α → β → Prop} {xs : List α} {ys : List β} (h : Paired F xs ys) : ∀ n, Paired F (List.replicate n xs).flatten (List.replicate n ys).flatten
  | 0 => .nil
  | n + 1 => by
    rw [List.replicate_succ, List.replicate_succ, List.flatten_cons, List.flatten_cons]
    exact Pd.append h (Pd.flat h n)
theorem p2_mul : P2 X.K B rMulA pMul := fun μ D H a b x y W Q r ra rb p => by
  cases a with
  | int i =>
    cases b with
    | int j =>
      unfold pMul at p
      dsimp only at p
      by_cases c : (smallI i || smallI j) = true
      · rw [if_pos c] at p
        refine .inl ⟨i, j, ra, rb, ?_, Ok.go p r rfl⟩
        rcases (Bool.or_eq_true _ _).mp c with c | c
        · exact .inl (of_decide_eq_true c)
        · exact .inr (of_decide_eq_true c)
      · rw [if_neg c] at p
        exact p.elim
    | _ => exact p.elim
  | ref l =>
    cases b with
    | int k =>
      unfold pMul at p
      dsimp only at p
      cases e1 : D[l]? with
      | none => rw [e1] at p; exact p.elim
      | some o1 =>
        rw [e1] at p
        cases o1 with
        | lst xs =>
          dsimp only at p
          by_cases c : -(2 ^ 63) ≤ k ∧ k < 2 ^ 63 ∧ xs.length * k.toNat ≤ sizeLine
          · rw [if_pos c] at p
            obtain ⟨a1, rfl, _, us, ru, hu⟩ := r.ref e1 ra
            exact .inr ⟨a1, k, us, rfl, rb, hu, c.1, c.2.1, by rw [← Pd.len ru]; exact c.2.2, fun p' hp => new_lst r p hp (Pd.flat ru _)⟩
          · rw [if_neg c] at p
            exact p.elim
        | _ => exact p.elim
    | _ => exact p.elim
  | _ => exact p.elim
end
end Mp

set_option Elab.async false
set_option linter.all false
set_option maxRecDepth 100000
namespace Mp
open PySem L2

theorem ok?_ok {K : PySem.W.Frag} {B : List (Str × Nat)} {α β : Type} {Rel : List Addr → α → β → Prop} {μ : List Addr} {D : Sto} {H : Hp} {o : Option α} {W : WH} {Q : β → Hp → Prop} (r : R K B μ D H) (p : Post K B Rel W μ (ok? o D) Q) : ∃ v, o = some v ∧ ∀ u, Rel μ v u → Q u H := by
  cases o with
  | none => exact p.elim
  | some v => exact ⟨v, rfl, fun u h => Ok.go p r h⟩
section
variable {K : PySem.W.Frag} {μ : List Addr}
theorem flatM_ok {v : MV} {u : V} (h : flatM v = true) (r : RV K μ v u) : flatV u = true := by
  cases v with
  | non => obtain rfl : u = .non := r; rfl
  | bl b => obtain rfl : u = .bl b := r; rfl
  | int b => obtain rfl : u = .int b := r; rfl
  | str b => obtain rfl : u = .str b := r; rfl
  | _ => cases h
theorem eqM_ok {v w : MV} {u z : V} (hv : flatM v = true) (hw : flatM w = true) (r : RV K μ v u) (s : RV K μ w z) : eqV u z = eqM v w := by
  cases v with
  | non =>
    obtain rfl : u = .non := r
    cases w with
    | non => obtain rfl : z = .non := s; rfl
    | bl c => obtain rfl : z = .bl c := s; rfl
    | int c => obtain rfl : z = .int c := s; rfl
    | str c => obtain rfl : z = .str c := s; rfl
    | _ => cases hw
  | bl b =>
    obtain rfl : u = .bl b := r
    cases w with
    | non => obtain rfl : z = .non := s; rfl
    | bl c => obtain rfl : z = .bl c := s; rfl
    | int c => obtain rfl : z = .int c := s; rfl
    | str c => obtain rfl : z = .str c := s; rfl
    | _ => cases hw
  | int b =>
    obtain rfl : u = .int b := r
    cases w with
    | non => obtain rfl : z = .non := s; rfl
    | bl c => obtain rfl : z = .bl c := s; rfl
    | int c => obtain rfl : z = .int c := s; rfl
    | str c => obtain rfl : z = .str c := s; rfl
    | _ => cases hw
  | str b =>
    obtain rfl : u = .str b := r
    cases w with
    | non => obtain rfl : z = .non := s; rfl
    | bl c => obtain rfl : z = .bl c := s; rfl
    | int c => obtain rfl : z = .int c := s; rfl
    | str c => obtain rfl : z = .str c := s; rfl
    | _ => cases hw
  | _ => cases hv
theorem flatMs_ok : ∀ {xs : List MV} {ys : List V}, xs.all flatM = true → RVs K μ xs ys → ys.all flatV = true
  | _, _, _, .nil => rfl
  | x :: xs, y :: ys, h, .cons r t => by
    rw [List.all_cons, Bool.and_eq_true] at h ⊢
    exact ⟨flatM_ok h.1 r, flatMs_ok h.2 t⟩
theorem inM_ok {v : MV} {u : V} (hv : flatM v = true) (r : RV K μ v u) : ∀ {xs : List MV} {ys : List V}, xs.all flatM = true → RVs K μ xs ys → inV u ys = xs.any fun y => eqM y v
  | _, _, _, .nil => rfl
  | x :: xs, y :: ys, h, .cons q t => by
    rw [List.all_cons, Bool.and_eq_true] at h
    unfold inV
    rw [List.any_cons, List.any_cons, eqM_ok h.1 hv q r]
    have e := inM_ok hv r h.2 t
    unfold inV at e
    rw [e]
theorem keyOf_ok {v : MV} {u : V} {k : Key} (h : keyOf v = some k) (r : RV K μ v u) : u = kV k := by
  cases v with
  | int i => cases h; exact r
  | str x => cases h; exact r
  | _ => cases h
theorem keys_ok : ∀ {xs : List MV} {ys : List V} {ks : List Key}, Paired (fun x k => keyOf x = some k) xs ks → RVs K μ xs ys → ys = ks.map kV
  | _, _, _, .nil, .nil => rfl
  | _, _, _, .cons e t, .cons r s => by rw [List.map_cons, keyOf_ok e r, keys_ok t s]
theorem tkeyOf_ok {B : List (Str × Nat)} {D : Sto} {H : Hp} {v : MV} {u : V} {k : List Key} (r : R K B μ D H) (h : tkeyOf D v = some k) (rv : RV K μ v u) : ∃ b, u = .ref b ∧ H b = some (.tup (k.map kV)) := by
  cases v with
  | ref i =>
    unfold tkeyOf at h
    dsimp only at h
    cases q : D[i]? with
    | none => rw [q] at h; cases h
    | some o =>
      rw [q] at h
      cases o with
      | tup xs =>
        obtain ⟨b, rfl, _, ys, ry, hy⟩ := r.ref q rv
        rw [keys_ok (mapM_pd h) ry] at hy
        exact ⟨b, rfl, hy⟩
      | _ => cases h
  | _ => cases h
theorem look_ok {κ : Type} [DecidableEq κ] : ∀ {kvs : List (κ × MV)} {ls : List (κ × V)} (k : κ), RKs K μ kvs ls → (valV ls k).isSome = (lookM kvs k).isSome ∧ ∀ v, lookM kvs k = some v → ∃ u, valV ls k = some u ∧ RV K μ v u
  | _, _, k, .nil => ⟨rfl, fun v h => by cases h⟩
  | p :: kvs, q :: ls, k, .cons r t => by
    obtain ⟨e, rv⟩ := r
    have ih := look_ok k t
    by_cases c : p.1 = k
    · have c' : q.1 = k := by rw [← e]; exact c
      have e1 : lookM (p :: kvs) k = some p.2 := by unfold lookM; rw [List.find?_cons_of_pos (by simp [c])]; rfl
      have e2 : valV (q :: ls) k = some q.2 := by unfold valV; rw [List.find?_cons_of_pos (by simp [c'])]; rfl
      rw [e1, e2]
      exact ⟨rfl, fun v h => by cases h; exact ⟨q.2, rfl, rv⟩⟩
    · have c' : ¬ q.1 = k := by rw [← e]; exact c
      have e1 : lookM (p :: kvs) k = lookM kvs k := by unfold lookM; rw [List.find?_cons_of_neg (by simp [c])]
      have e2 : valV (q :: ls) k = valV ls k := by unfold valV; rw [List.find?_cons_of_neg (by simp [c'])]
      rw [e1, e2]
      exact ih
end

/-! ### in, not in -/
section
variable {X : Cx} {B : List (Str × Nat)}
def isDic (D : Sto) (b : MV) : Bool := match b with
  | .ref j => match D[j]? with
    | some (.dic _) => true
    | some (.dit _) => true
    | _ => false
  | _ => false
def rInS : R2 := fun x y H Q => (∃ c z, x = V.str ⟨#[c]⟩ ∧ y = V.str z ∧ Q (V.bl (decide (c ∈ z.cps.toList))) H) ∨ ∃ i j, x = V.str i ∧ y = V.str j ∧ Q (V.bl !(Builtin.Str.occurrences j i 0 j.length 1).isEmpty) H
def rInA (K : PySem.W.Frag) : R2 := fun x y H Q => (rInD K x y H Q ∨ rIn K false x y H Q) ∨ rInS x y H Q
theorem op_inA (hu : X.A.units + 65 < cLine) : OpR X (compareOp .In) (rInA X.K) := OpR.or (OpR.or (op_inD hu) op_in_seq) (OpR.or op_in_sign op_in_str)
theorem inStr_ok {K : PySem.W.Frag} {μ : List Addr} {H : Hp} {x y : Str} {u z : V} {Q : VK} (ru : RV K μ (.str x) u) (rz : RV K μ (.str y) z) (q : Q (.bl (inStr x y)) H) : rInS u z H Q := by
  obtain rfl : u = .str x := ru
  obtain rfl : z = .str y := rz
  unfold inStr at q
  split at q
  · rename_i c e
    have e' : x = ⟨#[c]⟩ := by
      obtain ⟨a⟩ := x
      obtain ⟨l⟩ := a
      have e2 : l = [c] := e
      rw [e2]
    subst e'
    exact .inl ⟨c, y, rfl, rfl, q⟩
  · exact .inr ⟨x, y, rfl, rfl, q⟩
theorem notdic_in {μ : List Addr} {D : Sto} {H : Hp} {a b : MV} {x y : V} {c : Bool} {Q : VK} (r : R X.K B μ D H) (ra : RV X.K μ a x) (rb : RV X.K μ b y) (h : inB a b D = some c) (hd : isDic D b = false) (q : Q (.bl c) H) : rInA X.K x y H Q := by
  cases b with
  | str z =>
    unfold inB at h
    dsimp only at h
    cases a with
    | str w =>
      cases h
      exact .inr (inStr_ok ra rb q)
    | _ => cases h
  | ref j =>
    unfold inB at h
    unfold isDic at hd
    dsimp only at h hd
    cases e : D[j]? with
    | none => rw [e] at h; cases h
    | some o =>
      rw [e] at h hd
      cases o with
      | lst ys =>
        dsimp only at h
        cases e1 : datD D a with
        | none => rw [e1] at h; cases h
        | some d =>
          cases e2 : datD D (.ref j) with
          | none => rw [e1, e2] at h; cases h
          | some ds =>
            rw [e1, e2] at h
            cases ds with
            | list ds =>
              cases h
              obtain ⟨h1, h2⟩ := datD_ok r e1 ra
              obtain ⟨h3, h4⟩ := datD_ok r e2 rb
              exact .inl (.inl ⟨d, ds, h1, h3, h2, h4, q⟩)
            | _ => cases h
      | tup ys =>
        dsimp only at h
        by_cases f : (flatM a && ys.all flatM) = true
        · rw [if_pos f] at h
          cases h
          obtain ⟨f1, f2⟩ := Bool.and_eq_true_iff.mp f
          obtain ⟨p, us, rfl, ru, hu⟩ := rdT_ok (xs := ys) r (by unfold rdT; rw [e]) rb
          refine .inl (.inr ⟨p, us, rfl, .inr hu, flatM_ok f1 ra, flatMs_ok f2 ru, ?_⟩)
          rw [inM_ok f1 ra f2 ru]
          exact q
        · rw [if_neg f] at h
          cases h
      | ktp ys =>
        dsimp only at h
        by_cases f : (flatM a && ys.all flatM) = true
        · rw [if_pos f] at h
          cases h
          obtain ⟨f1, f2⟩ := Bool.and_eq_true_iff.mp f
          obtain ⟨p, us, rfl, ru, hu⟩ := rdT_ok (xs := ys) r (by unfold rdT; rw [e]) rb
          refine .inl (.inr ⟨p, us, rfl, .inr hu, flatM_ok f1 ra, flatMs_ok f2 ru, ?_⟩)
          rw [inM_ok f1 ra f2 ru]
          exact q
        · rw [if_neg f] at h
          cases h
      | dic kvs => cases hd
      | dit kvs => cases hd
      | _ => cases h
  | _ => cases h
theorem dic_in {μ : List Addr} {D : Sto} {H : Hp} {a b : MV} {x y : V} {c : Bool} (r : R X.K B μ D H) (ra : RV X.K μ a x) (rb : RV X.K μ b y) (h : inB a b D = some c) (hd : isDic D b = true) : ∃ p o, y = .ref p ∧ DGet H p x o ∧ o.isSome = c := by
  cases b with
  | ref j =>
    unfold inB at h
    unfold isDic at hd
    dsimp only at h hd
    cases e : D[j]? with
    | none => rw [e] at hd; cases hd
    | some o =>
      rw [e] at h hd
      cases o with
      | dic kvs =>
        dsimp only at h
        obtain ⟨k, ek, rfl⟩ := Option.map_eq_some_iff.mp h
        obtain ⟨p, rfl, _, ls, rl, hl⟩ := r.ref e rb
        exact ⟨p, valV ls k, rfl, .inl ⟨ls, k, .of hl, keyOf_ok ek ra, rfl⟩, (look_ok k rl).1⟩
      | dit kvs =>
        dsimp only at h
        obtain ⟨k, ek, rfl⟩ := Option.map_eq_some_iff.mp h
        obtain ⟨p, rfl, _, ls, rl, hl⟩ := r.ref e rb
        obtain ⟨b', rfl, hb⟩ := tkeyOf_ok r ek ra
        exact ⟨p, valV ls k, rfl, .inr ⟨ls, k, b', .of hl, rfl, hb, rfl⟩, (look_ok k rl).1⟩
      | _ => cases hd
  | _ => cases hd
variable {W : WX'} {ma mb : EM} {a b : Expr} {pos : Pos}
def P2c (K : PySem.W.Frag) (B : List (Str × Nat)) (c : Sto → MV → MV → Prop) (r : R2) (p : MV → MV → Sto → Re MV) : Prop := ∀ μ D H a b x y (W : WH) (Q : VK), c D a b → R K B μ D H → RV K μ a x → RV K μ b y → Post K B (RV K) W μ (p a b D) Q → r x y H Q
/-- two rules for one form: which one, the small run tells ahead -/
theorem tM_op2 {K : PySem.W.Frag} {r1 r2 : R2} {p : MV → MV → Sto → Re MV} (s : Sto → MV → MV → Bool) (h1 : P2c K B (fun D a b => s D a b = false) r1 p) (h2 : P2c K B (fun D a b => s D a b = true) r2 p) {σ : St} {H : Hp} {Q : VK} (h : tM K B W (eOp p ma mb) σ H Q) :
    tOp r1 (tM K B W ma) (tM K B W mb) σ H Q ∨ tOp r2 (tM K B W ma) (tM K B W mb) σ H Q := by
  obtain ⟨μ, ρ, D, hs, hr, q⟩ := h
  have key : ∀ (bb : Bool) (r : R2), P2c K B (fun D a b => s D a b = bb) r p → (∀ x D1 y D2, ma ρ D = .ok x D1 → mb ρ D1 = .ok y D2 → s D2 x y = bb) → tOp r (tM K B W ma) (tM K B W mb) σ H Q := fun bb r hp hc => by
    refine ⟨μ, ρ, D, hs, hr, ?_⟩
    unfold eOp at q
    cases e1 : ma ρ D with
    | ok x D1 =>
      rw [e1] at q
      intro μ1 H1 x' l1 r1 v1
      refine ⟨μ1, ρ, D1, hs.mono l1, r1, ?_⟩
      have q1 : Post K B (RV K) (fun c d H' => W c d σ H') μ1 ((mb ρ D1).bind fun y D2 => p x y D2) Q := Post.mono l1 q
      cases e2 : mb ρ D1 with
      | ok y D2 =>
        rw [e2] at q1
        intro μ2 H2 y' l2 r2 v2
        exact hp μ2 D2 H2 x y x' y' _ Q (hc x D1 y D2 e1 e2) r2 (v1.mono l2) v2 (Post.mono l2 q1)
      | exc c fs D2 => rw [e2] at q1; exact q1
      | err => rw [e2] at q1; exact q1
    | exc c fs D2 => rw [e1] at q; exact q
    | err => rw [e1] at q; exact q
  by_cases c : ∃ x D1 y D2, ma ρ D = .ok x D1 ∧ mb ρ D1 = .ok y D2 ∧ s D2 x y = true
  · obtain ⟨x, D1, y, D2, e1, e2, e3⟩ := c
    refine .inr (key true r2 h2 fun x' D1' y' D2' f1 f2 => ?_)
    rw [e1] at f1
    cases f1
    rw [e2] at f2
    cases f2
    exact e3
  · refine .inl (key false r1 h1 fun x D1 y D2 f1 f2 => ?_)
    cases e : s D2 x y with
    | false => rfl
    | true => exact absurd ⟨x, D1, y, D2, f1, f2, e⟩ c
def rDIn : R2 := fun y x H Q => ∃ a o, x = .ref a ∧ DGet H a y o ∧ Q (.bl o.isSome) H
def rDNotIn : R2 := fun y x H Q => ∃ a o, x = .ref a ∧ DGet H a y o ∧ Q (.bl (!o.isSome)) H
def rDIx : R2 := fun x y H Q => ∃ a v, x = .ref a ∧ DGet H a y (some v) ∧ Q v H
theorem me_in (hu : X.A.units + 65 < cLine) (ha : PE X a (tM X.K B W ma)) (hb : PE X b (tM X.K B W mb)) (hm : behindInMarks .In b = false := by rfl) : PE X (.Compare a [.In] [b] pos) (tM X.K B W (eOp pIn ma mb)) :=
  PE.imp (PE.or (pe_cmpR (op_inA hu) ha hb hm) (pe_cmp (pc_din (by omega) ha hb) hm)) fun σ H Q h =>
    tM_op2 (r2 := rDIn) (fun D _ b => isDic D b)
      (fun μ D H a b x y W Q hc r ra rb p => by
        obtain ⟨c, hc1, k⟩ := ok?_ok r p
        obtain ⟨c', hc', rfl⟩ := Option.map_eq_some_iff.mp hc1
        exact notdic_in r ra rb hc' hc (k _ rfl))
      (fun μ D H a b x y W Q hc r ra rb p => by
        obtain ⟨c, hc1, k⟩ := ok?_ok r p
        obtain ⟨c', hc', rfl⟩ := Option.map_eq_some_iff.mp hc1
        obtain ⟨p, o, rfl, g, rfl⟩ := dic_in r ra rb hc' hc
        exact ⟨p, o, rfl, g, k _ rfl⟩) h
/-! not in: as in, told the other way -/
def rNInS : R2 := fun x y H Q => (∃ c z, x = V.str ⟨#[c]⟩ ∧ y = V.str z ∧ Q (V.bl (!decide (c ∈ z.cps.toList))) H) ∨ ∃ i j, x = V.str i ∧ y = V.str j ∧ Q (V.bl !!(Builtin.Str.occurrences j i 0 j.length 1).isEmpty) H
def rNInA (K : PySem.W.Frag) : R2 := fun x y H Q => (rNotInD K x y H Q ∨ rIn K true x y H Q) ∨ rNInS x y H Q
theorem op_notInA (hu : X.A.units + 65 < cLine) : OpR X (compareOp .NotIn) (rNInA X.K) := OpR.or (OpR.or (op_notInD hu) op_notIn_seq) (OpR.or op_notIn_sign op_notIn_str)
/-- the two rules are one, turned -/
theorem rIn_not {K : PySem.W.Frag} {x y : V} {H : Hp} {Q : VK} (h : rInA K x y H fun v H' => ∀ c, v = .bl c → Q (.bl (!c)) H') : rNInA K x y H Q := by
  rcases h with (⟨d, ds, h1, h2, h3, h4, q⟩ | ⟨p, xs, h1, h2, h3, h4, q⟩) | (⟨c, z, h1, h2, q⟩ | ⟨i, j, h1, h2, q⟩)
  · exact .inl (.inl ⟨d, ds, h1, h2, h3, h4, q _ rfl⟩)
  · exact .inl (.inr ⟨p, xs, h1, h2, h3, h4, q _ rfl⟩)
  · exact .inr (.inl ⟨c, z, h1, h2, q _ rfl⟩)
  · exact .inr (.inr ⟨i, j, h1, h2, q _ rfl⟩)
theorem me_notin (hu : X.A.units + 65 < cLine) (ha : PE X a (tM X.K B W ma)) (hb : PE X b (tM X.K B W mb)) (hm : behindInMarks .NotIn b = false := by rfl) : PE X (.Compare a [.NotIn] [b] pos) (tM X.K B W (eOp pNotIn ma mb)) :=
  PE.imp (PE.or (pe_cmpR (op_notInA hu) ha hb hm) (pe_cmp (pc_dnotin (by omega) ha hb) hm)) fun σ H Q h =>
    tM_op2 (r2 := rDNotIn) (fun D _ b => isDic D b)
      (fun μ D H a b x y W Q hc r ra rb p => by
        obtain ⟨c, hc1, k⟩ := ok?_ok r p
        obtain ⟨c', hc', rfl⟩ := Option.map_eq_some_iff.mp hc1
        exact rIn_not (notdic_in (c := c') r ra rb hc' hc fun c e => by cases e; exact k _ rfl))
      (fun μ D H a b x y W Q hc r ra rb p => by
        obtain ⟨c, hc1, k⟩ := ok?_ok r p
        obtain ⟨c', hc', rfl⟩ := Option.map_eq_some_iff.mp hc1
        obtain ⟨p, o, rfl, g, rfl⟩ := dic_in r ra rb hc' hc
        exact ⟨p, o, rfl, g, k _ rfl⟩) h

/-! ### items -/
theorem atI_ok {K : PySem.W.Frag} {μ : List Addr} {xs : List MV} {ys : List V} {i : Int} {v : MV} (h : RVs K μ xs ys) (e : atI xs i = some v) : ∃ u, atI ys i = some u ∧ RV K μ v u := by
  unfold atI at e ⊢
  rw [← Pd.len h]
  cases c : ixN xs.length i with
  | none => rw [c] at e; cases e
  | some j =>
    rw [c] at e
    exact Pd.get h e
theorem notdic_ix {μ : List Addr} {D : Sto} {H : Hp} {a b v : MV} {x y : V} {Q : VK} (r : R X.K B μ D H) (ra : RV X.K μ a x) (rb : RV X.K μ b y) (h : ixAt a b D = some v) (hd : isDic D a = false) (q : ∀ u, RV X.K μ v u → Q u H) : rIx X.K x y H Q := by
  cases a with
  | str z =>
    unfold ixAt at h
    dsimp only at h
    cases b with
    | int i =>
      dsimp only at h
      by_cases c : z.length ≤ sizeLine
      · rw [if_pos c] at h
        obtain ⟨c', hc, rfl⟩ := Option.map_eq_some_iff.mp h
        exact .inr (.inr ⟨z, i, c', ra, rb, c, hc, q _ rfl⟩)
      · rw [if_neg c] at h
        cases h
    | _ => cases h
  | ref j =>
    unfold ixAt at h
    unfold isDic at hd
    dsimp only at h hd
    cases e : D[j]? with
    | none => rw [e] at h; cases h
    | some o =>
      rw [e] at h hd
      cases o with
      | lst xs =>
        dsimp only at h
        cases b with
        | int i =>
          obtain ⟨p, ys, rfl, ry, hs⟩ := rdL_ok (xs := xs) r (by unfold rdL; rw [e]) ra
          obtain ⟨u, hu, ru⟩ := atI_ok ry h
          exact .inl ⟨p, ys, i, u, rfl, rb, hs, hu, q _ ru⟩
        | _ => cases h
      | rol xs =>
        dsimp only at h
        cases b with
        | int i =>
          obtain ⟨p, ys, rfl, ry, hs⟩ := rdL_ok (xs := xs) r (by unfold rdL; rw [e]) ra
          obtain ⟨u, hu, ru⟩ := atI_ok ry h
          exact .inl ⟨p, ys, i, u, rfl, rb, hs, hu, q _ ru⟩
        | _ => cases h
      | tup xs =>
        dsimp only at h
        cases b with
        | int i =>
          obtain ⟨p, ys, rfl, ry, hs⟩ := rdT_ok (xs := xs) r (by unfold rdT; rw [e]) ra
          obtain ⟨u, hu, ru⟩ := atI_ok ry h
          exact .inr (.inl ⟨p, ys, i, u, rfl, rb, hs, hu, q _ ru⟩)
        | _ => cases h
      | ktp xs =>
        dsimp only at h
        cases b with
        | int i =>
          obtain ⟨p, ys, rfl, ry, hs⟩ := rdT_ok (xs := xs) r (by unfold rdT; rw [e]) ra
          obtain ⟨u, hu, ru⟩ := atI_ok ry h
          exact .inr (.inl ⟨p, ys, i, u, rfl, rb, hs, hu, q _ ru⟩)
        | _ => cases h
      | dic _ => cases hd
      | dit _ => cases hd
      | _ => cases h
  | _ => cases h
theorem dic_ix {μ : List Addr} {D : Sto} {H : Hp} {a b v : MV} {x y : V} (r : R X.K B μ D H) (ra : RV X.K μ a x) (rb : RV X.K μ b y) (h : ixAt a b D = some v) (hd : isDic D a = true) : ∃ p u, x = .ref p ∧ DGet H p y (some u) ∧ RV X.K μ v u := by
  cases a with
  | ref j =>
    unfold ixAt at h
    unfold isDic at hd
    dsimp only at h hd
    cases e : D[j]? with
    | none => rw [e] at hd; cases hd
    | some o =>
      rw [e] at h hd
      cases o with
      | dic kvs =>
        dsimp only at h
        obtain ⟨k, ek, hk⟩ := Option.bind_eq_some_iff.mp h
        obtain ⟨p, rfl, _, ls, rl, hl⟩ := r.ref e ra
        obtain ⟨u, hu, ru⟩ := (look_ok k rl).2 _ hk
        exact ⟨p, u, rfl, .inl ⟨ls, k, .of hl, keyOf_ok ek rb, hu.symm⟩, ru⟩
      | dit kvs =>
        dsimp only at h
        obtain ⟨k, ek, hk⟩ := Option.bind_eq_some_iff.mp h
        obtain ⟨p, rfl, _, ls, rl, hl⟩ := r.ref e ra
        obtain ⟨b', rfl, hb⟩ := tkeyOf_ok r ek rb
        obtain ⟨u, hu, ru⟩ := (look_ok k rl).2 _ hk
        exact ⟨p, u, rfl, .inr ⟨ls, k, b', .of hl, rfl, hb, hu.symm⟩, ru⟩
      | _ => cases hd
  | _ => cases hd
theorem me_ix (hu : X.A.units + 1 < cLine) (ha : PE X a (tM X.K B W ma)) (hb : PE X b (tM X.K B W mb)) (hp : PlainIx b := by exact fun _ _ => rfl) (hn : NoSl b := by exact fun _ _ => rfl) : PE X (.Subscript a b pos) (tM X.K B W (eOp pIx ma mb)) :=
  PE.imp (PE.or (pe_ix ix_seq ha hb hp) (pe_dget hu ha hb hn)) fun σ H Q h =>
    tM_op2 (r2 := rDIx) (fun D a _ => isDic D a)
      (fun μ D H a b x y W Q hc r ra rb p => by
        obtain ⟨v, hv, k⟩ := ok?_ok r p
        exact notdic_ix r ra rb hv hc k)
      (fun μ D H a b x y W Q hc r ra rb p => by
        obtain ⟨v, hv, k⟩ := ok?_ok r p
        obtain ⟨p, u, rfl, g, ru⟩ := dic_ix r ra rb hv hc
        exact ⟨p, u, rfl, g, k _ ru⟩) h

/-! ### displays -/
def eTup (am : AM) : EM := fun ρ D => (am ρ D).bind fun xs D1 => if xs.length ≤ sizeLine then new (.tup xs) D1 else .err
def eLst (am : AM) : EM := fun ρ D => (am ρ D).bind fun xs D1 => if xs.length ≤ sizeLine then new (.lst xs) D1 else .err
variable {am : AM} {es : List Expr}
theorem me_tup {x1 : Nat} (h : PA X es (tMA X.K B W am)) : PE X (.Tuple es x1 pos) (tM X.K B W (eTup am)) := PE.imp (pe_tup h) fun σ H Q h => by
  obtain ⟨μ, ρ, D, hs, hr, q⟩ := h
  refine ⟨μ, ρ, D, hs, hr, Post.bind q fun μ1 D1 x x' H1 l1 r1 v1 q1 => ?_⟩
  by_cases c : x.length ≤ sizeLine
  · rw [if_pos c] at q1
    exact ⟨by rw [← Pd.len v1]; exact c, fun p hp => new_tup r1 q1 hp v1⟩
  · rw [if_neg c] at q1
    exact q1.elim
theorem me_lst (h : PA X es (tMA X.K B W am)) : PE X (.List es pos) (tM X.K B W (eLst am)) := PE.imp (pe_lst h) fun σ H Q h => by
  obtain ⟨μ, ρ, D, hs, hr, q⟩ := h
  refine ⟨μ, ρ, D, hs, hr, Post.bind q fun μ1 D1 x x' H1 l1 r1 v1 q1 => ?_⟩
  by_cases c : x.length ≤ sizeLine
  · rw [if_pos c] at q1
    exact ⟨by rw [← Pd.len v1]; exact c, fun p hp => new_lst r1 q1 hp v1⟩
  · rw [if_neg c] at q1
    exact q1.elim

/-! ### cuts -/
abbrev OM := Rho → Sto → Re (Option Int)
def oNone : OM := fun _ D => .ok none D
def intOf (v : MV) (D : Sto) : Re (Option Int) := match v with
  | .int i => .ok (some i) D
  | _ => .err
def oSome (m : EM) : OM := fun ρ D => (m ρ D).bind intOf
theorem mo_none : PO X none (tX X.K B rOI W oNone) := PO.imp po_none fun σ H Q h => by
  obtain ⟨μ, ρ, D, hs, hr, q⟩ := h
  exact Ok.go q hr rfl
theorem mo_some (ha : PE X a (tM X.K B W ma)) : PO X (some a) (tX X.K B rOI W (oSome ma)) := PO.imp (po_some ha) fun σ H Q h => by
  obtain ⟨μ, ρ, D, hs, hr, q⟩ := h
  refine ⟨μ, ρ, D, hs, hr, Post.bind q fun μ1 D1 x x' H1 l1 r1 v1 q1 => ?_⟩
  cases x with
  | int i => exact ⟨i, v1, Ok.go q1 r1 rfl⟩
  | _ => exact q1.elim
def cutM {α : Type} (xs : List α) (lo hi : Option Int) : List α := (xs.drop (HT.sIx xs.length 0 lo)).take (HT.sIx xs.length xs.length hi - HT.sIx xs.length 0 lo)
def pSl (a : MV) (lo hi : Option Int) (D : Sto) : Re MV := match a with
  | .str z => if z.length ≤ sizeLine then .ok (.str (cutS z lo hi)) D else .err
  | .ref j => match D[j]? with
    | some (.lst xs) => new (.lst (cutM xs lo hi)) D
    | some (.rol xs) => new (.lst (cutM xs lo hi)) D
    | some (.tup xs) => if HT.sIx xs.length 0 lo = 0 ∧ HT.sIx xs.length xs.length hi = xs.length then .ok (.ref j) D else new (.tup (cutM xs lo hi)) D
    | _ => .err
  | _ => .err
def eSl (m : EM) (l h : OM) : EM := fun ρ D => (m ρ D).bind fun x D1 => (l ρ D1).bind fun lo D2 => (h ρ D2).bind fun hi D3 => pSl x lo hi D3
theorem SlR.or {r r' : V → Option Int → Option Int → Hp → VK → Prop} (h : SlR X r) (h' : SlR X r') : SlR X (fun x lo hi H Q => r x lo hi H Q ∨ r' x lo hi H Q) :=
  fun pins s σ H x v vl vu lo hi sl Q I rx hs pl pu q => q.elim (h pins s σ H x v vl vu lo hi sl Q I rx hs pl pu) (h' pins s σ H x v vl vu lo hi sl Q I rx hs pl pu)
theorem cut_ok {K : PySem.W.Frag} {μ : List Addr} {xs : List MV} {ys : List V} (h : RVs K μ xs ys) (lo hi : Option Int) : RVs K μ (cutM xs lo hi) (cutV ys lo hi) := by
  unfold cutM cutV
  rw [← Pd.len h]
  exact Pd.take _ (Pd.drop _ h)
theorem me_sl {lo hi : Option Expr} {ml mh : OM} {p2 : Pos} (ha : PE X a (tM X.K B W ma)) (hl : PO X lo (tX X.K B rOI W ml)) (hh : PO X hi (tX X.K B rOI W mh)) : PE X (.Subscript a (.Slice lo hi none p2) pos) (tM X.K B W (eSl ma ml mh)) :=
  PE.imp (pe_slice (SlR.or (SlR.or sl_list sl_tupA) sl_str) ha hl hh) fun σ H Q h => by
    obtain ⟨μ, ρ, D, hs, hr, q⟩ := h
    refine ⟨μ, ρ, D, hs, hr, Post.bind q fun μ1 D1 x x' H1 l1 r1 v1 q1 => ?_⟩
    refine ⟨μ1, ρ, D1, hs.mono l1, r1, Post.bind q1 fun μ2 D2 y y' H2 l2 r2 v2 q2 => ?_⟩
    refine ⟨μ2, ρ, D2, hs.mono (l1.trans l2), r2, Post.bind q2 fun μ3 D3 z z' H3 l3 r3 v3 q3 => ?_⟩
    obtain rfl : y = y' := v2
    obtain rfl : z = z' := v3
    have w := v1.mono (l2.trans l3)
    cases x with
    | str s =>
      unfold pSl at q3
      dsimp only at q3
      by_cases c : s.length ≤ sizeLine
      · rw [if_pos c] at q3
        exact .inr ⟨s, w, c, Ok.go q3 r3 rfl⟩
      · rw [if_neg c] at q3
        exact q3.elim
    | ref j =>
      unfold pSl at q3
      dsimp only at q3
      cases e : D3[j]? with
      | none => rw [e] at q3; exact q3.elim
      | some o =>
        rw [e] at q3
        cases o with
        | lst xs =>
          obtain ⟨p, ys, rfl, ry, hs⟩ := rdL_ok (xs := xs) r3 (by unfold rdL; rw [e]) w
          exact .inl (.inl ⟨p, ys, rfl, hs, fun p' hp => new_lst r3 q3 hp (cut_ok ry y z)⟩)
        | rol xs =>
          obtain ⟨p, ys, rfl, ry, hs⟩ := rdL_ok (xs := xs) r3 (by unfold rdL; rw [e]) w
          exact .inl (.inl ⟨p, ys, rfl, hs, fun p' hp => new_lst r3 q3 hp (cut_ok ry y z)⟩)
        | tup xs =>
          dsimp only at q3
          have w' := w
          obtain ⟨p, ys, rfl, ry, hs⟩ := rdT_ok (xs := xs) r3 (by unfold rdT; rw [e]) w
          refine .inl (.inr ⟨p, ys, rfl, hs, fun c => ?_, fun c p' hp => ?_⟩)
          · rw [← Pd.len ry] at c
            rw [if_pos c] at q3
            exact Ok.go q3 r3 w'
          · rw [← Pd.len ry] at c
            rw [if_neg c] at q3
            exact new_tup r3 q3 hp (cut_ok ry y z)
        | _ => exact q3.elim
    | _ => exact q3.elim
def pRev (a : MV) (D : Sto) : Re MV := match a with
  | .ref j => match rdL D j with
    | some xs => new (.lst xs.reverse) D
    | _ => .err
  | _ => .err
end
end Mp

set_option Elab.async false
set_option linter.all false
set_option maxRecDepth 100000
namespace Mp
open PySem L2 PySem.Spec PyProof.Rows

/-! ### a def's promise, where no repr is under way -/
structure FnG (P : Program) (w : World) (K : PySem.W.Frag) (mg : Str → Option Value) (base : Heap) (k : Nat) (f : Addr) (fd : FuncData) (ps : List Str) (sp : Sp) : Prop where
  size : ∀ vs H Q E, sp vs H Q E → vs.length = ps.length
  goes : ∀ (A : Around) (outer : List Env) (s : Shared) (H : Hp) (args : Args) (us : List Value) (vs : List V) (Q : VK) (E : XK), A.guards = some [] → Room k A → Env0 P w K mg base A outer s H → BindsTo s fd args (ps.zip us) → Vals vs us → sp vs H Q E →
    codeAny (model P w) A (.call (.ref f) args) (CR (L2.CX P w) outer P w H s Q E) s
section
variable {P : Program} {w : World} {K : PySem.W.Frag} {mg : Str → Option Value} {base : Heap} {f : Addr} {fd : FuncData} {ps : List Str} {sp : Sp}
theorem FnG.mono {j k : Nat} (F : FnG P w K mg base j f fd ps sp) (h : j ≤ k) : FnG P w K mg base k f fd ps sp := ⟨F.size, fun A o s H a us vs Q E hg r => F.goes A o s H a us vs Q E hg (r.mono h)⟩
theorem fnG_of {x qual : Str} {params : Arguments} {body : List Stmt} {scope : Scope} {dvs : List V} {kws : List (Str × V)} {N : List Str} {k : Nat} (F : FunD K x qual params body scope dvs kws f fd) (S : FnScope N ps scope) (size : ∀ vs H Q E, sp vs H Q E → vs.length = ps.length)
    (way : ∀ (cdv : Value) (A : Around) (outer : List Env) (s : Shared) (H : Hp) (vs : List V) (Q : VK) (E : XK), (A.deeper (envOfC qual scope s.heap.objs.size f cdv)).guards = some [] → Room k (A.deeper (envOfC qual scope s.heap.objs.size f cdv)) → sp vs H Q E →
      ∃ t, PSs (cxOf (L2.CX P w) P w K mg base N qual scope f cdv A outer s H E) body t ∧ t { nx := fun _ H' => Q .non H', rt := Q } (start N vs) H) : FnG P w K mg base (k + 1) f fd ps sp := by
  obtain ⟨oc, od, dV, kV, doc, pm, an, cdv, ct, osl, rfl, lk, hcd, _, _⟩ := F.ex
  refine ⟨size, fun A outer s H args us vs Q E gu room e0 hb rel q0 => ?_⟩
  have n0 := size _ _ _ _ q0
  have kin : K.In s.heap := e0.mod.kin.keeps fun b o e => (e0.bs b o e).1
  have free : s.heap.NoLimit := e0.mod.nolimit.keeps fun b o e => (e0.bs b o e).1
  have kinds : ∀ y ∈ ps.zip us, scope.names.lookup y.1 = some .local ∨ (scope.names.lookup y.1 = some .cell ∧ ((cellsFrom (s.heap.objs.size + 1) scope.names []).lookup y.1).isSome = true) := by
    rintro ⟨n, v⟩ hy
    rcases S.par n (List.of_mem_zip hy).1 with q | q
    · exact .inl q
    · exact .inr ⟨q, PySem.W.cellsFrom_some _ _ _ (.inl q)⟩
  refine codeAny_call_function room.depth (kin _ _ lk) rfl S.co S.gen rfl (PySem.W.codeRec_of kin hcd) (hb _ _ _ _ ?_)
  refine wpAny_newFunctionEnv_cells S.kind kinds fun env he s1 call => ?_
  subst he
  refine ⟨free.keeps call.toInCall.keep, codeAny_func ?_⟩
  obtain ⟨t, runs, q1⟩ := way cdv A outer s H vs Q E gu (room.deeper _) q0
  have J := inv_start (CX := L2.CX P w) (E := E) S room.hd e0 n0 rel call
  refine wpAny_mono (runs.run [] s1 (start N vs) H _ J q1) (fun fl s' end_ => ?_) fun e s' h => h
  cases fl with
  | ret u =>
    obtain ⟨v, σ', H', J', rv, q⟩ := end_
    exact ⟨v, H', J'.os, J'.bare, J'.base, J'.hok, rv, q⟩
  | next =>
    obtain ⟨σ', H', J', q⟩ := end_
    exact ⟨.non, H', J'.os, J'.bare, J'.base, J'.hok, rfl, q⟩
  | brk => exact end_.elim fun _ z => z.elim fun _ z => z.2.elim
  | cont => exact end_.elim fun _ z => z.elim fun _ z => z.2.elim
end

/-! ### calls -/
section
variable {X : Cx} {k : Nat} {f C : Addr} {fd : FuncData} {ps : List Str} {sp : Sp} {dvs : List V} {ds : List Value} {E : L2.St → XK} {x m : Str} {p pos apos : Pos} {e o : Expr} {es : List Expr} {ta : TE} {t : TA}
theorem runG {pins : List (Addr × Obj)} {σ : L2.St} {H : Hp} {s : Shared} {Q : VK} {us : List Value} {vs : List V} (gu : X.A.guards = some []) (F : FnG X.prog X.w X.K X.mg X.base k f fd ps sp) (room : Room k X.A) (hb : Binds X.K fd ps ds) (hd : Vals dvs ds) (out : ∀ σ, PassesAt (L2.CX X.prog X.w) X σ (E σ))
    (I : Inv X pins σ H s) (rel : Vals vs us) (q : sp (vs ++ dvs) H Q (E σ)) : wpAny (model X.prog X.w) X.A (call (.ref f) us) (EP X pins σ Q) X.xe s := by
  have rel2 := rel.append hd
  have n2 : (us ++ ds).length = ps.length := rel2.length.symm.trans (F.size _ _ _ _ q)
  refine wpAny_call (codeAny_mono (F.goes X.A X.stack s H ⟨us, []⟩ _ _ Q (E σ) gu room I.env0 (hb s us I.kIn n2) rel2 q) fun r s' z => ?_)
  match r, z with
  | .error er, z => exact out σ pins H s er s' I z
  | .ok (.ret u), z => exact I.after z
def tCallG (sp : Sp) (dvs : List V) (E : L2.St → XK) (t : TA) : TE := fun σ H Q => t σ H fun vs H1 => sp (vs ++ dvs) H1 Q (E σ)
theorem pe_callG (gu : X.A.guards = some []) (F : FnG X.prog X.w X.K X.mg X.base k f fd ps sp) (room : Room k X.A) (hg : Gl X x) (hm : X.mg x = some (.ref f)) (hk : PySem.W.keepIn X.K (.ref f) = true) (hb : Binds X.K fd ps ds) (hd : Vals dvs ds) (out : ∀ σ, PassesAt (L2.CX X.prog X.w) X σ (E σ))
    (ha : PA X (e :: es) t) (hdb : (x == ("__debug__" : Str)) = false := by decide) (he : starEach (e :: es) X.env = (false, eval e X.env) :: starEach es X.env := by rfl) (hpl : (backTo pos (starEach es X.env)).any (·.1) = false := by rfl) :
    PE X (.Call (.Name x p) (e :: es) [] pos) (tCallG sp dvs E t) := by
  constructor
  intro pins s σ H Q I q
  apply wpAny_Call_Name_kw
  exact ld_glob I hg hm (PySem.W.callWith_K (h₀ := X.base) I.ok.mod.kin hk (thn (ha.run pos pins s σ H _ I q) fun us s1 ⟨vs, H1, I1, rel, q1⟩ => ⟨I1.kIn, runG gu F room hb hd out I1 rel q1⟩) he hpl) hdb
theorem pe_callG0 (gu : X.A.guards = some []) (F : FnG X.prog X.w X.K X.mg X.base k f fd ps sp) (room : Room k X.A) (hg : Gl X x) (hm : X.mg x = some (.ref f)) (hk : PySem.W.keepIn X.K (.ref f) = true) (hb : Binds X.K fd ps ds) (hd : Vals dvs ds) (out : ∀ σ, PassesAt (L2.CX X.prog X.w) X σ (E σ))
    (hdb : (x == ("__debug__" : Str)) = false := by decide) : PE X (.Call (.Name x p) [] [] pos) (tCallG sp dvs E tNil) := by
  constructor
  intro pins s σ H Q I q
  apply wpAny_Call_Name_kw
  exact ld_glob I hg hm (PySem.W.callWith_K0 I.kIn hk (runG (us := []) gu F room hb hd out I .nil q)) hdb
def tMethG (C : Addr) (m : Str) (sp : Sp) (dvs : List V) (E : L2.St → XK) (ta : TE) (t : TA) : TE := fun σ H Q => ta σ H fun x H1 => ∃ a dx fs, x = .ref a ∧ H1 a = some (.ins C dx fs) ∧ fs.lookup m = none ∧ t σ H1 fun vs H2 => sp (x :: (vs ++ dvs)) H2 Q (E σ)
theorem pe_methG {pl : Sem Bool} (gu : X.A.guards = some []) (he : PE X o ta) (c : Cls X.K C) (hm : Meth X.K C m f) (F : FnG X.prog X.w X.K X.mg X.base k f fd ps sp) (room : Room k X.A) (hb : Binds X.K fd ps ds) (hd : Vals dvs ds) (out : ∀ σ, PassesAt (L2.CX X.prog X.w) X σ (E σ)) (ha : PA X (e :: es) t)
    (hst : starEach (e :: es) X.env = (false, eval e X.env) :: starEach es X.env := by rfl) (hpl : (backTo pos (starEach es X.env)).any (·.1) = false := by rfl)
    (shape : eval (.Call (.Attribute o m apos) (e :: es) [] pos) X.env = (do
      let ov ← eval o X.env
      standAt apos.atName
      let (g, first) ← holding [ov] (getMethod ov m pl)
      callWith pos g first (backTo pos (starEach (e :: es) X.env)) (backToKw pos (keywordEach [] X.env))) := by rfl) :
    PE X (.Call (.Attribute o m apos) (e :: es) [] pos) (tMethG C m sp dvs E ta t) := by
  constructor
  intro pins s σ H Q I q
  refine PySem.W.methodCall_KW (pl := pl) ?_ shape
  refine thn (he.run pins s σ H _ I q) fun u s1 ⟨y, H1, I1, ry, a, dx, fs, ey, ea, l, q1⟩ => ?_
  subst ey
  obtain rfl : u = Value.ref a := ry
  exact getmeth_ok I1 ea c hm l (PySem.W.callWith_K (first := [.ref a]) (h₀ := X.base) I.ok.mod.kin hm.kp (thn (ha.run pos pins s1 σ H1 _ I1 q1) fun us s2 ⟨vs, H2, I2, rel, q2⟩ => ⟨I2.kIn, runG (us := .ref a :: us) (vs := .ref a :: vs) gu F room hb hd out I2 (.cons rfl rel) q2⟩) hst hpl)
theorem pe_methG0 {pl : Sem Bool} (gu : X.A.guards = some []) (he : PE X o ta) (c : Cls X.K C) (hm : Meth X.K C m f) (F : FnG X.prog X.w X.K X.mg X.base k f fd ps sp) (room : Room k X.A) (hb : Binds X.K fd ps ds) (hd : Vals dvs ds) (out : ∀ σ, PassesAt (L2.CX X.prog X.w) X σ (E σ))
    (shape : eval (.Call (.Attribute o m apos) [] [] pos) X.env = (do
      let ov ← eval o X.env
      standAt apos.atName
      let (g, first) ← holding [ov] (getMethod ov m pl)
      callWith pos g first (backTo pos (starEach [] X.env)) (backToKw pos (keywordEach [] X.env))) := by rfl) :
    PE X (.Call (.Attribute o m apos) [] [] pos) (tMethG C m sp dvs E ta tNil) := by
  constructor
  intro pins s σ H Q I q
  refine PySem.W.methodCall_KW (pl := pl) ?_ shape
  refine thn (he.run pins s σ H _ I q) fun u s1 ⟨y, H1, I1, ry, a, dx, fs, ey, ea, l, q1⟩ => ?_
  subst ey
  obtain rfl : u = Value.ref a := ry
  exact getmeth_ok I1 ea c hm l (PySem.W.callWith_K0 (first := [.ref a]) I1.kIn hm.kp (runG (us := [.ref a]) (vs := [.ref a]) gu F room hb hd out I1 (.cons rfl .nil) q1))
theorem guards_make {A : Around} {C : Addr} {us : List Value} {kw : List (Str × Value)} : (A.under (.builtin "type.__call__" ⟨.ref C :: us, kw⟩)).guards = A.guards := by
  first | rfl | simp [Around.under, Code.guards, Code.isGuard, guardIds, pushGuards] | (cases A.guards <;> rfl)
def tMakeG (C : Addr) (sp : Sp) (dvs : List V) (E : L2.St → XK) (t : TA) : TE := fun σ H Q => t σ H fun vs H1 => ∀ y dx, H1 y = none → H1 dx = none → dx ≠ y →
  sp (.ref y :: (vs ++ dvs)) (upd (upd H1 dx (.own y)) y (.ins C dx [])) (fun v H2 => v = .non ∧ Q (.ref y) H2) (E σ)
theorem runMakeG {pins : List (Addr × Obj)} {σ : L2.St} {H : Hp} {s : Shared} {Q : VK} {us : List Value} {vs : List V} (gu : X.A.guards = some []) (M : Mk X.K C f) (F : FnG X.prog X.w X.K X.mg X.base k f fd ps sp) (room : Room (k + 1) X.A) (hb : Binds X.K fd ps ds) (hd : Vals dvs ds)
    (out : ∀ σ, PassesAt (L2.CX X.prog X.w) X σ (E σ)) (I : Inv X pins σ H s) (rel : Vals vs us)
    (q : ∀ y dx, H y = none → H dx = none → dx ≠ y → sp (.ref y :: (vs ++ dvs)) (upd (upd H dx (.own y)) y (.ins C dx [])) (fun v H2 => v = .non ∧ Q (.ref y) H2) (E σ)) :
    wpAny (model X.prog X.w) X.A (call (.ref C) us) (EP X pins σ Q) X.xe s := by
  have q1 := q (s.heap.objs.size + 1) s.heap.objs.size (I.hok.fresh (Nat.le_succ _)) (I.hok.fresh (Nat.le_refl _)) (Nat.ne_of_lt (Nat.lt_succ_self _))
  have J := Inv.made (C := C) I
  have rel2 : Vals (V.ref (s.heap.objs.size + 1) :: (vs ++ dvs)) (Value.ref (s.heap.objs.size + 1) :: (us ++ ds)) := .cons rfl (rel.append hd)
  have n2 : (Value.ref (s.heap.objs.size + 1) :: us ++ ds).length = ps.length := rel2.length.symm.trans (F.size _ _ _ _ q1)
  have go := F.goes _ X.stack _ _ ⟨Value.ref (s.heap.objs.size + 1) :: us, []⟩ _ _ _ (E σ) (guards_make.trans gu) (room.make C us []) (J.env0.make C us []) (hb _ (Value.ref (s.heap.objs.size + 1) :: us) J.kIn n2) rel2 q1
  refine wpAny_call (make_map (f := f) I.kIn M.makes M.init (beq_iff_eq.mp M.fn) (codeAny_mono go fun r s' z => ?_))
  match r, z with
  | .error er, z => exact out σ pins _ _ er s' J z
  | .ok (.ret u), z =>
    obtain ⟨v, H', J', rv, ev, q3⟩ := J.after z
    subst ev
    exact ⟨rv, V.ref (s.heap.objs.size + 1), H', J', rfl, q3⟩
theorem pe_makeG (gu : X.A.guards = some []) (M : Mk X.K C f) (F : FnG X.prog X.w X.K X.mg X.base k f fd ps sp) (room : Room (k + 1) X.A) (hg : Gl X x) (hm : X.mg x = some (.ref C)) (hb : Binds X.K fd ps ds) (hd : Vals dvs ds) (out : ∀ σ, PassesAt (L2.CX X.prog X.w) X σ (E σ))
    (ha : PA X (e :: es) t) (hdb : (x == ("__debug__" : Str)) = false := by decide) (he : starEach (e :: es) X.env = (false, eval e X.env) :: starEach es X.env := by rfl) (hpl : (backTo pos (starEach es X.env)).any (·.1) = false := by rfl) :
    PE X (.Call (.Name x p) (e :: es) [] pos) (tMakeG C sp dvs E t) := by
  constructor
  intro pins s σ H Q I q
  apply wpAny_Call_Name_kw
  exact ld_glob I hg hm (PySem.W.callWith_K (h₀ := X.base) I.ok.mod.kin M.kp (thn (ha.run pos pins s σ H _ I q) fun us s1 ⟨vs, H1, I1, rel, q1⟩ => ⟨I1.kIn, runMakeG gu M F room hb hd out I1 rel q1⟩) he hpl) hdb
end
end Mp

set_option Elab.async false
set_option linter.all false
set_option maxRecDepth 100000
namespace Mp
open PySem L2

/-! ### own defs as functions over the store -/
def spM (K : PySem.W.Frag) (B : List (Str × Nat)) (n : Nat) (m : List MV → Sto → Re MV) : Sp := fun vs H Q E => vs.length = n ∧ ∃ μ as D, RVs K μ as vs ∧ R K B μ D H ∧ Post K B (RV K) (fun c d H' => E c d H') μ (m as D) Q
section
variable {X : Cx} {B : List (Str × Nat)} {W : WX'} {ma mb : EM} {am : AM} {a b o e : Expr} {es : List Expr} {pos apos p : Pos} {k n : Nat} {f C : Addr} {fd : FuncData} {ps : List Str} {m : List MV → Sto → Re MV} {x : Str}
theorem Post.wish {K : PySem.W.Frag} {α β : Type} {Rel : List Addr → α → β → Prop} {μ : List Addr} {r : Re α} {Q : β → Hp → Prop} {W1 W2 : WH} (h : Post K B Rel W1 μ r Q) (hw : ∀ c d H, W1 c d H → W2 c d H) : Post K B Rel W2 μ r Q := by
  cases r with
  | ok v D => exact h
  | exc c fs D => exact fun μ' H d l r x => hw _ _ _ (h μ' H d l r x)
  | err => exact h
theorem out_of (tk : Takes X W) : ∀ σ, PassesAt (L2.CX X.prog X.w) X σ (WE W σ) := fun σ => passAt tk σ
theorem tM_callG {K : PySem.W.Frag} (hn : ∀ vs : List MV, ∀ ρ D D', am ρ D = .ok vs D' → vs.length = n) {σ : L2.St} {H : Hp} {Q : VK} (h : tM K B W (eCall m am) σ H Q) : tCallG (spM K B n m) [] (WE W) (tMA K B W am) σ H Q := by
  obtain ⟨μ, ρ, D, hs, hr, q⟩ := h
  refine ⟨μ, ρ, D, hs, hr, ?_⟩
  unfold eCall at q
  cases e1 : am ρ D with
  | ok as D1 =>
    rw [e1] at q
    intro μ1 H1 vs l1 r1 v1
    show spM K B n m (vs ++ []) H1 Q (WE W σ)
    rw [List.append_nil]
    exact ⟨by rw [← Pd.len v1]; exact hn as ρ D D1 e1, μ1, as, D1, v1, r1, Post.mono l1 q⟩
  | exc c fs D1 => rw [e1] at q; exact q
  | err => rw [e1] at q; exact q
/-- how many arguments there are -/
def AmL (am : AM) (n : Nat) : Prop := ∀ vs : List MV, ∀ ρ D D', am ρ D = .ok vs D' → vs.length = n
theorem amL_nil : AmL aNil 0 := fun vs ρ D D' h => by cases h; rfl
theorem amL_cons (h : AmL am n) : AmL (aCons ma am) (n + 1) := fun vs ρ D D' e => by
  unfold aCons at e
  cases e1 : ma ρ D with
  | ok x D1 =>
    rw [e1] at e
    cases e2 : am ρ D1 with
    | ok xs D2 =>
      have e' : (am ρ D1).bind (fun xs D2 => Re.ok (x :: xs) D2) = .ok vs D' := e
      rw [e2] at e'
      cases e'
      have := h xs ρ D1 _ e2
      simp [this]
    | exc c fs D2 =>
      have e' : (am ρ D1).bind (fun xs D2 => Re.ok (x :: xs) D2) = .ok vs D' := e
      rw [e2] at e'
      cases e'
    | err =>
      have e' : (am ρ D1).bind (fun xs D2 => Re.ok (x :: xs) D2) = .ok vs D' := e
      rw [e2] at e'
      cases e'
  | exc c fs D1 => rw [e1] at e; cases e
  | err => rw [e1] at e; cases e
theorem me_call (gu : X.A.guards = some []) (tk : Takes X W) (F : FnG X.prog X.w X.K X.mg X.base k f fd ps (spM X.K B n m)) (room : Room k X.A) (hg : Gl X x) (hm : X.mg x = some (.ref f)) (hk : PySem.W.keepIn X.K (.ref f) = true) (hb : Binds X.K fd ps []) (hl : AmL am n)
    (ha : PA X (e :: es) (tMA X.K B W am)) (hdb : (x == ("__debug__" : Str)) = false := by decide) (he : starEach (e :: es) X.env = (false, eval e X.env) :: starEach es X.env := by rfl) (hpl : (backTo pos (starEach es X.env)).any (·.1) = false := by rfl) :
    PE X (.Call (.Name x p) (e :: es) [] pos) (tM X.K B W (eCall m am)) :=
  PE.imp (pe_callG (dvs := []) (E := WE W) gu F room hg hm hk hb .nil (out_of tk) ha hdb he hpl) fun _ _ _ h => tM_callG hl h
theorem me_call0 (gu : X.A.guards = some []) (tk : Takes X W) (F : FnG X.prog X.w X.K X.mg X.base k f fd ps (spM X.K B 0 m)) (room : Room k X.A) (hg : Gl X x) (hm : X.mg x = some (.ref f)) (hk : PySem.W.keepIn X.K (.ref f) = true) (hb : Binds X.K fd ps [])
    (hdb : (x == ("__debug__" : Str)) = false := by decide) : PE X (.Call (.Name x p) [] [] pos) (tM X.K B W (eCall m aNil)) :=
  PE.imp (pe_callG0 (dvs := []) (E := WE W) gu F room hg hm hk hb .nil (out_of tk) hdb) fun σ H Q h => by
    obtain ⟨μ, ρ, D, hs, hr, q⟩ := h
    exact ⟨rfl, μ, [], D, .nil, hr, q⟩
/-! attributes -/
theorem lookF {K : PySem.W.Frag} {μ : List Addr} (f : Str) : ∀ {fs : List (Str × MV)} {gs : List (Str × V)}, RKs K μ fs gs → (fs.lookup f = none → gs.lookup f = none) ∧ ∀ v, fs.lookup f = some v → ∃ u, gs.lookup f = some u ∧ RV K μ v u
  | _, _, .nil => ⟨fun _ => rfl, fun v h => by cases h⟩
  | p :: fs, q :: gs, .cons r t => by
    obtain ⟨e, rv⟩ := r
    obtain ⟨p1, p2⟩ := p
    obtain ⟨q1, q2⟩ := q
    obtain rfl : p1 = q1 := e
    have ih := lookF f t
    by_cases c : (f == p1) = true
    · refine ⟨fun h => ?_, fun v h => ?_⟩
      · simp [List.lookup, c] at h
      · simp only [List.lookup, c] at h ⊢
        cases h
        exact ⟨q2, rfl, rv⟩
    · have c' : (f == p1) = false := by simpa using c
      simp only [List.lookup, c']
      exact ih
def insAt (D : Sto) (C : Str) (v : MV) : Option (Nat × List (Str × MV)) := match v with
  | .ref i => match D[i]? with
    | some (.ins C' fs) => if C' = C then some (i, fs) else none
    | _ => none
  | _ => none
theorem insAt_ok {K : PySem.W.Frag} {μ : List Addr} {D : Sto} {H : Hp} {C : Str} {v : MV} {u : V} {i : Nat} {fs : List (Str × MV)} (r : R K B μ D H) (rv : RV K μ v u) (h : insAt D C v = some (i, fs)) :
    ∃ a dx gs, u = .ref a ∧ v = .ref i ∧ μ[i]? = some a ∧ D[i]? = some (.ins C fs) ∧ RKs K μ fs gs ∧ H a = some (.ins (He.ga K C) dx gs) := by
  cases v with
  | ref j =>
    unfold insAt at h
    dsimp only at h
    cases q : D[j]? with
    | none => rw [q] at h; cases h
    | some o =>
      rw [q] at h
      cases o with
      | ins C' fs' =>
        dsimp only at h
        by_cases c : C' = C
        · rw [if_pos c] at h
          cases h
          subst c
          obtain ⟨a, rfl, ha, dx, gs, rg, hg⟩ := r.ref q rv
          exact ⟨a, dx, gs, rfl, rfl, ha, q, rg, hg⟩
        · rw [if_neg c] at h
          cases h
      | _ => cases h
  | _ => cases h
def eFld (C f : Str) (mo : EM) : EM := fun ρ D => (mo ρ D).bind fun x D1 => ok? ((insAt D1 C x).bind fun p => p.2.lookup f) D1
theorem me_fld {C f : Str} (cl : Cls X.K (He.ga X.K C)) (no : NoAttr X.K (He.ga X.K C) f) (ho : PE X o (tM X.K B W ma)) (hb : attributeBase o f X.env (eval o X.env) = eval o X.env := by rfl) : PE X (.Attribute o f pos) (tM X.K B W (eFld C f ma)) :=
  PE.imp (pe_fld ho hb) fun σ H Q h => by
    obtain ⟨μ, ρ, D, hs, hr, q⟩ := h
    refine ⟨μ, ρ, D, hs, hr, Post.bind q fun μ1 D1 x x' H1 l1 r1 v1 q1 => ?_⟩
    obtain ⟨v, hv, kk⟩ := ok?_ok r1 q1
    obtain ⟨⟨i, fs⟩, h1, h2⟩ := Option.bind_eq_some_iff.mp hv
    obtain ⟨a, dx, gs, rfl, _, _, _, rg, hg⟩ := insAt_ok r1 v1 h1
    obtain ⟨u, hu, ru⟩ := (lookF f rg).2 v h2
    exact ⟨a, _, dx, gs, u, rfl, hg, cl, no, hu, kk u ru⟩
/-! methods -/
def eMeth (C nm : Str) (m : List MV → Sto → Re MV) (mo : EM) (am : AM) : EM := fun ρ D => (mo ρ D).bind fun x D1 => match insAt D1 C x with
  | some (_, fs) => if fs.lookup nm = none then (am ρ D1).bind fun vs D2 => m (x :: vs) D2 else .err
  | none => .err
theorem tM_meth {K : PySem.W.Frag} {C nm : Str} (hn : AmL am n) {σ : L2.St} {H : Hp} {Q : VK} (h : tM K B W (eMeth C nm m ma am) σ H Q) : tMethG (He.ga K C) nm (spM K B (n + 1) m) [] (WE W) (tM K B W ma) (tMA K B W am) σ H Q := by
  obtain ⟨μ, ρ, D, hs, hr, q⟩ := h
  refine ⟨μ, ρ, D, hs, hr, Post.bind q fun μ1 D1 x x' H1 l1 r1 v1 q1 => ?_⟩
  cases c : insAt D1 C x with
  | none => rw [c] at q1; exact q1.elim
  | some pr =>
    obtain ⟨i, fs⟩ := pr
    rw [c] at q1
    dsimp only at q1
    obtain ⟨a, dx, gs, rfl, _, _, _, rg, hg⟩ := insAt_ok r1 v1 c
    by_cases c2 : fs.lookup nm = none
    · rw [if_pos c2] at q1
      refine ⟨a, dx, gs, rfl, hg, (lookF nm rg).1 c2, μ1, ρ, D1, hs.mono l1, r1, ?_⟩
      cases e1 : am ρ D1 with
      | ok as D2 =>
        rw [e1] at q1
        intro μ2 H2 vs l2 r2 v2
        refine ⟨by simp [← Pd.len v2, hn as ρ D1 D2 e1], μ2, x :: as, D2, ?_, r2, Post.mono l2 q1⟩
        rw [List.append_nil]
        exact .cons (v1.mono l2) v2
      | exc c fs D2 => rw [e1] at q1; exact q1
      | err => rw [e1] at q1; exact q1
    · rw [if_neg c2] at q1
      exact q1.elim
theorem me_meth {C nm : Str} {pl : Sem Bool} (gu : X.A.guards = some []) (tk : Takes X W) (ho : PE X o (tM X.K B W ma)) (cl : Cls X.K (He.ga X.K C)) (hm : Meth X.K (He.ga X.K C) nm f) (F : FnG X.prog X.w X.K X.mg X.base k f fd ps (spM X.K B (n + 1) m)) (room : Room k X.A) (hb : Binds X.K fd ps [])
    (hl : AmL am n) (ha : PA X (e :: es) (tMA X.K B W am)) (hst : starEach (e :: es) X.env = (false, eval e X.env) :: starEach es X.env := by rfl) (hpl : (backTo pos (starEach es X.env)).any (·.1) = false := by rfl)
    (shape : eval (.Call (.Attribute o nm apos) (e :: es) [] pos) X.env = (do
      let ov ← eval o X.env
      standAt apos.atName
      let (g, first) ← holding [ov] (getMethod ov nm pl)
      callWith pos g first (backTo pos (starEach (e :: es) X.env)) (backToKw pos (keywordEach [] X.env))) := by rfl) :
    PE X (.Call (.Attribute o nm apos) (e :: es) [] pos) (tM X.K B W (eMeth C nm m ma am)) :=
  PE.imp (pe_methG (dvs := []) (E := WE W) gu ho cl hm F room hb .nil (out_of tk) ha hst hpl shape) fun _ _ _ h => tM_meth hl h
theorem me_meth0 {C nm : Str} {pl : Sem Bool} (gu : X.A.guards = some []) (tk : Takes X W) (ho : PE X o (tM X.K B W ma)) (cl : Cls X.K (He.ga X.K C)) (hm : Meth X.K (He.ga X.K C) nm f) (F : FnG X.prog X.w X.K X.mg X.base k f fd ps (spM X.K B 1 m)) (room : Room k X.A) (hb : Binds X.K fd ps [])
    (shape : eval (.Call (.Attribute o nm apos) [] [] pos) X.env = (do
      let ov ← eval o X.env
      standAt apos.atName
      let (g, first) ← holding [ov] (getMethod ov nm pl)
      callWith pos g first (backTo pos (starEach [] X.env)) (backToKw pos (keywordEach [] X.env))) := by rfl) :
    PE X (.Call (.Attribute o nm apos) [] [] pos) (tM X.K B W (eMeth C nm m ma aNil)) :=
  PE.imp (pe_methG0 (dvs := []) (E := WE W) gu ho cl hm F room hb .nil (out_of tk) shape) fun σ H Q h => by
    obtain ⟨μ, ρ, D, hs, hr, q⟩ := tM_meth (n := 0) amL_nil h
    refine ⟨μ, ρ, D, hs, hr, Post.imp q fun u H' ⟨a, dx, gs, h1, h2, h3, h4⟩ => ⟨a, dx, gs, h1, h2, h3, ?_⟩⟩
    obtain ⟨μ2, ρ2, D2, _, r2, q2⟩ := h4
    exact Ok.go q2 r2 Paired.nil
/-! a new instance -/
def eMake (C : Str) (m : List MV → Sto → Re MV) (am : AM) : EM := fun ρ D => (am ρ D).bind fun vs D1 => (m (.ref D1.length :: vs) (D1 ++ [.ins C []])).bind fun v D2 => if v = .non then .ok (.ref D1.length) D2 else .err
theorem me_make {C : Str} (gu : X.A.guards = some []) (tk : Takes X W) (M : Mk X.K (He.ga X.K C) f) (F : FnG X.prog X.w X.K X.mg X.base k f fd ps (spM X.K B (n + 1) m)) (room : Room (k + 1) X.A) (hg : Gl X C) (hm : X.mg C = some (.ref (He.ga X.K C))) (hb : Binds X.K fd ps [])
    (hl : AmL am n) (ha : PA X (e :: es) (tMA X.K B W am)) (hdb : (C == ("__debug__" : Str)) = false := by decide) (he : starEach (e :: es) X.env = (false, eval e X.env) :: starEach es X.env := by rfl) (hpl : (backTo pos (starEach es X.env)).any (·.1) = false := by rfl) :
    PE X (.Call (.Name C p) (e :: es) [] pos) (tM X.K B W (eMake C m am)) :=
  PE.imp (pe_makeG (dvs := []) (E := WE W) gu M F room hg hm hb .nil (out_of tk) ha hdb he hpl) fun σ H Q h => by
    obtain ⟨μ, ρ, D, hs, hr, q⟩ := h
    refine ⟨μ, ρ, D, hs, hr, ?_⟩
    unfold eMake at q
    cases e1 : am ρ D with
    | ok as D1 =>
      rw [e1] at q
      intro μ1 H1 vs l1 r1 v1 y dx hy hdx hne
      refine ⟨by simp [← Pd.len v1, hl as ρ D D1 e1], ?_⟩
      have r2 : R X.K B (μ1 ++ [y]) (D1 ++ [.ins C []]) (upd (upd H1 dx (.own y)) y (.ins (He.ga X.K C) dx [])) :=
        (r1.fresh (ho := .own y) hdx).new (by rw [upd_ne (Ne.symm hne)]; exact hy) rfl ⟨dx, [], .nil, upd_same⟩
      have ry : RV X.K (μ1 ++ [y]) (.ref D1.length) (.ref y) := ⟨y, by rw [← r1.len]; simp, rfl⟩
      refine ⟨μ1 ++ [y], .ref D1.length :: as, D1 ++ [.ins C []], ?_, r2, ?_⟩
      · rw [List.append_nil]
        exact .cons ry (v1.mono (Pre.snoc μ1 y))
      · refine Post.bind (Rel := RV X.K) (Post.mono (l1.trans (Pre.snoc μ1 y)) q) fun μ3 D3 v u H3 l3 r3 v3 q3 => ?_
        by_cases c : v = .non
        · rw [if_pos c] at q3
          subst c
          exact ⟨v3, Ok.go q3 r3 (ry.mono l3)⟩
        · rw [if_neg c] at q3
          exact q3.elim
    | exc c fs D2 => rw [e1] at q; exact q
    | err => rw [e1] at q; exact q
end
end Mp

set_option Elab.async false
set_option linter.all false
set_option maxRecDepth 100000
namespace Mp
open PySem L2

inductive SRe where
  | nx (ρ : Rho) (D : Sto) | rt (v : MV) (D : Sto) | bk (ρ : Rho) (D : Sto) | ct (ρ : Rho) (D : Sto) | ex (c : Str) (fs : List (Str × MV)) (ρ : Rho) (D : Sto) | err
abbrev SM := Rho → Sto → SRe
def lift {α : Type} (r : Re α) (ρ : Rho) (f : α → Sto → SRe) : SRe := match r with
  | .ok a D => f a D
  | .exc c fs D => .ex c fs ρ D
  | .err => .err
section
variable (K : PySem.W.Frag) (B : List (Str × Nat))
def SEnd (μ : List Addr) (ρ : Rho) (D : Sto) (P : L2.St → Hp → Prop) : Prop := ∀ μ' H σ, Pre μ μ' → R K B μ' D H → Rs K μ' ρ σ → P σ H
def PostS (W : WX') (μ : List Addr) (r : SRe) (E : Ends) : Prop := match r with
  | .nx ρ D => SEnd K B μ ρ D E.nx
  | .rt v D => Ok K B (RV K) μ v D E.rt
  | .bk ρ D => SEnd K B μ ρ D E.bk
  | .ct ρ D => SEnd K B μ ρ D E.ct
  | .ex c fs ρ D => ∀ μ' H σ d, Pre μ μ' → R K B μ' D H → Rs K μ' ρ σ → XF K μ' H fs d → W (.ref (He.ga K c)) d σ H
  | .err => False
def tMS (W : WX') (m : SM) : TS := fun E σ H => ∃ μ ρ D, Rs K μ ρ σ ∧ R K B μ D H ∧ PostS K B W μ (m ρ D) E
end
section
variable {K : PySem.W.Frag} {B : List (Str × Nat)} {W : WX'} {μ ν : List Addr} {ρ : Rho} {σ : L2.St} {H : Hp} {D : Sto} {E E' : Ends}
theorem PostS.mono {r : SRe} (h : Pre μ ν) (p : PostS K B W μ r E) : PostS K B W ν r E := by
  cases r with
  | nx ρ D => exact fun μ' H σ l => p μ' H σ (h.trans l)
  | rt v D => exact fun μ' H u l => p μ' H u (h.trans l)
  | bk ρ D => exact fun μ' H σ l => p μ' H σ (h.trans l)
  | ct ρ D => exact fun μ' H σ l => p μ' H σ (h.trans l)
  | ex c fs ρ D => exact fun μ' H σ d l => p μ' H σ d (h.trans l)
  | err => exact p
/-- what an expression's end is to give -/
theorem PostS.lift {α β : Type} {Rel : List Addr → α → β → Prop} {r : Re α} {f : α → Sto → SRe} {Q : β → Hp → Prop} (hs : Rs K μ ρ σ) (p : PostS K B W μ (lift r ρ f) E)
    (h : ∀ μ' D v u H, Pre μ μ' → R K B μ' D H → Rs K μ' ρ σ → Rel μ' v u → PostS K B W μ' (f v D) E → Q u H) : Post K B Rel (fun c d H' => W c d σ H') μ r Q := by
  cases r with
  | ok v D => exact fun μ' H u l r rv => h μ' D v u H l r (hs.mono l) rv (PostS.mono l p)
  | exc c fs D => exact fun μ' H d l r x => p μ' H σ d l r (hs.mono l) x
  | err => exact p
theorem SEnd.go {P : L2.St → Hp → Prop} (h : SEnd K B μ ρ D P) (r : R K B μ D H) (hs : Rs K μ ρ σ) : P σ H := h μ H σ (Pre.refl _) r hs
end
/-! ### simple statements -/
def sNext : SM := fun ρ D => .nx ρ D
def sSeq (a b : SM) : SM := fun ρ D => match a ρ D with
  | .nx ρ' D' => b ρ' D'
  | r => r
def sRet (m : EM) : SM := fun ρ D => lift (m ρ D) ρ fun v D1 => .rt v D1
def sRetN : SM := fun ρ D => .rt .non D
def sDrop (m : EM) : SM := fun ρ D => lift (m ρ D) ρ fun _ D1 => .nx ρ D1
def sIf (c : BM) (a b : SM) : SM := fun ρ D => lift (c ρ D) ρ fun t D1 => if t then a ρ D1 else b ρ D1
def sBreak : SM := fun ρ D => .bk ρ D
def sCont : SM := fun ρ D => .ct ρ D
def sSet (i : Nat) (m : EM) : SM := fun ρ D => lift (m ρ D) ρ fun v D1 => .nx (ρ.set i (some v)) D1
def sNever : SM := fun _ _ => .err
abbrev GM := MV → Rho → Sto → Option Rho
def gN (i : Nat) : GM := fun v ρ _ => some (ρ.set i (some v))
def gSeq : List GM → List MV → Rho → Sto → Option Rho
  | [], [], ρ, _ => some ρ
  | g :: gs, v :: vs, ρ, D => (g v ρ D).bind fun ρ' => gSeq gs vs ρ' D
  | _, _, _, _ => none
def gT (gs : List GM) : GM := fun v ρ D => match v with
  | .ref i => (rdT D i).bind fun xs => if xs.length = gs.length then gSeq gs xs ρ D else none
  | _ => none
def sAsg (m : EM) (g : GM) : SM := fun ρ D => lift (m ρ D) ρ fun v D1 => match g v ρ D1 with
  | some ρ' => .nx ρ' D1
  | none => .err
def sPar (i j : Nat) (a b : EM) : SM := fun ρ D => lift (a ρ D) ρ fun v D1 => lift (b ρ D1) ρ fun w D2 => .nx ((ρ.set i (some v)).set j (some w)) D2
def sPar3 (i j l : Nat) (a b c : EM) : SM := fun ρ D => lift (a ρ D) ρ fun v D1 => lift (b ρ D1) ρ fun w D2 => lift (c ρ D2) ρ fun z D3 => .nx (((ρ.set i (some v)).set j (some w)).set l (some z)) D3
section
variable (K : PySem.W.Frag) (B : List (Str × Nat))
def tGM (g : GM) : TG := fun u σ H Q => ∃ μ ρ D v, Rs K μ ρ σ ∧ R K B μ D H ∧ RV K μ v u ∧ ∃ ρ', g v ρ D = some ρ' ∧ ∀ σ', Rs K μ ρ' σ' → Q σ' H
def tGMs (gs : List GM) : TGs := fun us σ H Q => ∃ μ ρ D vs, Rs K μ ρ σ ∧ R K B μ D H ∧ RVs K μ vs us ∧ ∃ ρ', gSeq gs vs ρ D = some ρ' ∧ ∀ σ', Rs K μ ρ' σ' → Q σ' H
end
theorem PG.imp {X : Cx} {e : Expr} {t t' : TG} (h : PG X e t) (k : ∀ u σ H Q, t' u σ H Q → t u σ H Q) : PG X e t' := ⟨fun pins s σ H v u Q I r q => h.run pins s σ H v u Q I r (k v σ H Q q)⟩
theorem PGs.imp {X : Cx} {es : List Expr} {t t' : TGs} (h : PGs X es t) (k : ∀ u σ H Q, t' u σ H Q → t u σ H Q) : PGs X es t' := ⟨fun pins s σ H v u Q I r q => h.run pins s σ H v u Q I r (k v σ H Q q)⟩
theorem Rs.put {K : PySem.W.Frag} {μ : List Addr} {ρ : Rho} {σ : L2.St} {v : MV} {u : V} (hs : Rs K μ ρ σ) (r : RV K μ v u) (i : Nat) : Rs K μ (ρ.set i (some v)) (σ.set i (some u)) := Pd.set (F := RVO K μ) (x := some v) (y := some u) r i hs
section
variable {X : Cx} {B : List (Str × Nat)} {W : WX'} {ma mb mc : EM} {a b c : Expr} {pos : Pos} {s1 s2 : SM} {st : Stmt} {rest : List Stmt}
theorem ms_nil : PSs X [] (tMS X.K B W sNext) := PSs.imp pss_nil fun E σ H ⟨μ, ρ, D, hs, hr, p⟩ => SEnd.go p hr hs
theorem ms_cons (h1 : PS X st (tMS X.K B W s1)) (h2 : PSs X rest (tMS X.K B W s2)) : PSs X (st :: rest) (tMS X.K B W (sSeq s1 s2)) := PSs.imp (pss_cons h1 h2) fun E σ H ⟨μ, ρ, D, hs, hr, p⟩ => by
  refine ⟨μ, ρ, D, hs, hr, ?_⟩
  unfold sSeq at p
  cases e : s1 ρ D with
  | nx ρ' D' =>
    rw [e] at p
    exact fun μ' H' σ' l r rs => ⟨μ', ρ', D', rs, r, PostS.mono l p⟩
  | rt v D' => rw [e] at p; exact p
  | bk ρ' D' => rw [e] at p; exact p
  | ct ρ' D' => rw [e] at p; exact p
  | ex c fs ρ' D' => rw [e] at p; exact p
  | err => rw [e] at p; exact p
theorem ms_one (h1 : PS X st (tMS X.K B W s1)) : PSs X [st] (tMS X.K B W s1) := pss_one h1
theorem mp_pass : PS X (.Pass pos) (tMS X.K B W sNext) := PS.imp ps_pass fun E σ H ⟨μ, ρ, D, hs, hr, p⟩ => SEnd.go p hr hs
theorem mp_break : PS X (.Break pos) (tMS X.K B W sBreak) := PS.imp ps_break fun E σ H ⟨μ, ρ, D, hs, hr, p⟩ => SEnd.go p hr hs
theorem mp_continue : PS X (.Continue pos) (tMS X.K B W sCont) := PS.imp ps_continue fun E σ H ⟨μ, ρ, D, hs, hr, p⟩ => SEnd.go p hr hs
theorem mp_never : PS X st (tMS X.K B W sNever) := PS.imp ps_never fun E σ H ⟨μ, ρ, D, hs, hr, p⟩ => p
theorem mp_ret (ha : PE X a (tM X.K B W ma)) : PS X (.Return (some a) pos) (tMS X.K B W (sRet ma)) := PS.imp (ps_ret ha) fun E σ H ⟨μ, ρ, D, hs, hr, p⟩ =>
  ⟨μ, ρ, D, hs, hr, PostS.lift hs p fun μ1 D1 x x' H1 l1 r1 s1 v1 q1 => Ok.go q1 r1 v1⟩
theorem mp_retN : PS X (.Return none pos) (tMS X.K B W sRetN) := PS.imp ps_retN fun E σ H ⟨μ, ρ, D, hs, hr, p⟩ => Ok.go (Rel := RV X.K) (v := .non) (u := V.non) p hr rfl
theorem mp_expr (ha : PE X a (tM X.K B W ma)) (hw : swapsWith a none pos.line X.env = pure false := by rfl) : PS X (.Expr a pos) (tMS X.K B W (sDrop ma)) := PS.imp (ps_expr ha hw) fun E σ H ⟨μ, ρ, D, hs, hr, p⟩ =>
  ⟨μ, ρ, D, hs, hr, PostS.lift hs p fun μ1 D1 x x' H1 l1 r1 s1 v1 q1 => SEnd.go q1 r1 s1⟩
theorem mp_if {t : BM} {as bs : List Stmt} (hc : PT X c (tMB X.K B W t)) (ha : PSs X as (tMS X.K B W s1)) (hb : PSs X bs (tMS X.K B W s2)) : PS X (.If c as bs pos) (tMS X.K B W (sIf t s1 s2)) := PS.imp (ps_if hc ha hb) fun E σ H ⟨μ, ρ, D, hs, hr, p⟩ =>
  ⟨μ, ρ, D, hs, hr, PostS.lift hs p fun μ1 D1 x x' H1 l1 r1 s1 v1 q1 => by
    obtain rfl : x = x' := v1
    cases x with
    | true => exact iteT ⟨μ1, ρ, D1, s1, r1, q1⟩
    | false => exact iteF ⟨μ1, ρ, D1, s1, r1, q1⟩⟩
theorem mp_set {i : Nat} {x : Str} {pos' : Pos} (hN : X.N.Nodup) (hi : X.N[i]? = some x) (hx : Loc X.env.scope x) (he : PE X a (tM X.K B W ma)) (hw : swapsWith a (some (.Name x pos')) pos.line X.env = pure false := by rfl)
    (hf : X.fn x = true ∨ X.env.scope.names.lookup x = some .local := by first | exact .inl rfl | exact .inr rfl | assumption) : PS X (.Assign [.Name x pos'] a pos) (tMS X.K B W (sSet i ma)) :=
  PS.imp (ps_set hN hi hx he hw hf) fun E σ H ⟨μ, ρ, D, hs, hr, p⟩ =>
    ⟨μ, ρ, D, hs, hr, PostS.lift hs p fun μ1 D1 x x' H1 l1 r1 s1 v1 q1 => SEnd.go q1 r1 (s1.put v1 i)⟩
/-! targets -/
theorem mg_name {i : Nat} {x : Str} (hN : X.N.Nodup) (hi : X.N[i]? = some x) (hx : Loc X.env.scope x) (hf : X.fn x = true ∨ X.env.scope.names.lookup x = some .local := by first | exact .inl rfl | exact .inr rfl | assumption) : PG X (.Name x pos) (tGM X.K B (gN i)) :=
  PG.imp (pg_name hN hi hx hf) fun u σ H Q ⟨μ, ρ, D, v, hs, hr, rv, ρ', h, k⟩ => by
    cases h
    exact k _ (hs.put rv i)
theorem mgs_nil : PGs X [] (tGMs X.K B []) := PGs.imp pgs_nil fun us σ H Q ⟨μ, ρ, D, vs, hs, hr, rv, ρ', h, k⟩ => by
  cases rv with
  | nil => cases h; exact ⟨rfl, k _ hs⟩
  | cons _ _ => cases h
theorem mgs_cons {e : Expr} {es : List Expr} {g : GM} {gs : List GM} (h1 : PG X e (tGM X.K B g)) (h2 : PGs X es (tGMs X.K B gs))
    (he : (assignEach (e :: es) X.env).map (·.2) = assign e X.env :: (assignEach es X.env).map (·.2) := by rfl) : PGs X (e :: es) (tGMs X.K B (g :: gs)) := PGs.imp (pgs_cons h1 h2 he) fun us σ H Q ⟨μ, ρ, D, vs, hs, hr, rv, ρ', h, k⟩ => by
  cases rv with
  | nil => cases h
  | @cons v u vs us r t =>
    obtain ⟨ρ1, e1, e2⟩ := Option.bind_eq_some_iff.mp h
    exact ⟨u, us, rfl, μ, ρ, D, v, hs, hr, r, ρ1, e1, fun σ' hs' => ⟨μ, ρ1, D, vs, hs', hr, t, ρ', e2, k⟩⟩
theorem mg_tup {es : List Expr} {kk : Nat} {gs : List GM} (hc : X.calm = true) (h : PGs X es (tGMs X.K B gs)) (hn : (assignEach es X.env).length = gs.length := by rfl) (hst : (assignEach es X.env).findIdx? (·.1) = none := by rfl) : PG X (.Tuple es kk pos) (tGM X.K B (gT gs)) :=
  PG.imp (pg_tup hc h hn hst) fun u σ H Q ⟨μ, ρ, D, v, hs, hr, rv, ρ', h, k⟩ => by
    cases v with
    | ref i =>
      obtain ⟨xs, e1, e2⟩ := Option.bind_eq_some_iff.mp h
      by_cases c : xs.length = gs.length
      · rw [if_pos c] at e2
        obtain ⟨a, ys, rfl, ry, hy⟩ := rdT_ok hr e1 rv
        exact ⟨a, ys, rfl, hy, by rw [← Pd.len ry]; exact c, μ, ρ, D, xs, hs, hr, ry, ρ', e2, k⟩
      · rw [if_neg c] at e2
        cases e2
    | _ => cases h
theorem mp_asg {tg e : Expr} {g : GM} (he : PE X e (tM X.K B W ma)) (hg : PG X tg (tGM X.K B g)) (hs : swapsWithSole [tg] e pos.line X.env = pure false := by rfl) (hw : swappedStores [tg] e X.env = pure none := by rfl)
    (h1 : (assignEach [tg] X.env).map (·.2) = [assign tg X.env] := by rfl) : PS X (.Assign [tg] e pos) (tMS X.K B W (sAsg ma g)) :=
  PS.imp (ps_asg he hg hs hw h1) fun E σ H ⟨μ, ρ, D, hs, hr, p⟩ =>
    ⟨μ, ρ, D, hs, hr, PostS.lift hs p fun μ1 D1 x x' H1 l1 r1 s1 v1 q1 => by
      cases e1 : g x ρ D1 with
      | none => rw [e1] at q1; exact q1.elim
      | some ρ' =>
        rw [e1] at q1
        exact ⟨μ1, ρ, D1, x, s1, r1, v1, ρ', e1, fun σ' hs' => SEnd.go q1 r1 hs'⟩⟩
theorem mp_par {i j : Nat} {x y : Str} {px py pt : Pos} {kt k2 : Nat} {pt2 : Pos} (hc : X.calm = true) (hN : X.N.Nodup) (hi : X.N[i]? = some x) (hj : X.N[j]? = some y) (hij : i ≠ j) (hx : X.env.scope.names.lookup x = some .local) (hy : X.env.scope.names.lookup y = some .local)
    (ha : PE X a (tM X.K B W ma)) (hb : PE X b (tM X.K B W mb)) (hsw : swappedStores [.Tuple [.Name x px, .Name y py] kt pt] (.Tuple [a, b] k2 pt2) X.env = pure (some [x, y])) (h1 : starEach [a, b] X.env = (false, eval a X.env) :: starEach [b] X.env := by rfl) (h2 : starEach [b] X.env = (false, eval b X.env) :: starEach [] X.env := by rfl)
    (hw : swapsWithSole [.Tuple [.Name x px, .Name y py] kt pt] (.Tuple [a, b] k2 pt2) pos.line X.env = pure false := by rfl) : PS X (.Assign [.Tuple [.Name x px, .Name y py] kt pt] (.Tuple [a, b] k2 pt2) pos) (tMS X.K B W (sPar i j ma mb)) :=
  PS.imp (ps_par hc hN hi hj hij hx hy (pa_cons ha (pa_cons hb pa_nil h2) h1) hsw hw) fun E σ H ⟨μ, ρ, D, hs, hr, p⟩ =>
    ⟨μ, ρ, D, hs, hr, PostS.lift hs p fun μ1 D1 x x' H1 l1 r1 s1 v1 q1 =>
      ⟨μ1, ρ, D1, s1, r1, PostS.lift s1 q1 fun μ2 D2 y y' H2 l2 r2 s2 v2 q2 => ⟨x', y', rfl, SEnd.go q2 r2 ((s2.put (v1.mono l2) i).put v2 j)⟩⟩⟩
theorem mp_par3 {i j l : Nat} {x y z : Str} {px py pz pt : Pos} {kt k2 : Nat} {pt2 : Pos} (hc : X.calm = true) (hN : X.N.Nodup) (hi : X.N[i]? = some x) (hj : X.N[j]? = some y) (hl : X.N[l]? = some z) (hij : i ≠ j) (hil : i ≠ l) (hjl : j ≠ l)
    (hx : X.env.scope.names.lookup x = some .local) (hy : X.env.scope.names.lookup y = some .local) (hz : X.env.scope.names.lookup z = some .local)
    (ha : PE X a (tM X.K B W ma)) (hb : PE X b (tM X.K B W mb)) (hcc : PE X c (tM X.K B W mc)) (hsw : swappedStores [.Tuple [.Name x px, .Name y py, .Name z pz] kt pt] (.Tuple [a, b, c] k2 pt2) X.env = pure (some [x, y, z]))
    (h1 : starEach [a, b, c] X.env = (false, eval a X.env) :: starEach [b, c] X.env := by rfl) (h2 : starEach [b, c] X.env = (false, eval b X.env) :: starEach [c] X.env := by rfl) (h3 : starEach [c] X.env = (false, eval c X.env) :: starEach [] X.env := by rfl)
    (hw : swapsWithSole [.Tuple [.Name x px, .Name y py, .Name z pz] kt pt] (.Tuple [a, b, c] k2 pt2) pos.line X.env = pure false := by rfl) : PS X (.Assign [.Tuple [.Name x px, .Name y py, .Name z pz] kt pt] (.Tuple [a, b, c] k2 pt2) pos) (tMS X.K B W (sPar3 i j l ma mb mc)) :=
  PS.imp (ps_par3 hc hN hi hj hl hij hil hjl hx hy hz (pa_cons ha (pa_cons hb (pa_cons hcc pa_nil h3) h2) h1) hsw hw) fun E σ H ⟨μ, ρ, D, hs, hr, p⟩ =>
    ⟨μ, ρ, D, hs, hr, PostS.lift hs p fun μ1 D1 x x' H1 l1 r1 s1 v1 q1 =>
      ⟨μ1, ρ, D1, s1, r1, PostS.lift s1 q1 fun μ2 D2 y y' H2 l2 r2 s2 v2 q2 => ⟨μ2, ρ, D2, s2, r2, PostS.lift s2 q2 fun μ3 D3 z z' H3 l3 r3 s3 v3 q3 =>
        ⟨x', y', z', rfl, SEnd.go q3 r3 (((s3.put (v1.mono (l2.trans l3)) i).put (v2.mono l3) j).put v3 l)⟩⟩⟩⟩
/-! stores -/
def putA (f : Str) (v : MV) : List (Str × MV) → List (Str × MV)
  | [] => [(f, v)]
  | (g, x) :: r => if g = f then (g, v) :: r else (g, x) :: putA f v r
theorem putA_ok {K : PySem.W.Frag} {μ : List Addr} {f : Str} {v : MV} {u : V} (rv : RV K μ v u) : ∀ {fs : List (Str × MV)} {gs : List (Str × V)}, RKs K μ fs gs → RKs K μ (putA f v fs) (putF f u gs)
  | _, _, .nil => .cons ⟨rfl, rv⟩ .nil
  | p :: fs, q :: gs, .cons r t => by
    obtain ⟨e, r2⟩ := r
    obtain ⟨p1, p2⟩ := p
    obtain ⟨q1, q2⟩ := q
    obtain rfl : p1 = q1 := e
    unfold putA putF
    by_cases c : p1 = f
    · rw [if_pos c, if_pos c]
      exact .cons ⟨rfl, rv⟩ t
    · rw [if_neg c, if_neg c]
      exact .cons ⟨rfl, r2⟩ (putA_ok rv t)
def sFldM (C f : Str) (mo mv : EM) : SM := fun ρ D => lift (mv ρ D) ρ fun v D1 => lift (mo ρ D1) ρ fun x D2 => match insAt D2 C x with
  | some (i, fs) => if fs.length < 1000 then .nx ρ (D2.set i (.ins C (putA f v fs))) else .err
  | none => .err
theorem mp_fld {C f : Str} {o : Expr} {pos' : Pos} (cl : Cls X.K (He.ga X.K C)) (no : NoAttr X.K (He.ga X.K C) f) (ho : PE X o (tM X.K B W ma)) (hv : PE X a (tM X.K B W mb)) (hw : swapsWith a (some (.Attribute o f pos')) pos.line X.env = pure false := by rfl) :
    PS X (.Assign [.Attribute o f pos'] a pos) (tMS X.K B W (sFldM C f ma mb)) :=
  PS.imp (ps_fld ho hv hw) fun E σ H ⟨μ, ρ, D, hs, hr, p⟩ =>
    ⟨μ, ρ, D, hs, hr, PostS.lift hs p fun μ1 D1 x x' H1 l1 r1 s1 v1 q1 =>
      ⟨μ1, ρ, D1, s1, r1, PostS.lift s1 q1 fun μ2 D2 y y' H2 l2 r2 s2 v2 q2 => by
        cases c : insAt D2 C y with
        | none => rw [c] at q2; exact q2.elim
        | some pr =>
          obtain ⟨i, fs⟩ := pr
          rw [c] at q2
          dsimp only at q2
          obtain ⟨ad, dx, gs, rfl, rfl, hi, hd, rg, hg⟩ := insAt_ok r2 v2 c
          by_cases c2 : fs.length < 1000
          · rw [if_pos c2] at q2
            refine ⟨ad, _, dx, gs, rfl, hg, cl, no, by rw [← Pd.len rg]; exact c2, SEnd.go q2 (r2.set hd hi rfl rfl ⟨dx, _, putA_ok (v1.mono l2) rg, upd_same⟩) s2⟩
          · rw [if_neg c2] at q2
            exact q2.elim⟩⟩
theorem putM_ok {κ : Type} [DecidableEq κ] {K : PySem.W.Frag} {μ : List Addr} {k : κ} {v : MV} {u : V} (rv : RV K μ v u) {kvs : List (κ × MV)} {ls : List (κ × V)} (h : RKs K μ kvs ls) : RKs K μ (putM kvs k v) (putK ls k u) := by
  have key : ∀ {kvs : List (κ × MV)} {ls : List (κ × V)}, RKs K μ kvs ls → kvs.any (fun kv => decide (kv.1 = k)) = ls.any (fun kv => decide (kv.1 = k)) := by
    intro kvs ls h
    induction h with
    | nil => rfl
    | cons r _ ih => rw [List.any_cons, List.any_cons, ih, r.1]
  unfold putM putK
  rw [key h]
  by_cases c : ls.any (fun kv => decide (kv.1 = k)) = true
  · rw [if_pos c, if_pos c]
    clear c
    induction h with
    | nil => exact .nil
    | @cons p q _ _ r _ ih =>
      refine .cons ?_ ih
      obtain ⟨e, r2⟩ := r
      show RKV K μ (if p.1 = k then (p.1, v) else p) (if q.1 = k then (q.1, u) else q)
      by_cases c2 : p.1 = k
      · rw [if_pos c2, if_pos (by rw [← e]; exact c2)]
        exact ⟨e, rv⟩
      · rw [if_neg c2, if_neg (by rw [← e]; exact c2)]
        exact ⟨e, r2⟩
  · rw [if_neg c, if_neg c]
    exact Pd.append h (.cons ⟨rfl, rv⟩ .nil)
/-- d[k] = v -/
def dPut (D : Sto) (x k v : MV) : Option Sto := match x with
  | .ref i => match D[i]? with
    | some (.dic kvs) => (keyOf k).bind fun q => if kvs.length < sizeLine then some (D.set i (.dic (putM kvs q v))) else none
    | some (.dit kvs) => (tkeyOf D k).bind fun q => if kvs.length < sizeLine then some (D.set i (.dit (putM kvs q v))) else none
    | _ => none
  | _ => none
def sDPutM (md mk mv : EM) : SM := fun ρ D => lift (mv ρ D) ρ fun v D1 => lift (md ρ D1) ρ fun x D2 => lift (mk ρ D2) ρ fun k D3 => match dPut D3 x k v with
  | some D4 => .nx ρ D4
  | none => .err
theorem dPut_ok {K : PySem.W.Frag} {μ : List Addr} {D D' : Sto} {H : Hp} {x k v : MV} {x' k' v' : V} (r : R K B μ D H) (rx : RV K μ x x') (rk : RV K μ k k') (rv : RV K μ v v') (h : dPut D x k v = some D') : ∃ a H', x' = .ref a ∧ DPut H a k' v' H' ∧ R K B μ D' H' := by
  cases x with
  | ref i =>
    unfold dPut at h
    dsimp only at h
    cases e : D[i]? with
    | none => rw [e] at h; cases h
    | some o =>
      rw [e] at h
      cases o with
      | dic kvs =>
        dsimp only at h
        obtain ⟨q, hq, h2⟩ := Option.bind_eq_some_iff.mp h
        by_cases c : kvs.length < sizeLine
        · rw [if_pos c] at h2
          cases h2
          obtain ⟨a, rfl, ha, ls, rl, hl⟩ := r.ref e rx
          exact ⟨a, _, rfl, .inl ⟨ls, q, hl, keyOf_ok hq rk, by rw [← Pd.len rl]; exact c, rfl⟩, r.set e ha rfl rfl ⟨_, putM_ok rv rl, upd_same⟩⟩
        · rw [if_neg c] at h2
          cases h2
      | dit kvs =>
        dsimp only at h
        obtain ⟨q, hq, h2⟩ := Option.bind_eq_some_iff.mp h
        by_cases c : kvs.length < sizeLine
        · rw [if_pos c] at h2
          cases h2
          obtain ⟨a, rfl, ha, ls, rl, hl⟩ := r.ref e rx
          obtain ⟨b, rfl, hb⟩ := tkeyOf_ok r hq rk
          exact ⟨a, _, rfl, .inr ⟨ls, q, b, hl, rfl, hb, by rw [← Pd.len rl]; exact c, rfl⟩, r.set e ha rfl rfl ⟨_, putM_ok rv rl, upd_same⟩⟩
        · rw [if_neg c] at h2
          cases h2
      | _ => cases h
  | _ => cases h
theorem mp_dput {o i : Expr} {pos' : Pos} (hu : X.A.units + 1 < cLine) (ho : PE X o (tM X.K B W ma)) (hi : PE X i (tM X.K B W mb)) (hv : PE X a (tM X.K B W mc)) (hw : swapsWith a (some (.Subscript o i pos')) pos.line X.env = pure false := by rfl) :
    PS X (.Assign [.Subscript o i pos'] a pos) (tMS X.K B W (sDPutM ma mb mc)) :=
  PS.imp (ps_dput hu ho hi hv hw) fun E σ H ⟨μ, ρ, D, hs, hr, p⟩ =>
    ⟨μ, ρ, D, hs, hr, PostS.lift hs p fun μ1 D1 x x' H1 l1 r1 s1 v1 q1 =>
      ⟨μ1, ρ, D1, s1, r1, PostS.lift s1 q1 fun μ2 D2 y y' H2 l2 r2 s2 v2 q2 =>
        ⟨μ2, ρ, D2, s2, r2, PostS.lift s2 q2 fun μ3 D3 z z' H3 l3 r3 s3 v3 q3 => by
          cases c : dPut D3 y z x with
          | none => rw [c] at q3; exact q3.elim
          | some D4 =>
            rw [c] at q3
            obtain ⟨ad, H4, rfl, h1, h2⟩ := dPut_ok r3 (v2.mono l3) v3 (v1.mono (l2.trans l3)) c
            exact ⟨ad, H4, rfl, h1, SEnd.go q3 h2 s3⟩⟩⟩⟩
/-- xs[i] = v, a list -/
def lPut (D : Sto) (x k v : MV) : Option Sto := match x, k with
  | .ref i, .int j => match D[i]? with
    | some (.lst xs) => (ixN xs.length j).map fun q => D.set i (.lst (xs.set q v))
    | _ => none
  | _, _ => none
def sLPutM (md mk mv : EM) : SM := fun ρ D => lift (mv ρ D) ρ fun v D1 => lift (md ρ D1) ρ fun x D2 => lift (mk ρ D2) ρ fun k D3 => match lPut D3 x k v with
  | some D4 => .nx ρ D4
  | none => .err
end
end Mp

set_option Elab.async false
set_option linter.all false
set_option maxRecDepth 100000
namespace Mp
open PySem L2

/-! ### what is walked -/
structure Wk where
  n : Nat
  chk : Sto → Bool
  item : Nat → Sto → Option (MV × Sto)
abbrev WM := Rho → Sto → Re Wk
def WkOk (K : PySem.W.Frag) (B : List (Str × Nat)) (μ : List Addr) (wk : Wk) (J : It) : Prop := ∃ (G : Hp → Prop) (Y : Nat → Hp → V → Hp → Prop), Walk J wk.n G Y ∧ (∀ μ' D H, Pre μ μ' → R K B μ' D H → wk.chk D = true → G H) ∧
  ∀ i μ' D H x H' v D', Pre μ μ' → R K B μ' D H → wk.chk D = true → i < wk.n → Y i H x H' → wk.item i D = some (v, D') → ∃ μ'', Pre μ' μ'' ∧ R K B μ'' D' H' ∧ RV K μ'' v x
def seqItem (xs : List MV) (i : Nat) (D : Sto) : Option (MV × Sto) := (xs[i]?).map fun v => (v, D)
def wSeq (m : EM) : WM := fun ρ D => (m ρ D).bind fun x D1 => match x with
  | .ref i => match rdL D1 i with
    | some xs => .ok ⟨xs.length, fun D => decide (rdL D i = some xs), seqItem xs⟩ D1
    | none => match rdT D1 i with
      | some xs => .ok ⟨xs.length, fun D => decide (rdT D i = some xs), seqItem xs⟩ D1
      | none => .err
  | .str z => .ok ⟨z.cps.size, fun _ => true, fun i D => (z.cps[i]?).map fun c => (.str ⟨#[c]⟩, D)⟩ D1
  | _ => .err
def rngItem (lo : Int) (i : Nat) (D : Sto) : Option (MV × Sto) := some (.int (lo + i), D)
def wRng1 (m : EM) : WM := fun ρ D => (m ρ D).bind fun x D1 => match x with
  | .int j => if -(2 ^ 62) ≤ j ∧ j < 2 ^ 62 then .ok ⟨j.toNat, fun _ => true, rngItem 0⟩ D1 else .err
  | _ => .err
def wRng2 (a b : EM) : WM := fun ρ D => (a ρ D).bind fun x D1 => (b ρ D1).bind fun y D2 => match x, y with
  | .int i, .int j => if -(2 ^ 62) ≤ i ∧ i < 2 ^ 62 ∧ -(2 ^ 62) ≤ j ∧ j < 2 ^ 62 then .ok ⟨(j - i).toNat, fun _ => true, rngItem i⟩ D2 else .err
  | _, _ => .err
def pairItem (a b : Nat → Option MV) (i : Nat) (D : Sto) : Option (MV × Sto) := match a i, b i with
  | some x, some y => some (.ref D.length, D ++ [.tup [x, y]])
  | _, _ => none
def wEnum (m : EM) : WM := fun ρ D => (m ρ D).bind fun x D1 => match x with
  | .ref i => match rdL D1 i with
    | some xs => .ok ⟨xs.length, fun D => decide (rdL D i = some xs), pairItem (fun k => some (.int (k : Nat))) (fun k => xs[k]?)⟩ D1
    | none => .err
  | _ => .err
def wZip (a b : EM) : WM := fun ρ D => (a ρ D).bind fun x D1 => (b ρ D1).bind fun y D2 => match x, y with
  | .ref i, .ref j => match rdL D2 i, rdL D2 j with
    | some xs, some ys => .ok ⟨min xs.length ys.length, fun D => decide (rdL D i = some xs ∧ rdL D j = some ys), pairItem (fun k => xs[k]?) (fun k => ys[k]?)⟩ D2
    | _, _ => .err
  | _, _ => .err
def wRev (m : EM) : WM := fun ρ D => (m ρ D).bind fun x D1 => match x with
  | .ref i => match rdL D1 i with
    | some xs => .ok ⟨xs.length, fun D => decide (rdL D i = some xs), fun k D => (xs[xs.length - 1 - k]?).map fun v => (v, D)⟩ D1
    | none => .err
  | _ => .err
theorem PI.imp {X : Cx} {tg e : Expr} {t t' : TI} (h : PI X tg e t) (k : ∀ σ H R, t' σ H R → t σ H R) : PI X tg e t' := ⟨fun pins s σ H R I q => h.run pins s σ H R I (k σ H R q)⟩
theorem PI.or {X : Cx} {tg e : Expr} {t t' : TI} (h : PI X tg e t) (h' : PI X tg e t') : PI X tg e (fun σ H R => t σ H R ∨ t' σ H R) := ⟨fun pins s σ H R I q => q.elim (h.run pins s σ H R I) (h'.run pins s σ H R I)⟩
section
variable {X : Cx} {B : List (Str × Nat)} {W : WX'} {ma mb : EM} {a b tg : Expr} {pos p : Pos}
abbrev tW (K : PySem.W.Frag) (B : List (Str × Nat)) (W : WX') (m : WM) : TI := tX K B (WkOk K B) W m
theorem RV.fn {K : PySem.W.Frag} {μ : List Addr} {v : MV} {u1 u2 : V} (h1 : RV K μ v u1) (h2 : RV K μ v u2) : u1 = u2 := by
  cases v with
  | ref j =>
    obtain ⟨a3, g1, rfl⟩ := h1
    obtain ⟨a4, g2, rfl⟩ := h2
    rw [g1] at g2
    cases g2
    rfl
  | non => exact Eq.trans h1 (Eq.symm h2)
  | bl b => exact Eq.trans h1 (Eq.symm h2)
  | int b => exact Eq.trans h1 (Eq.symm h2)
  | str b => exact Eq.trans h1 (Eq.symm h2)
  | glo b => exact Eq.trans h1 (Eq.symm h2)
theorem RVs.fn {K : PySem.W.Frag} {μ : List Addr} : ∀ {xs : List MV} {ys zs : List V}, RVs K μ xs ys → RVs K μ xs zs → ys = zs
  | _, _, _, .nil, .nil => rfl
  | _, _, _, .cons r t, .cons q s => by rw [RV.fn r q, RVs.fn t s]
theorem RVO.fn {K : PySem.W.Frag} {μ : List Addr} {v : Option MV} {u1 u2 : Option V} (h1 : RVO K μ v u1) (h2 : RVO K μ v u2) : u1 = u2 := by
  cases v with
  | none => cases u1 with
    | none => cases u2 with
      | none => rfl
      | some _ => exact h2.elim
    | some _ => exact h1.elim
  | some v => cases u1 with
    | none => exact h1.elim
    | some a => cases u2 with
      | none => exact h2.elim
      | some b => rw [RV.fn h1 h2]
theorem Rs.fn {K : PySem.W.Frag} {μ : List Addr} : ∀ {ρ : Rho} {σ τ : L2.St}, Rs K μ ρ σ → Rs K μ ρ τ → σ = τ
  | _, _, _, .nil, .nil => rfl
  | _, _, _, .cons r t, .cons q s => by rw [RVO.fn r q, Rs.fn t s]
section
variable {K : PySem.W.Frag} {μ : List Addr} {D : Sto} {H : Hp} {i j : Nat} {xs zs : List MV} {u w : V}
theorem seq_item {μ' : List Addr} {D D' : Sto} {H H' : Hp} {ys : List V} {i : Nat} {x : V} {v : MV} (ry : RVs K μ xs ys) (l : Pre μ μ') (r : R K B μ' D H) (y : YAt ys i H x H') (h : seqItem xs i D = some (v, D')) : ∃ μ'', Pre μ' μ'' ∧ R K B μ'' D' H' ∧ RV K μ'' v x := by
  obtain ⟨e1, e2⟩ := y
  subst e1
  obtain ⟨v', e3, e4⟩ := Option.map_eq_some_iff.mp h
  cases e4
  obtain ⟨u, hu, ru⟩ := Pd.get (ry.mono l) e3
  rw [e2] at hu
  cases hu
  exact ⟨μ', Pre.refl _, r, ru⟩
theorem list_stays {ys : List V} {a : Addr} {μ' : List Addr} {D' : Sto} {H' : Hp} (hv : RV K μ (.ref i) (.ref a)) (ry : RVs K μ xs ys) (l : Pre μ μ') (r : R K B μ' D' H') (c : rdL D' i = some xs) : SqL K H' a ys := by
  obtain ⟨a2, ys2, e3, ry2, hy2⟩ := rdL_ok r c (hv.mono l)
  cases e3
  rw [RVs.fn (ry.mono l) ry2]
  exact hy2
theorem tup_stays {ys : List V} {a : Addr} {μ' : List Addr} {D' : Sto} {H' : Hp} (hv : RV K μ (.ref i) (.ref a)) (ry : RVs K μ xs ys) (l : Pre μ μ') (r : R K B μ' D' H') (c : rdT D' i = some xs) : SqT K H' a ys := by
  obtain ⟨a2, ys2, e3, ry2, hy2⟩ := rdT_ok r c (hv.mono l)
  cases e3
  rw [RVs.fn (ry.mono l) ry2]
  exact hy2
theorem wk_list {ys : List V} {a : Addr} (hv : RV K μ (.ref i) (.ref a)) (ry : RVs K μ xs ys) : WkOk K B μ ⟨xs.length, fun D => decide (rdL D i = some xs), seqItem xs⟩ (Itl K a) := by
  refine ⟨_, _, ?_, fun μ' D' H' l r c => list_stays hv ry l r (of_decide_eq_true c), fun i' μ' D' H' x' H2 v D2 l' r' c hi y hit => seq_item ry l' r' y hit⟩
  show Walk (Itl K a) xs.length (fun H => SqL K H a ys) (YAt ys)
  rw [Pd.len ry]
  exact walk_list
theorem wk_tup {ys : List V} {a : Addr} (hv : RV K μ (.ref i) (.ref a)) (ry : RVs K μ xs ys) : WkOk K B μ ⟨xs.length, fun D => decide (rdT D i = some xs), seqItem xs⟩ (Itt K a) := by
  refine ⟨_, _, ?_, fun μ' D' H' l r c => tup_stays hv ry l r (of_decide_eq_true c), fun i' μ' D' H' x' H2 v D2 l' r' c hi y hit => seq_item ry l' r' y hit⟩
  show Walk (Itt K a) xs.length (fun H => SqT K H a ys) (YAt ys)
  rw [Pd.len ry]
  exact walk_tup
theorem wk_str {z : Str} : WkOk K B μ ⟨z.cps.size, fun _ => true, fun i D => (z.cps[i]?).map fun c => (.str ⟨#[c]⟩, D)⟩ (Its z) :=
  ⟨_, _, walk_str, fun _ _ _ _ _ _ => trivial, fun i' μ' D' H' x' H2 v D2 l' r' c hi y hit => by
    obtain ⟨e, cc, e1, e2⟩ := y
    obtain ⟨c2, e3, e4⟩ := Option.map_eq_some_iff.mp hit
    rw [e1] at e3
    cases e3
    cases e4
    subst e
    exact ⟨μ', Pre.refl _, r', e2⟩⟩
theorem wk_rng {lo : Int} {n : Nat} : WkOk K B μ ⟨n, fun _ => true, rngItem lo⟩ (Itr lo n) :=
  ⟨_, _, walk_range, fun _ _ _ _ _ _ => trivial, fun i' μ' D' H' x' H2 v D2 l' r' c hi y hit => by
    obtain ⟨e, e2⟩ := y
    cases hit
    subst e
    exact ⟨μ', Pre.refl _, r', e2⟩⟩
theorem pair_item {μ' : List Addr} {D D' : Sto} {H H' : Hp} {f g : Nat → Option MV} {fv gv : Nat → Option V} {i : Nat} {x : V} {v : MV} (r : R K B μ' D H) (hf : ∀ x u, f i = some x → fv i = some u → RV K μ' x u) (hg : ∀ x u, g i = some x → gv i = some u → RV K μ' x u)
    (y : YPair fv gv i H x H') (h : pairItem f g i D = some (v, D')) : ∃ μ'', Pre μ' μ'' ∧ R K B μ'' D' H' ∧ RV K μ'' v x := by
  obtain ⟨T, a, b, rfl, hT, rfl, ea, eb⟩ := y
  unfold pairItem at h
  cases e1 : f i with
  | none => rw [e1] at h; cases h
  | some p =>
    cases e2 : g i with
    | none => rw [e1, e2] at h; cases h
    | some q =>
      rw [e1, e2] at h
      cases h
      have rr : RVs K μ' [p, q] [a, b] := .cons (hf p a e1 ea) (.cons (hg q b e2 eb) .nil)
      exact ⟨μ' ++ [T], Pre.snoc _ _, r.new hT rfl ⟨[a, b], rr.mono (Pre.snoc _ _), upd_same⟩, T, by rw [← r.len]; simp, rfl⟩
theorem wk_enum {ys : List V} {a : Addr} (hv : RV K μ (.ref i) (.ref a)) (ry : RVs K μ xs ys) : WkOk K B μ ⟨xs.length, fun D => decide (rdL D i = some xs), pairItem (fun k => some (.int (k : Nat))) (fun k => xs[k]?)⟩ (Ite K a) := by
  refine ⟨fun H => SqL K H a ys, YPair (fun i => some (.int (i : Nat))) (fun i => ys[i]?), ?_, fun μ' D' H' l r c => list_stays hv ry l r (of_decide_eq_true c), fun i' μ' D' H' x' H2 v D2 l' r' c hi y hit =>
    pair_item (f := fun k => some (.int (k : Nat))) (g := fun k => xs[k]?) (fv := fun i => some (.int (i : Nat))) (gv := fun i => ys[i]?) r' (fun x u h1 h2 => ?_) (fun x u h1 h2 => ?_) y hit⟩
  · show Walk (Ite K a) xs.length _ _
    rw [Pd.len ry]
    exact walk_enum
  · have h1' : some (MV.int (i' : Nat)) = some x := h1
    have h2' : some (V.int (i' : Nat)) = some u := h2
    cases h1'
    cases h2'
    rfl
  · obtain ⟨u', hu', ru'⟩ := Pd.get (ry.mono l') h1
    have h2' : ys[i']? = some u := h2
    rw [h2'] at hu'
    cases hu'
    exact ru'
theorem wk_zip {ys ws : List V} {a b : Addr} (hv : RV K μ (.ref i) (.ref a)) (ry : RVs K μ xs ys) (hw : RV K μ (.ref j) (.ref b)) (rz : RVs K μ zs ws) :
    WkOk K B μ ⟨min xs.length zs.length, fun D => decide (rdL D i = some xs ∧ rdL D j = some zs), pairItem (fun k => xs[k]?) (fun k => zs[k]?)⟩ (Itz K a b) := by
  refine ⟨fun H => SqL K H a ys ∧ SqL K H b ws, YPair (fun i => ys[i]?) (fun i => ws[i]?), ?_, fun μ' D' H' l r c => ⟨list_stays hv ry l r (of_decide_eq_true c).1, list_stays hw rz l r (of_decide_eq_true c).2⟩, fun i' μ' D' H' x' H2 v D2 l' r' c hi y hit =>
    pair_item (f := fun k => xs[k]?) (g := fun k => zs[k]?) (fv := fun i => ys[i]?) (gv := fun i => ws[i]?) r' (fun x u h1 h2 => ?_) (fun x u h1 h2 => ?_) y hit⟩
  · show Walk (Itz K a b) (min xs.length zs.length) _ _
    exact walk_zip (by rw [Pd.len ry, Pd.len rz])
  · obtain ⟨u', hu', ru'⟩ := Pd.get (ry.mono l') h1
    have h2' : ys[i']? = some u := h2
    rw [h2'] at hu'
    cases hu'
    exact ru'
  · obtain ⟨u', hu', ru'⟩ := Pd.get (rz.mono l') h1
    have h2' : ws[i']? = some u := h2
    rw [h2'] at hu'
    cases hu'
    exact ru'
theorem wk_rev {ys : List V} {a : Addr} (hv : RV K μ (.ref i) (.ref a)) (ry : RVs K μ xs ys) : WkOk K B μ ⟨xs.length, fun D => decide (rdL D i = some xs), fun k D => (xs[xs.length - 1 - k]?).map fun v => (v, D)⟩ (Itv K a ys.length) := by
  refine ⟨fun H => SqL K H a ys, fun i H x H' => H' = H ∧ ys[ys.length - 1 - i]? = some x, ?_, fun μ' D' H' l r c => list_stays hv ry l r (of_decide_eq_true c), fun i' μ' D' H' x' H2 v D2 l' r' c hi y hit => ?_⟩
  · show Walk (Itv K a ys.length) xs.length (fun H => SqL K H a ys) _
    rw [Pd.len ry]
    exact walk_rev
  · obtain ⟨e1, e2⟩ := y
    subst e1
    obtain ⟨v', e3, e4⟩ := Option.map_eq_some_iff.mp hit
    cases e4
    obtain ⟨u, hu, ru⟩ := Pd.get (ry.mono l') e3
    rw [Pd.len ry, e2] at hu
    cases hu
    exact ⟨μ', Pre.refl _, r', ru⟩
end
theorem Post.of_ok {K : PySem.W.Frag} {α β γ : Type} {Rel : List Addr → α → β → Prop} {Wh : WH} {μ μ1 : List Addr} {m : Re γ} {f : γ → Sto → Re α} {x : γ} {D1 : Sto} {Q : β → Hp → Prop} (e : m = .ok x D1) (l : Pre μ μ1) (q : Post K B Rel Wh μ (m.bind f) Q) : Post K B Rel Wh μ1 (f x D1) Q := by
  subst e
  exact Post.mono l q
theorem mi_seq (ha : PE X a (tM X.K B W ma)) : PI X tg a (tW X.K B W (wSeq ma)) :=
  PI.imp (PI.or (PI.or (pi_list ha) (pi_tup ha)) (pi_str ha)) fun σ H Rr h => by
    obtain ⟨μ, ρ, D, hs, hr, q⟩ := h
    unfold wSeq at q
    cases e1 : ma ρ D with
    | ok x D1 =>
      have q1 := fun μ1 (l : Pre μ μ1) => Post.of_ok e1 l q
      cases x with
      | ref i =>
        dsimp only at q1
        cases e2 : rdL D1 i with
        | some xs =>
          rw [e2] at q1
          refine .inl (.inl ⟨μ, ρ, D, hs, hr, ?_⟩)
          rw [e1]
          intro μ1 H1 u l1 r1 v1
          have v1' := v1
          obtain ⟨ad, ys, rfl, ry, hy⟩ := rdL_ok r1 e2 v1
          exact ⟨ad, rfl, ⟨ys, hy⟩, Ok.go (q1 μ1 l1) r1 (wk_list v1' ry)⟩
        | none =>
          rw [e2] at q1
          dsimp only at q1
          cases e3 : rdT D1 i with
          | some xs =>
            rw [e3] at q1
            refine .inl (.inr ⟨μ, ρ, D, hs, hr, ?_⟩)
            rw [e1]
            intro μ1 H1 u l1 r1 v1
            have v1' := v1
            obtain ⟨ad, ys, rfl, ry, hy⟩ := rdT_ok r1 e3 v1
            exact ⟨ad, rfl, ⟨ys, hy⟩, Ok.go (q1 μ1 l1) r1 (wk_tup v1' ry)⟩
          | none =>
            rw [e3] at q1
            exact (q1 μ (Pre.refl _)).elim
      | str z =>
        refine .inr ⟨μ, ρ, D, hs, hr, ?_⟩
        rw [e1]
        intro μ1 H1 u l1 r1 v1
        exact ⟨z, v1, Ok.go (q1 μ1 l1) r1 wk_str⟩
      | _ => exact (q1 μ (Pre.refl _)).elim
    | exc c fs D1 =>
      refine .inr ⟨μ, ρ, D, hs, hr, ?_⟩
      rw [e1] at q ⊢
      exact q
    | err => rw [e1] at q; exact q.elim
theorem mi_rng1 (hg : Gl X "range") (hm : X.mg "range" = none) (ha : PE X a (tM X.K B W ma)) (h1 : starEach [a] X.env = (false, eval a X.env) :: starEach [] X.env := by rfl) (h2 : starEach [a] X.env = [(false, eval a X.env)] := by rfl) : PI X tg (.Call (.Name "range" p) [a] [] pos) (tW X.K B W (wRng1 ma)) :=
  PI.imp (pi_range1 hg hm (pa_cons ha pa_nil h1) h2) fun σ H Rr h => by
    obtain ⟨μ, ρ, D, hs, hr, q⟩ := h
    refine ⟨μ, ρ, D, hs, hr, Post.bind q fun μ1 D1 x x' H1 l1 r1 v1 q1 => ?_⟩
    cases x with
    | int j =>
      dsimp only at q1
      by_cases c : -(2 ^ 62) ≤ j ∧ j < 2 ^ 62
      · rw [if_pos c] at q1
        obtain rfl : x' = .int j := v1
        exact ⟨j, rfl, c.1, c.2, Ok.go q1 r1 wk_rng⟩
      · rw [if_neg c] at q1
        exact q1.elim
    | _ => exact q1.elim
theorem mi_rng2 (hg : Gl X "range") (hm : X.mg "range" = none) (ha : PE X a (tM X.K B W ma)) (hb : PE X b (tM X.K B W mb)) (h1 : starEach [a, b] X.env = (false, eval a X.env) :: starEach [b] X.env := by rfl) (h2 : starEach [b] X.env = (false, eval b X.env) :: starEach [] X.env := by rfl)
    (h3 : starEach [a, b] X.env = [(false, eval a X.env), (false, eval b X.env)] := by rfl) (h4 : starEach [b] X.env = [(false, eval b X.env)] := by rfl) : PI X tg (.Call (.Name "range" p) [a, b] [] pos) (tW X.K B W (wRng2 ma mb)) :=
  PI.imp (pi_range2 hg hm (pa_cons ha (pa_cons hb pa_nil h2) h1) h3 h4) fun σ H Rr h => by
    obtain ⟨μ, ρ, D, hs, hr, q⟩ := h
    refine ⟨μ, ρ, D, hs, hr, Post.bind q fun μ1 D1 x x' H1 l1 r1 v1 q1 => ?_⟩
    refine ⟨μ1, ρ, D1, hs.mono l1, r1, Post.bind q1 fun μ2 D2 y y' H2 l2 r2 v2 q2 => ?_⟩
    cases x with
    | int i =>
      cases y with
      | int j =>
        dsimp only at q2
        by_cases c : -(2 ^ 62) ≤ i ∧ i < 2 ^ 62 ∧ -(2 ^ 62) ≤ j ∧ j < 2 ^ 62
        · rw [if_pos c] at q2
          obtain rfl : x' = .int i := v1
          obtain rfl : y' = .int j := v2
          exact ⟨i, j, rfl, c, Ok.go q2 r2 wk_rng⟩
        · rw [if_neg c] at q2
          exact q2.elim
      | _ => exact q2.elim
    | _ => exact q2.elim
theorem mi_enum {tpos : Pos} {elts : List Expr} {kk : Nat} (hg : Gl X "enumerate") (hm : X.mg "enumerate" = none) (ha : PE X a (tM X.K B W ma)) (h1 : starEach [a] X.env = (false, eval a X.env) :: starEach [] X.env := by rfl) (h2 : starEach [a] X.env = [(false, eval a X.env)] := by rfl) :
    PI X (.Tuple elts kk tpos) (.Call (.Name "enumerate" p) [a] [] pos) (tW X.K B W (wEnum ma)) :=
  PI.imp (pi_enum hg hm (pa_cons ha pa_nil h1) h2) fun σ H Rr h => by
    obtain ⟨μ, ρ, D, hs, hr, q⟩ := h
    refine ⟨μ, ρ, D, hs, hr, Post.bind q fun μ1 D1 x x' H1 l1 r1 v1 q1 => ?_⟩
    cases x with
    | ref i =>
      dsimp only at q1
      cases e2 : rdL D1 i with
      | some xs =>
        rw [e2] at q1
        have v1' := v1
        obtain ⟨ad, ys, rfl, ry, hy⟩ := rdL_ok r1 e2 v1
        exact ⟨ad, ys, rfl, hy, Ok.go q1 r1 (wk_enum v1' ry)⟩
      | none => rw [e2] at q1; exact q1.elim
    | _ => exact q1.elim
theorem mi_zip {tpos : Pos} {elts : List Expr} {kk : Nat} (hg : Gl X "zip") (hm : X.mg "zip" = none) (ha : PE X a (tM X.K B W ma)) (hb : PE X b (tM X.K B W mb)) (h1 : starEach [a, b] X.env = (false, eval a X.env) :: starEach [b] X.env := by rfl) (h2 : starEach [b] X.env = (false, eval b X.env) :: starEach [] X.env := by rfl)
    (h4 : (backTo pos (starEach [b] X.env)).any (·.1) = false := by rfl) : PI X (.Tuple elts kk tpos) (.Call (.Name "zip" p) [a, b] [] pos) (tW X.K B W (wZip ma mb)) :=
  PI.imp (pi_zip hg hm (pa_cons ha (pa_cons hb pa_nil h2) h1) h1 h4) fun σ H Rr h => by
    obtain ⟨μ, ρ, D, hs, hr, q⟩ := h
    refine ⟨μ, ρ, D, hs, hr, Post.bind q fun μ1 D1 x x' H1 l1 r1 v1 q1 => ?_⟩
    refine ⟨μ1, ρ, D1, hs.mono l1, r1, Post.bind q1 fun μ2 D2 y y' H2 l2 r2 v2 q2 => ?_⟩
    cases x with
    | ref i =>
      cases y with
      | ref j =>
        dsimp only at q2
        cases e2 : rdL D2 i with
        | some xs =>
          cases e3 : rdL D2 j with
          | some zs =>
            rw [e2, e3] at q2
            have v1' := v1.mono l2
            have v2' := v2
            obtain ⟨ad, ys, rfl, ry, hy⟩ := rdL_ok r2 e2 (v1.mono l2)
            obtain ⟨bd, ws, rfl, rz, hz⟩ := rdL_ok r2 e3 v2
            exact ⟨ad, bd, ys, ws, rfl, hy, hz, Ok.go q2 r2 (wk_zip v1' ry v2' rz)⟩
          | none => rw [e2, e3] at q2; exact q2.elim
        | none => rw [e2] at q2; exact q2.elim
      | _ => exact q2.elim
    | _ => exact q2.elim
end

/-! ### for -/
def forGo (wk : Wk) (g : GM) (body : SM) : Nat → Nat → Rho → Sto → SRe
  | 0, _, ρ, D => if wk.chk D then .nx ρ D else .err
  | k + 1, i, ρ, D => if wk.chk D then match wk.item i D with
      | some (v, D1) => match g v ρ D1 with
        | some ρ1 => match body ρ1 D1 with
          | .nx ρ2 D2 => forGo wk g body k (i + 1) ρ2 D2
          | .ct ρ2 D2 => forGo wk g body k (i + 1) ρ2 D2
          | .bk ρ2 D2 => .nx ρ2 D2
          | r => r
        | none => .err
      | none => .err
    else .err
def sFor (w : WM) (g : GM) (body : SM) : SM := fun ρ D => lift (w ρ D) ρ fun wk D1 => forGo wk g body wk.n 0 ρ D1
section
variable {X : Cx} {B : List (Str × Nat)} {W : WX'} {tg iter : Expr} {body : List Stmt} {pos : Pos} {w : WM} {g : GM} {mb : SM}
theorem mp_for (hp : PassesOwn (model X.prog X.w) X.A X.env X.xe) (hc : X.calm = true) (hi : PI X tg iter (tW X.K B W w)) (hg : PG X tg (tGM X.K B g)) (hb : PSs X body (tMS X.K B W mb)) (hs : ∀ x, foldedSetIterable iter X.env x = pure x := by intro _; rfl) :
    PS X (.For tg iter body [] pos) (tMS X.K B W (sFor w g mb)) :=
  PS.imp (ps_for hp hc hi hg hb hs) fun E σ H ⟨μ, ρ, D, hs, hr, p⟩ =>
    ⟨μ, ρ, D, hs, hr, PostS.lift hs p fun μ1 D1 wk J H1 l1 r1 s1 v1 q1 => by
      obtain ⟨G, Y, wlk, hG, hY⟩ := v1
      refine for_it wlk (fun i σ' H' => ∃ μ' ρ' D', Pre μ1 μ' ∧ Rs X.K μ' ρ' σ' ∧ R X.K B μ' D' H' ∧ PostS X.K B W μ' (forGo wk g mb (wk.n - i) i ρ' D') E) ⟨μ1, ρ, D1, Pre.refl _, s1, r1, q1⟩ ?_ ?_ ?_
      · rintro i σ' H' hin ⟨μ', ρ', D', l', s', r', q'⟩
        refine hG μ' D' H' l' r' ?_
        cases c : wk.chk D' with
        | true => rfl
        | false =>
          cases k : wk.n - i with
          | zero => rw [k] at q'; unfold forGo at q'; rw [c] at q'; exact q'.elim
          | succ k' => rw [k] at q'; unfold forGo at q'; rw [c] at q'; exact q'.elim
      · rintro i x σ' H' H2 hin ⟨μ', ρ', D', l', s', r', q'⟩ y
        obtain ⟨k, ek⟩ : ∃ k, wk.n - i = k + 1 := ⟨wk.n - i - 1, by omega⟩
        have ek' : wk.n - (i + 1) = k := by omega
        rw [ek] at q'
        unfold forGo at q'
        cases c : wk.chk D' with
        | false => rw [c] at q'; exact q'.elim
        | true =>
          rw [c, if_pos rfl] at q'
          cases e1 : wk.item i D' with
          | none => rw [e1] at q'; exact q'.elim
          | some pr =>
            obtain ⟨v, D2⟩ := pr
            rw [e1] at q'
            obtain ⟨μ2, l2, r2, v2⟩ := hY i μ' D' H' x H2 v D2 l' r' c hin y e1
            dsimp only at q'
            cases e2 : g v ρ' D2 with
            | none => rw [e2] at q'; exact q'.elim
            | some ρ1 =>
              rw [e2] at q'
              dsimp only at q'
              refine ⟨μ2, ρ', D2, v, s'.mono l2, r2, v2, ρ1, e2, fun σ2 hs2 => ⟨μ2, ρ1, D2, hs2, r2, ?_⟩⟩
              cases e3 : mb ρ1 D2 with
              | nx ρ2 D3 =>
                rw [e3] at q'
                exact fun μ3 H3 σ3 l3 r3 s3 => ⟨μ3, ρ2, D3, (l'.trans l2).trans l3, s3, r3, by rw [ek']; exact PostS.mono (l2.trans l3) q'⟩
              | ct ρ2 D3 =>
                rw [e3] at q'
                exact fun μ3 H3 σ3 l3 r3 s3 => ⟨μ3, ρ2, D3, (l'.trans l2).trans l3, s3, r3, by rw [ek']; exact PostS.mono (l2.trans l3) q'⟩
              | bk ρ2 D3 => rw [e3] at q'; exact PostS.mono l2 q'
              | rt v3 D3 => rw [e3] at q'; exact PostS.mono l2 q'
              | ex c' fs ρ2 D3 => rw [e3] at q'; exact PostS.mono l2 q'
              | err => rw [e3] at q'; exact q'.elim
      · rintro σ' H' ⟨μ', ρ', D', l', s', r', q'⟩
        rw [Nat.sub_self] at q'
        unfold forGo at q'
        cases c : wk.chk D' with
        | false => rw [c] at q'; exact q'.elim
        | true => rw [c] at q'; exact SEnd.go q' r' s'⟩
/-! ### while -/
def whGo (c : BM) (b : SM) : Nat → Rho → Sto → SRe
  | 0, _, _ => .err
  | n + 1, ρ, D => lift (c ρ D) ρ fun t D1 => if t then match b ρ D1 with
      | .nx ρ2 D2 => whGo c b n ρ2 D2
      | .ct ρ2 D2 => whGo c b n ρ2 D2
      | .bk ρ2 D2 => .nx ρ2 D2
      | r => r
    else .nx ρ D1
/-- as many turns as any loop here may have -/
def fuel : Nat := 1000000000
def sWhile (c : BM) (b : SM) : SM := fun ρ D => whGo c b fuel ρ D
theorem mp_while {c : Expr} {t : BM} (hp : PassesOwn (model X.prog X.w) X.A X.env X.xe) (hc : PT X c (tMB X.K B W t)) (hb : PSs X body (tMS X.K B W mb)) : PS X (.While c body [] pos) (tMS X.K B W (sWhile t mb)) :=
  PS.imp (ps_while hp hc hb) fun E σ H ⟨μ, ρ, D, hs, hr, p⟩ => by
    refine ⟨fun m σ' H' => ∃ μ' ρ' D', Rs X.K μ' ρ' σ' ∧ R X.K B μ' D' H' ∧ PostS X.K B W μ' (whGo t mb m ρ' D') E, ⟨fuel, μ, ρ, D, hs, hr, p⟩, ?_⟩
    rintro m σ' H' ⟨μ', ρ', D', s', r', q'⟩
    cases m with
    | zero => exact q'.elim
    | succ m =>
      unfold whGo at q'
      refine ⟨μ', ρ', D', s', r', PostS.lift s' q' fun μ1 D1 x x' H1 l1 r1 s1 v1 q1 => ?_⟩
      obtain rfl : x = x' := v1
      cases x with
      | false => exact iteF (SEnd.go q1 r1 s1)
      | true =>
        refine iteT ⟨fun σ2 H2 => ∃ μ2 ρ2 D2, Rs X.K μ2 ρ2 σ2 ∧ R X.K B μ2 D2 H2 ∧ PostS X.K B W μ2 (whGo t mb m ρ2 D2) E, fun σ2 H2 h => ⟨m, Nat.lt_succ_self m, h⟩, μ1, ρ', D1, s1, r1, ?_⟩
        rw [if_pos rfl] at q1
        cases e3 : mb ρ' D1 with
        | nx ρ2 D3 => rw [e3] at q1; exact fun μ3 H3 σ3 l3 r3 s3 => ⟨μ3, ρ2, D3, s3, r3, PostS.mono l3 q1⟩
        | ct ρ2 D3 => rw [e3] at q1; exact fun μ3 H3 σ3 l3 r3 s3 => ⟨μ3, ρ2, D3, s3, r3, PostS.mono l3 q1⟩
        | bk ρ2 D3 => rw [e3] at q1; exact q1
        | rt v3 D3 => rw [e3] at q1; exact q1
        | ex c' fs ρ2 D3 => rw [e3] at q1; exact q1
        | err => rw [e3] at q1; exact q1.elim
end
end Mp

set_option Elab.async false
set_option linter.all false
set_option maxRecDepth 100000
namespace Mp
open PySem L2

def wipeM (ρ : Rho) : List Nat → Rho
  | [] => ρ
  | v :: vs => (wipeM ρ vs).set v none
theorem Rs.wipe {K : PySem.W.Frag} {μ : List Addr} {ρ : Rho} {σ : L2.St} (h : Rs K μ ρ σ) : ∀ vs : List Nat, Rs K μ (wipeM ρ vs) (L2.wipe σ vs)
  | [] => h
  | v :: vs => Pd.set (F := RVO K μ) (x := none) (y := none) trivial v (Rs.wipe h vs)
def bYes : BM := fun _ D => .ok true D
/-- the comprehension's turns: L the place of the new list -/
def lcGo (wk : Wk) (g : GM) (t : BM) (e : EM) (ρ : Rho) (vs : List Nat) (L : Nat) : Nat → Nat → Sto → Re MV
  | 0, _, D => if wk.chk D then .ok (.ref L) D else .err
  | k + 1, i, D => if wk.chk D then match wk.item i D with
      | some (v, D1) => match g v (wipeM ρ vs) D1 with
        | some ρ1 => if wipeM ρ1 vs = wipeM ρ vs then match t ρ1 D1 with
          | .ok true D2 => match e ρ1 D2 with
            | .ok y D3 => match D3[L]? with
              | some (.lst acc) => if acc.length < sizeLine then lcGo wk g t e ρ vs L k (i + 1) (D3.set L (.lst (acc ++ [y]))) else .err
              | _ => .err
            | _ => .err
          | .ok false D2 => lcGo wk g t e ρ vs L k (i + 1) D2
          | _ => .err
          else .err
        | none => .err
      | none => .err
    else .err
def eLc (w : WM) (g : GM) (t : BM) (e : EM) (vs : List Nat) : EM := fun ρ D => (w ρ D).bind fun wk D1 => lcGo wk g t e ρ vs D1.length wk.n 0 (D1 ++ [.lst []])
abbrev W0 : WX' := fun _ _ _ _ => False
section
variable {X : Cx} {B : List (Str × Nat)} {W : WX'} {tg iter elt : Expr} {ifs : List Expr} {scope : Scope} {own : List (Str × Nat)} {pos spos : Pos} {w : WM} {g : GM} {t : BM} {e : EM}
theorem ma_yes {K : PySem.W.Frag} {σ : L2.St} {H : Hp} {Q : Bool → Hp → Prop} (h : tMB K B W bYes σ H Q) : tYes σ H Q := by
  obtain ⟨μ, ρ, D, hs, hr, q⟩ := h
  exact Ok.go q hr rfl
theorem mpts_nil : PTs X [] (tMB X.K B W bYes) := ⟨fun pins s σ H Q I h => pts_nil.run pins s σ H Q I (ma_yes h)⟩
theorem mpts_one {c : Expr} (h : PT X c (tMB X.K B W t)) : PTs X [c] (tMB X.K B W t) := pts_one h
theorem tM_lc {K : PySem.W.Frag} {vs : List Nat} {σ : L2.St} {H : Hp} {Q : VK} (h : tM K B W (eLc w g t e vs) σ H Q) : tLc (tW K B W w) (tGM K B g) (tMB K B W0 t) (tM K B W0 e) vs σ H Q := by
  obtain ⟨μ, ρ, D, hs, hr, p⟩ := h
  refine ⟨μ, ρ, D, hs, hr, Post.bind p fun μ1 D1 wk J H1 l1 r1 v1 q1 => ?_⟩
  intro L hL
  obtain ⟨G, Y, wlk, hG, hY⟩ := v1
  have s1 := hs.mono l1
  have rL : R K B (μ1 ++ [L]) (D1 ++ [.lst []]) (upd H1 L (.lst [])) := r1.new hL rfl ⟨[], .nil, upd_same⟩
  have hLi : (μ1 ++ [L])[D1.length]? = some L := by rw [← r1.len]; simp
  refine lc_it wlk (fun i H' => ∃ μ' D', Pre (μ1 ++ [L]) μ' ∧ R K B μ' D' H' ∧ Post K B (RV K) (fun c d H' => W c d σ H') μ' (lcGo wk g t e ρ vs D1.length (wk.n - i) i D') Q) ⟨_, _, Pre.refl _, rL, Post.mono (Pre.snoc μ1 L) q1⟩ ?_ ?_ ?_
  · rintro i H' hin ⟨μ', D', l', r', q'⟩
    refine hG μ' D' H' ((Pre.snoc μ1 L).trans l') r' ?_
    cases c : wk.chk D' with
    | true => rfl
    | false =>
      cases k : wk.n - i with
      | zero => rw [k] at q'; unfold lcGo at q'; rw [c] at q'; exact q'.elim
      | succ k' => rw [k] at q'; unfold lcGo at q'; rw [c] at q'; exact q'.elim
  · rintro i x H' H2 hin ⟨μ', D', l', r', q'⟩ y
    obtain ⟨k, ek⟩ : ∃ k, wk.n - i = k + 1 := ⟨wk.n - i - 1, by omega⟩
    have ek' : wk.n - (i + 1) = k := by omega
    rw [ek] at q'
    unfold lcGo at q'
    cases c : wk.chk D' with
    | false => rw [c] at q'; exact q'.elim
    | true =>
      rw [c, if_pos rfl] at q'
      cases e1 : wk.item i D' with
      | none => rw [e1] at q'; exact q'.elim
      | some pr =>
        obtain ⟨v, D2⟩ := pr
        rw [e1] at q'
        obtain ⟨μ2, l2, r2, v2⟩ := hY i μ' D' H' x H2 v D2 ((Pre.snoc μ1 L).trans l') r' c hin y e1
        dsimp only at q'
        cases e2 : g v (wipeM ρ vs) D2 with
        | none => rw [e2] at q'; exact q'.elim
        | some ρ1 =>
          rw [e2] at q'
          dsimp only at q'
          have l12 : Pre μ1 μ2 := ((Pre.snoc μ1 L).trans l').trans l2
          refine ⟨μ2, wipeM ρ vs, D2, v, (s1.mono l12).wipe vs, r2, v2, ρ1, e2, fun σ2 hs2 => ?_⟩
          by_cases c3 : wipeM ρ1 vs = wipeM ρ vs
          · rw [if_pos c3] at q'
            refine ⟨?_, μ2, ρ1, D2, hs2, r2, ?_⟩
            · have a1 := hs2.wipe vs
              rw [c3] at a1
              exact Rs.fn a1 ((s1.mono l12).wipe vs)
            · cases e3 : t ρ1 D2 with
              | ok bt D3 =>
                rw [e3] at q'
                intro μ3 H3 b3 l3 r3 v3
                obtain rfl : bt = b3 := v3
                cases bt with
                | false => exact iteF ⟨μ3, D3, (l'.trans l2).trans l3, r3, by rw [ek']; exact Post.mono (l2.trans l3) q'⟩
                | true =>
                  dsimp only at q'
                  refine iteT ⟨μ3, ρ1, D3, hs2.mono l3, r3, ?_⟩
                  cases e4 : e ρ1 D3 with
                  | ok yv D4 =>
                    rw [e4] at q'
                    dsimp only at q'
                    intro μ4 H4 u4 l4 r4 v4
                    cases e5 : D4[D1.length]? with
                    | none => rw [e5] at q'; exact q'.elim
                    | some ob =>
                      rw [e5] at q'
                      cases ob with
                      | lst acc =>
                        dsimp only at q'
                        by_cases c5 : acc.length < sizeLine
                        · rw [if_pos c5] at q'
                          have lall : Pre (μ1 ++ [L]) μ4 := ((l'.trans l2).trans l3).trans l4
                          have hL4 := lall.get hLi
                          obtain ⟨ys, ry, hy⟩ := r4.ob _ _ _ hL4 e5
                          exact ⟨ys, hy, by rw [← Pd.len ry]; exact c5, μ4, D4.set D1.length (.lst (acc ++ [yv])), lall, r4.set e5 hL4 rfl rfl ⟨_, Pd.append ry (.cons v4 .nil), upd_same⟩, by rw [ek']; exact Post.mono ((l2.trans l3).trans l4) q'⟩
                        · rw [if_neg c5] at q'
                          exact q'.elim
                      | _ => exact q'.elim
                  | exc c' fs D4 => rw [e4] at q'; exact q'.elim
                  | err => rw [e4] at q'; exact q'.elim
              | exc c' fs D4 => rw [e3] at q'; exact q'.elim
              | err => rw [e3] at q'; exact q'.elim
          · rw [if_neg c3] at q'
            exact q'.elim
  · rintro H' ⟨μ', D', l', r', q'⟩
    rw [Nat.sub_self] at q'
    unfold lcGo at q'
    cases c : wk.chk D' with
    | false => rw [c] at q'; exact q'.elim
    | true =>
      rw [c] at q'
      exact Ok.go (Rel := RV K) (v := .ref D1.length) q' r' ⟨L, l'.get hLi, rfl⟩
theorem me_lc (hc : X.calm = true) (hN : X.N.Nodup) (hi : PI X tg iter (tW X.K B W w)) (ok : BlkOk X.N X.env.scope scope own)
    (hg : ∀ (s : Shared) (H : Hp) (C : Addr) (cl : List (Str × Addr)) (fp : List Addr), PG (X.blk s H scope (compEnvC scope cl C X.env) fp) tg (tGM X.K B g))
    (ht : ∀ (s : Shared) (H : Hp) (C : Addr) (cl : List (Str × Addr)) (fp : List Addr), PTs (X.blk s H scope (compEnvC scope cl C X.env) fp) ifs (tMB X.K B W0 t))
    (he : ∀ (s : Shared) (H : Hp) (C : Addr) (cl : List (Str × Addr)) (fp : List Addr), PE (X.blk s H scope (compEnvC scope cl C X.env) fp) elt (tM X.K B W0 e))
    (hs : ∀ x, foldedSetIterable iter X.env x = pure x := by intro _; rfl) : PE X (.ListComp elt [⟨tg, iter, ifs, 0⟩] scope pos) (tM X.K B W (eLc w g t e (own.map (·.2)))) :=
  PE.imp (pe_lc hc hN hi ok hg ht he hs) fun _ _ _ => tM_lc
theorem mp_setLc {i : Nat} {y : Str} {py : Pos} (hc : X.calm = true) (hN : X.N.Nodup) (hiy : X.N[i]? = some y) (hy : X.env.scope.names.lookup y = some .local) (sw : swapsWith (.ListComp elt [⟨tg, iter, ifs, 0⟩] scope pos) (some (.Name y py)) spos.line X.env = pure true)
    (hi : PI X tg iter (tW X.K B W w)) (ok : BlkOk X.N X.env.scope scope own)
    (hg : ∀ (s : Shared) (H : Hp) (C : Addr) (cl : List (Str × Addr)) (fp : List Addr), PG (X.blk s H scope (compEnvC scope cl C X.env) fp) tg (tGM X.K B g))
    (ht : ∀ (s : Shared) (H : Hp) (C : Addr) (cl : List (Str × Addr)) (fp : List Addr), PTs (X.blk s H scope (compEnvC scope cl C X.env) fp) ifs (tMB X.K B W0 t))
    (he : ∀ (s : Shared) (H : Hp) (C : Addr) (cl : List (Str × Addr)) (fp : List Addr), PE (X.blk s H scope (compEnvC scope cl C X.env) fp) elt (tM X.K B W0 e))
    (hs : ∀ x, foldedSetIterable iter X.env x = pure x := by intro _; rfl) : PS X (.Assign [.Name y py] (.ListComp elt [⟨tg, iter, ifs, 0⟩] scope pos) spos) (tMS X.K B W (sSet i (eLc w g t e (own.map (·.2))))) :=
  PS.imp (ps_setLc hc hN hiy hy sw hi ok hg ht he hs) fun E σ H ⟨μ, ρ, D, hs, hr, p⟩ =>
    tM_lc ⟨μ, ρ, D, hs, hr, PostS.lift hs p fun μ1 D1 x x' H1 l1 r1 s1 v1 q1 => SEnd.go q1 r1 (s1.put v1 i)⟩
/-! dicts by turns -/
def dcGo (wk : Wk) (g : GM) (t : BM) (ek ev : EM) (ρ : Rho) (vs : List Nat) (L : Nat) : Nat → Nat → Sto → Re MV
  | 0, _, D => if wk.chk D then .ok (.ref L) D else .err
  | k + 1, i, D => if wk.chk D then match wk.item i D with
      | some (v, D1) => match g v (wipeM ρ vs) D1 with
        | some ρ1 => if wipeM ρ1 vs = wipeM ρ vs then match t ρ1 D1 with
          | .ok true D2 => match ek ρ1 D2 with
            | .ok y D3 => match ev ρ1 D3 with
              | .ok z D4 => match D4[L]? with
                | some (.dic kvs) => match keyOf y with
                  | some q => if kvs.length < sizeLine then dcGo wk g t ek ev ρ vs L k (i + 1) (D4.set L (.dic (putM kvs q z))) else .err
                  | none => .err
                | _ => .err
              | _ => .err
            | _ => .err
          | .ok false D2 => dcGo wk g t ek ev ρ vs L k (i + 1) D2
          | _ => .err
          else .err
        | none => .err
      | none => .err
    else .err
def eDc (w : WM) (g : GM) (t : BM) (ek ev : EM) (vs : List Nat) : EM := fun ρ D => (w ρ D).bind fun wk D1 => dcGo wk g t ek ev ρ vs D1.length wk.n 0 (D1 ++ [.dic []])
/-- as lc_it, for a dict -/
theorem dc_it {J : It} {n : Nat} {G : Hp → Prop} {Y : Nat → Hp → V → Hp → Prop} (w : Walk J n G Y) {g : TG} {tt : TT} {tk tv : TE} {vs : List Nat} {σ : L2.St} {H1 : Hp} {D : Addr} {Qd : Hp → Prop} (Pv : Nat → Hp → Prop) (h0 : Pv 0 (upd H1 D (.dK []))) (hG : ∀ i H, i ≤ n → Pv i H → G H)
    (step : ∀ i x H H', i < n → Pv i H → Y i H x H' → g x (L2.wipe σ vs) H' fun σ2 H2 => L2.wipe σ2 vs = L2.wipe σ vs ∧ tt σ2 H2 fun b H3 =>
      if b = true then tk σ2 H3 fun y H4 => tv σ2 H4 fun z H5 => ∃ kvs k, y = kV k ∧ H5 D = some (.dK kvs) ∧ kvs.length < sizeLine ∧ Pv (i + 1) (upd H5 D (.dK (putK kvs k z))) else Pv (i + 1) H3) (hd : ∀ H, Pv n H → Qd H) :
    ∃ W : Nat → Nat → Hp → Prop, (∃ m, W 0 m (upd H1 D (.dK []))) ∧ ∀ i m H, W i m H →
      (J.stop i H ∧ Qd H) ∨ (J.go i H ∧ ∃ Nx : Hp → Prop, (∀ H', Nx H' → ∃ m', m' < m ∧ W (i + 1) m' H') ∧ ∀ x H', J.yld i H x H' → g x (L2.wipe σ vs) H' fun σ2 H2 => L2.wipe σ2 vs = L2.wipe σ vs ∧ tt σ2 H2 fun b H3 =>
        if b = true then tk σ2 H3 fun y H4 => tv σ2 H4 fun z H5 => ∃ kvs k, y = kV k ∧ H5 D = some (.dK kvs) ∧ kvs.length < sizeLine ∧ Nx (upd H5 D (.dK (putK kvs k z))) else Nx H3) := by
  refine ⟨fun i m H => m + i = n ∧ Pv i H, ⟨n, rfl, h0⟩, fun i m H ⟨e, p⟩ => ?_⟩
  have q := hG i H (by omega) p
  cases m with
  | zero =>
    have e' : i = n := by omega
    subst e'
    exact .inl ⟨w.stops H q, hd H p⟩
  | succ m =>
    have hlt : i < n := by omega
    exact .inr ⟨w.goes i H hlt q, Pv (i + 1), fun H' p' => ⟨m, Nat.lt_succ_self m, by omega, p'⟩, fun x H' y => step i x H H' hlt p (w.yields i H x H' hlt q y)⟩
variable {kx vx : Expr} {ek ev : EM}
theorem tM_dc {K : PySem.W.Frag} {vs : List Nat} {σ : L2.St} {H : Hp} {Q : VK} (h : tM K B W (eDc w g t ek ev vs) σ H Q) : tDc (tW K B W w) (tGM K B g) (tMB K B W0 t) (tM K B W0 ek) (tM K B W0 ev) vs σ H Q := by
  obtain ⟨μ, ρ, D, hs, hr, p⟩ := h
  refine ⟨μ, ρ, D, hs, hr, Post.bind p fun μ1 D1 wk J H1 l1 r1 v1 q1 => ?_⟩
  intro L hL
  obtain ⟨G, Y, wlk, hG, hY⟩ := v1
  have s1 := hs.mono l1
  have rL : R K B (μ1 ++ [L]) (D1 ++ [.dic []]) (upd H1 L (.dK [])) := r1.new hL rfl ⟨[], .nil, upd_same⟩
  have hLi : (μ1 ++ [L])[D1.length]? = some L := by rw [← r1.len]; simp
  refine dc_it wlk (fun i H' => ∃ μ' D', Pre (μ1 ++ [L]) μ' ∧ R K B μ' D' H' ∧ Post K B (RV K) (fun c d H' => W c d σ H') μ' (dcGo wk g t ek ev ρ vs D1.length (wk.n - i) i D') Q) ⟨_, _, Pre.refl _, rL, Post.mono (Pre.snoc μ1 L) q1⟩ ?_ ?_ ?_
  · rintro i H' hin ⟨μ', D', l', r', q'⟩
    refine hG μ' D' H' ((Pre.snoc μ1 L).trans l') r' ?_
    cases c : wk.chk D' with
    | true => rfl
    | false =>
      cases k : wk.n - i with
      | zero => rw [k] at q'; unfold dcGo at q'; rw [c] at q'; exact q'.elim
      | succ k' => rw [k] at q'; unfold dcGo at q'; rw [c] at q'; exact q'.elim
  · rintro i x H' H2 hin ⟨μ', D', l', r', q'⟩ y
    obtain ⟨k, ek0⟩ : ∃ k, wk.n - i = k + 1 := ⟨wk.n - i - 1, by omega⟩
    have ek' : wk.n - (i + 1) = k := by omega
    rw [ek0] at q'
    unfold dcGo at q'
    cases c : wk.chk D' with
    | false => rw [c] at q'; exact q'.elim
    | true =>
      rw [c, if_pos rfl] at q'
      cases e1 : wk.item i D' with
      | none => rw [e1] at q'; exact q'.elim
      | some pr =>
        obtain ⟨v, D2⟩ := pr
        rw [e1] at q'
        obtain ⟨μ2, l2, r2, v2⟩ := hY i μ' D' H' x H2 v D2 ((Pre.snoc μ1 L).trans l') r' c hin y e1
        dsimp only at q'
        cases e2 : g v (wipeM ρ vs) D2 with
        | none => rw [e2] at q'; exact q'.elim
        | some ρ1 =>
          rw [e2] at q'
          dsimp only at q'
          have l12 : Pre μ1 μ2 := ((Pre.snoc μ1 L).trans l').trans l2
          refine ⟨μ2, wipeM ρ vs, D2, v, (s1.mono l12).wipe vs, r2, v2, ρ1, e2, fun σ2 hs2 => ?_⟩
          by_cases c3 : wipeM ρ1 vs = wipeM ρ vs
          · rw [if_pos c3] at q'
            refine ⟨?_, μ2, ρ1, D2, hs2, r2, ?_⟩
            · have a1 := hs2.wipe vs
              rw [c3] at a1
              exact Rs.fn a1 ((s1.mono l12).wipe vs)
            · cases e3 : t ρ1 D2 with
              | ok bt D3 =>
                rw [e3] at q'
                intro μ3 H3 b3 l3 r3 v3
                obtain rfl : bt = b3 := v3
                cases bt with
                | false => exact iteF ⟨μ3, D3, (l'.trans l2).trans l3, r3, by rw [ek']; exact Post.mono (l2.trans l3) q'⟩
                | true =>
                  dsimp only at q'
                  refine iteT ⟨μ3, ρ1, D3, hs2.mono l3, r3, ?_⟩
                  cases e4 : ek ρ1 D3 with
                  | ok yk D4 =>
                    rw [e4] at q'
                    dsimp only at q'
                    intro μ4 H4 u4 l4 r4 v4
                    refine ⟨μ4, ρ1, D4, hs2.mono (l3.trans l4), r4, ?_⟩
                    cases e5 : ev ρ1 D4 with
                    | ok zv D5 =>
                      rw [e5] at q'
                      dsimp only at q'
                      intro μ5 H5 u5 l5 r5 v5
                      cases e6 : D5[D1.length]? with
                      | none => rw [e6] at q'; exact q'.elim
                      | some ob =>
                        rw [e6] at q'
                        cases ob with
                        | dic kvs =>
                          dsimp only at q'
                          cases e7 : keyOf yk with
                          | none => rw [e7] at q'; exact q'.elim
                          | some kq =>
                            rw [e7] at q'
                            dsimp only at q'
                            by_cases c5 : kvs.length < sizeLine
                            · rw [if_pos c5] at q'
                              have lall : Pre (μ1 ++ [L]) μ5 := (((l'.trans l2).trans l3).trans l4).trans l5
                              have hL5 := lall.get hLi
                              obtain ⟨ls, rl, hl⟩ := r5.ob _ _ _ hL5 e6
                              exact ⟨ls, kq, keyOf_ok e7 v4, hl, by rw [← Pd.len rl]; exact c5, μ5, D5.set D1.length (.dic (putM kvs kq zv)), lall, r5.set e6 hL5 rfl rfl ⟨_, putM_ok v5 rl, upd_same⟩, by rw [ek']; exact Post.mono (((l2.trans l3).trans l4).trans l5) q'⟩
                            · rw [if_neg c5] at q'
                              exact q'.elim
                        | _ => exact q'.elim
                    | exc c' fs D4 => rw [e5] at q'; exact q'.elim
                    | err => rw [e5] at q'; exact q'.elim
                  | exc c' fs D4 => rw [e4] at q'; exact q'.elim
                  | err => rw [e4] at q'; exact q'.elim
              | exc c' fs D4 => rw [e3] at q'; exact q'.elim
              | err => rw [e3] at q'; exact q'.elim
          · rw [if_neg c3] at q'
            exact q'.elim
  · rintro H' ⟨μ', D', l', r', q'⟩
    rw [Nat.sub_self] at q'
    unfold dcGo at q'
    cases c : wk.chk D' with
    | false => rw [c] at q'; exact q'.elim
    | true =>
      rw [c] at q'
      exact Ok.go (Rel := RV K) (v := .ref D1.length) q' r' ⟨L, l'.get hLi, rfl⟩
theorem me_dc (hc : X.calm = true) (hN : X.N.Nodup) (hi : PI X tg iter (tW X.K B W w)) (ok : BlkOk X.N X.env.scope scope own)
    (hg : ∀ (s : Shared) (H : Hp) (C : Addr) (cl : List (Str × Addr)) (fp : List Addr), PG (X.blk s H scope (compEnvC scope cl C X.env) fp) tg (tGM X.K B g))
    (ht : ∀ (s : Shared) (H : Hp) (C : Addr) (cl : List (Str × Addr)) (fp : List Addr), PTs (X.blk s H scope (compEnvC scope cl C X.env) fp) ifs (tMB X.K B W0 t))
    (hk : ∀ (s : Shared) (H : Hp) (C : Addr) (cl : List (Str × Addr)) (fp : List Addr), PE (X.blk s H scope (compEnvC scope cl C X.env) fp) kx (tM X.K B W0 ek))
    (he : ∀ (s : Shared) (H : Hp) (C : Addr) (cl : List (Str × Addr)) (fp : List Addr), PE (X.blk s H scope (compEnvC scope cl C X.env) fp) vx (tM X.K B W0 ev))
    (hs : ∀ x, foldedSetIterable iter X.env x = pure x := by intro _; rfl) : PE X (.DictComp kx vx [⟨tg, iter, ifs, 0⟩] scope pos) (tM X.K B W (eDc w g t ek ev (own.map (·.2)))) :=
  PE.imp (pe_dc hc hN hi ok hg ht hk he hs) fun _ _ _ => tM_dc
end
end Mp

set_option Elab.async false
set_option linter.all false
set_option maxRecDepth 100000
namespace Mp
open PySem L2

section
variable {K : PySem.W.Frag} {B : List (Str × Nat)} {μ : List Addr} {D : Sto} {H : Hp}
theorem rvs1 {vs : List MV} {ws : List V} {v : MV} (e : vs = [v]) (h : RVs K μ vs ws) : ∃ u, ws = [u] ∧ RV K μ v u := by
  subst e
  cases h with
  | cons r t => cases t; exact ⟨_, rfl, r⟩
theorem rvs2 {vs : List MV} {ws : List V} {v w : MV} (e : vs = [v, w]) (h : RVs K μ vs ws) : ∃ u z, ws = [u, z] ∧ RV K μ v u ∧ RV K μ w z := by
  subst e
  cases h with
  | cons r t =>
    cases t with
    | cons s t => cases t; exact ⟨_, _, rfl, r, s⟩
theorem rvs0 {vs : List MV} {ws : List V} (e : vs = []) (h : RVs K μ vs ws) : ws = [] := by
  subst e
  cases h
  rfl
end
/-- a function of one argument, by its answer -/
def f1 (g : MV → Sto → Option MV) : List MV → Sto → Re MV := fun vs D => match vs with
  | [v] => ok? (g v D) D
  | _ => .err
def f2 (g : MV → MV → Sto → Option MV) : List MV → Sto → Re MV := fun vs D => match vs with
  | [v, w] => ok? (g v w D) D
  | _ => .err
section
variable {X : Cx} {B : List (Str × Nat)}
theorem pl_f1 {r : List V → Hp → VK → Prop} {g : MV → Sto → Option MV} (h : ∀ (μ : List Addr) (D : Sto) (H : Hp) (v : MV) (u : V) (w : MV) (Q : VK), R X.K B μ D H → RV X.K μ v u → g v D = some w → (∀ z, RV X.K μ w z → Q z H) → r [u] H Q) : PL X.K B r (f1 g) := fun μ D H vs ws W Q hr hv p => by
  match vs, p with
  | [v], p =>
    obtain ⟨u, rfl, ru⟩ := rvs1 rfl hv
    obtain ⟨w, hw, k⟩ := ok?_ok hr p
    exact h μ D H v u w Q hr ru hw k
  | [], p => exact p.elim
  | _ :: _ :: _, p => exact p.elim
theorem pl_f2 {r : List V → Hp → VK → Prop} {g : MV → MV → Sto → Option MV} (h : ∀ (μ : List Addr) (D : Sto) (H : Hp) (v v' : MV) (u u' : V) (w : MV) (Q : VK), R X.K B μ D H → RV X.K μ v u → RV X.K μ v' u' → g v v' D = some w → (∀ z, RV X.K μ w z → Q z H) → r [u, u'] H Q) : PL X.K B r (f2 g) := fun μ D H vs ws W Q hr hv p => by
  match vs, p with
  | [v, v'], p =>
    obtain ⟨u, u', rfl, ru, ru'⟩ := rvs2 rfl hv
    obtain ⟨w, hw, k⟩ := ok?_ok hr p
    exact h μ D H v v' u u' w Q hr ru ru' hw k
  | [], p => exact p.elim
  | [_], p => exact p.elim
  | _ :: _ :: _ :: _, p => exact p.elim
end

/-! ### len -/
def lenM (v : MV) (D : Sto) : Option MV := match v with
  | .str y => if y.length ≤ sizeLine then some (.int y.length) else none
  | .ref j => match D[j]? with
    | some (.lst xs) => some (.int xs.length)
    | some (.rol xs) => some (.int xs.length)
    | some (.kls xs) => some (.int xs.length)
    | some (.tup xs) => some (.int xs.length)
    | some (.ktp xs) => some (.int xs.length)
    | some (.dic xs) => some (.int xs.length)
    | some (.dit xs) => some (.int xs.length)
    | _ => none
  | _ => none
section
variable {X : Cx} {B : List (Str × Nat)}
theorem cr_len : CallR X (.builtin "len") (fun xs H Q => ((∃ x n, xs = [x] ∧ LenV X.K x H n ∧ Q (.int n) H) ∨ (∃ a kvs, xs = [V.ref a] ∧ H a = some (.dK kvs) ∧ Q (.int kvs.length) H)) ∨ rLenT xs H Q) := CallR.or (CallR.or call_len call_lenD) call_len_dT
theorem pl_len : PL X.K B (fun xs H Q => ((∃ x n, xs = [x] ∧ LenV X.K x H n ∧ Q (.int n) H) ∨ (∃ a kvs, xs = [V.ref a] ∧ H a = some (.dK kvs) ∧ Q (.int kvs.length) H)) ∨ rLenT xs H Q) (f1 lenM) := pl_f1 fun μ D H v u w Q r rv h k => by
  cases v with
  | str y =>
    obtain rfl : u = .str y := rv
    unfold lenM at h
    dsimp only at h
    by_cases c : y.length ≤ sizeLine
    · rw [if_pos c] at h
      cases h
      exact .inl (.inl ⟨_, _, rfl, ⟨c, rfl⟩, k _ rfl⟩)
    · rw [if_neg c] at h
      cases h
  | ref j =>
    unfold lenM at h
    dsimp only at h
    cases e : D[j]? with
    | none => rw [e] at h; cases h
    | some o =>
      rw [e] at h
      cases o with
      | lst xs =>
        cases h
        obtain ⟨a, ys, rfl, ry, hs⟩ := rdL_ok (xs := xs) r (by unfold rdL; rw [e]) rv
        exact .inl (.inl ⟨_, _, rfl, .inl ⟨ys, hs, rfl⟩, k _ (by show _ = _; rw [← Pd.len ry])⟩)
      | rol xs =>
        cases h
        obtain ⟨a, ys, rfl, ry, hs⟩ := rdL_ok (xs := xs) r (by unfold rdL; rw [e]) rv
        exact .inl (.inl ⟨_, _, rfl, .inl ⟨ys, hs, rfl⟩, k _ (by show _ = _; rw [← Pd.len ry])⟩)
      | kls xs =>
        cases h
        obtain ⟨a, ys, rfl, ry, hs⟩ := rdL_ok (xs := xs) r (by unfold rdL; rw [e]) rv
        exact .inl (.inl ⟨_, _, rfl, .inl ⟨ys, hs, rfl⟩, k _ (by show _ = _; rw [← Pd.len ry])⟩)
      | tup xs =>
        cases h
        obtain ⟨a, ys, rfl, ry, hs⟩ := rdT_ok (xs := xs) r (by unfold rdT; rw [e]) rv
        exact .inl (.inl ⟨_, _, rfl, .inr ⟨ys, hs, rfl⟩, k _ (by show _ = _; rw [← Pd.len ry])⟩)
      | ktp xs =>
        cases h
        obtain ⟨a, ys, rfl, ry, hs⟩ := rdT_ok (xs := xs) r (by unfold rdT; rw [e]) rv
        exact .inl (.inl ⟨_, _, rfl, .inr ⟨ys, hs, rfl⟩, k _ (by show _ = _; rw [← Pd.len ry])⟩)
      | dic xs =>
        cases h
        obtain ⟨a, rfl, _, ls, rl, hl⟩ := r.ref e rv
        exact .inl (.inr ⟨a, ls, rfl, hl, k _ (by show _ = _; rw [← Pd.len rl])⟩)
      | dit xs =>
        cases h
        obtain ⟨a, rfl, _, ls, rl, hl⟩ := r.ref e rv
        exact .inr ⟨a, ls, rfl, hl, k _ (by show _ = _; rw [← Pd.len rl])⟩
      | _ => cases h
  | _ => cases h
end

/-! ### list(x), tuple(x) -/
def bList (vs : List MV) (D : Sto) : Re MV := match vs with
  | [.ref j] => match rdL D j with
    | some xs => new (.lst xs) D
    | none => match rdT D j with
      | some xs => new (.lst xs) D
      | none => .err
  | _ => .err
def bTuple (vs : List MV) (D : Sto) : Re MV := match vs with
  | [.ref j] => match rdL D j with
    | some xs => new (.tup xs) D
    | none => match rdT D j with
      | some _ => .ok (.ref j) D
      | none => .err
  | _ => .err
section
variable {X : Cx} {B : List (Str × Nat)}
theorem pl_list : PL X.K B (fun xs H Q => ∃ p ys, xs = [.ref p] ∧ (SqL X.K H p ys ∨ SqT X.K H p ys) ∧ ∀ l, H l = none → Q (.ref l) (upd H l (.lst ys))) bList := fun μ D H vs ws W Q r rv p => by
  unfold bList at p
  split at p
  · rename_i j
    obtain ⟨u, rfl, ru⟩ := rvs1 rfl rv
    cases e : rdL D j with
    | some xs =>
      rw [e] at p
      obtain ⟨a, ys, rfl, ry, hs⟩ := rdL_ok r e ru
      exact ⟨a, ys, rfl, .inl hs, fun l hl => new_lst r p hl ry⟩
    | none =>
      rw [e] at p
      dsimp only at p
      cases e2 : rdT D j with
      | some xs =>
        rw [e2] at p
        obtain ⟨a, ys, rfl, ry, hs⟩ := rdT_ok r e2 ru
        exact ⟨a, ys, rfl, .inr hs, fun l hl => new_lst r p hl ry⟩
      | none => rw [e2] at p; exact p.elim
  · exact p.elim
theorem pl_tuple : PL X.K B (fun xs H Q => ∃ p ys, xs = [.ref p] ∧ ((SqL X.K H p ys ∧ ∀ l, H l = none → Q (.ref l) (upd H l (.tup ys))) ∨ (SqT X.K H p ys ∧ Q (.ref p) H))) bTuple := fun μ D H vs ws W Q r rv p => by
  unfold bTuple at p
  split at p
  · rename_i j
    obtain ⟨u, rfl, ru⟩ := rvs1 rfl rv
    cases e : rdL D j with
    | some xs =>
      rw [e] at p
      obtain ⟨a, ys, rfl, ry, hs⟩ := rdL_ok r e ru
      exact ⟨a, ys, rfl, .inl ⟨hs, fun l hl => new_tup r p hl ry⟩⟩
    | none =>
      rw [e] at p
      dsimp only at p
      cases e2 : rdT D j with
      | some xs =>
        rw [e2] at p
        have ru' := ru
        obtain ⟨a, ys, rfl, ry, hs⟩ := rdT_ok r e2 ru
        exact ⟨a, ys, rfl, .inr ⟨hs, Ok.go p r ru'⟩⟩
      | none => rw [e2] at p; exact p.elim
  · exact p.elim
end

/-! ### ints, texts -/
def absM (v : MV) (_ : Sto) : Option MV := match v with
  | .int i => some (.int (if i < 0 then -i else i))
  | _ => none
def max2M (v w : MV) (_ : Sto) : Option MV := match v, w with
  | .int i, .int j => some (.int (if j > i then j else i))
  | _, _ => none
def min2M (v w : MV) (_ : Sto) : Option MV := match v, w with
  | .int i, .int j => some (.int (if j < i then j else i))
  | _, _ => none
def intM (v : MV) (_ : Sto) : Option MV := match v with
  | .int i => some (.int i)
  | .bl b => some (.int (if b then 1 else 0))
  | _ => none
def strM (v : MV) (_ : Sto) : Option MV := match v with
  | .int i => if i.natAbs.log2 < 1920 then some (.str (toString i)) else none
  | .str x => some (.str x)
  | _ => none
section
variable {X : Cx} {B : List (Str × Nat)}
theorem pl_abs : PL X.K B (fun xs H Q => ∃ i, xs = [.int i] ∧ Q (.int (if i < 0 then -i else i)) H) (f1 absM) := pl_f1 fun μ D H v u w Q r rv h k => by
  cases v with
  | int i =>
    obtain rfl : u = .int i := rv
    cases h
    exact ⟨i, rfl, k _ rfl⟩
  | _ => cases h
theorem pl_max2 : PL X.K B (fun xs H Q => ∃ i j, xs = [.int i, .int j] ∧ Q (.int (if j > i then j else i)) H) (f2 max2M) := pl_f2 fun μ D H v v' u u' w Q r rv rv' h k => by
  cases v with
  | int i =>
    cases v' with
    | int j =>
      obtain rfl : u = .int i := rv
      obtain rfl : u' = .int j := rv'
      cases h
      exact ⟨i, j, rfl, k _ rfl⟩
    | _ => cases h
  | _ => cases h
theorem pl_min2 : PL X.K B (fun xs H Q => ∃ i j, xs = [.int i, .int j] ∧ Q (.int (if j < i then j else i)) H) (f2 min2M) := pl_f2 fun μ D H v v' u u' w Q r rv rv' h k => by
  cases v with
  | int i =>
    cases v' with
    | int j =>
      obtain rfl : u = .int i := rv
      obtain rfl : u' = .int j := rv'
      cases h
      exact ⟨i, j, rfl, k _ rfl⟩
    | _ => cases h
  | _ => cases h
theorem pl_int : PL X.K B (fun xs H Q => (∃ i, xs = [.int i] ∧ Q (.int i) H) ∨ ∃ k, xs = [.bl k] ∧ Q (.int (if k then 1 else 0)) H) (f1 intM) := pl_f1 fun μ D H v u w Q r rv h k => by
  cases v with
  | int i =>
    obtain rfl : u = .int i := rv
    cases h
    exact .inl ⟨i, rfl, k _ rfl⟩
  | bl b =>
    obtain rfl : u = .bl b := rv
    cases h
    exact .inr ⟨b, rfl, k _ rfl⟩
  | _ => cases h
theorem cr_str : CallR X (.type "str") (fun xs H Q => (∃ i, xs = [.int i] ∧ i.natAbs.log2 < 1920 ∧ Q (.str (toString i)) H) ∨ ∃ a, xs = [.str a] ∧ Q (.str a) H) := CallR.or call_str_int SkE.call_str_str
theorem pl_str : PL X.K B (fun xs H Q => (∃ i, xs = [.int i] ∧ i.natAbs.log2 < 1920 ∧ Q (.str (toString i)) H) ∨ ∃ a, xs = [.str a] ∧ Q (.str a) H) (f1 strM) := pl_f1 fun μ D H v u w Q r rv h k => by
  cases v with
  | int i =>
    obtain rfl : u = .int i := rv
    unfold strM at h
    dsimp only at h
    by_cases c : i.natAbs.log2 < 1920
    · rw [if_pos c] at h
      cases h
      exact .inl ⟨i, rfl, c, k _ rfl⟩
    · rw [if_neg c] at h
      cases h
  | str b =>
    obtain rfl : u = .str b := rv
    cases h
    exact .inr ⟨b, rfl, k _ rfl⟩
  | _ => cases h
end

/-! ### all, any of a list of truths -/
def blsM : List MV → Option (List Bool)
  | [] => some []
  | .bl b :: r => (blsM r).map (b :: ·)
  | _ => none
def allM (v : MV) (D : Sto) : Option MV := match v with
  | .ref j => (rdL D j).bind fun xs => (blsM xs).map fun bs => .bl (bs.all id)
  | _ => none
def anyM (v : MV) (D : Sto) : Option MV := match v with
  | .ref j => (rdL D j).bind fun xs => (blsM xs).map fun bs => .bl (bs.any id)
  | _ => none
theorem blsM_ok {K : PySem.W.Frag} {μ : List Addr} : ∀ {xs : List MV} {ys : List V} {bs : List Bool}, blsM xs = some bs → RVs K μ xs ys → ys = bs.map V.bl
  | [], _, _, h, .nil => by cases h; rfl
  | .bl b :: xs, y :: ys, bs, h, .cons r t => by
    unfold blsM at h
    obtain ⟨cs, e, rfl⟩ := Option.map_eq_some_iff.mp h
    rw [List.map_cons, blsM_ok e t]
    obtain rfl : y = .bl b := r
    rfl
  | .non :: _, _, _, h, _ => by cases h
  | .int _ :: _, _, _, h, _ => by cases h
  | .str _ :: _, _, _, h, _ => by cases h
  | .ref _ :: _, _, _, h, _ => by cases h
  | .glo _ :: _, _, _, h, _ => by cases h
section
variable {X : Cx} {B : List (Str × Nat)}
theorem pl_all : PL X.K B (rAll X.K) (f1 allM) := pl_f1 fun μ D H v u w Q r rv h k => by
  cases v with
  | ref j =>
    obtain ⟨xs, e, h2⟩ := Option.bind_eq_some_iff.mp h
    obtain ⟨bs, e2, rfl⟩ := Option.map_eq_some_iff.mp h2
    obtain ⟨a, ys, rfl, ry, hs⟩ := rdL_ok r e rv
    rw [blsM_ok e2 ry] at hs
    exact ⟨a, bs, rfl, hs, k _ rfl⟩
  | _ => cases h
theorem pl_any : PL X.K B (rAny X.K) (f1 anyM) := pl_f1 fun μ D H v u w Q r rv h k => by
  cases v with
  | ref j =>
    obtain ⟨xs, e, h2⟩ := Option.bind_eq_some_iff.mp h
    obtain ⟨bs, e2, rfl⟩ := Option.map_eq_some_iff.mp h2
    obtain ⟨a, ys, rfl, ry, hs⟩ := rdL_ok r e rv
    rw [blsM_ok e2 ry] at hs
    exact ⟨a, bs, rfl, hs, k _ rfl⟩
  | _ => cases h
end

/-! ### repr -/
def okShown (d : PyData) : Bool := d.showable && !d.hasDict && decide (d.depth < 100) && decide (d.shown.length ≤ sizeLine)
def reprM (v : MV) (D : Sto) : Option MV := match v with
  | .ref _ => (rdD 65 D v).bind fun d => if okShown d then some (.str d.shown) else none
  | .int i => if i.natAbs.log2 < 1920 then some (.str (toString i)) else none
  | _ => none
def rReprD (K : PySem.W.Frag) : List V → Hp → VK → Prop := fun xs H Q => ∃ a d, xs = [.ref a] ∧ Dp K H (.ref a) d ∧ okShown d = true ∧ Q (.str d.shown) H
def rReprA (K : PySem.W.Frag) : List V → Hp → VK → Prop := fun xs H Q => rReprD K xs H Q ∨ ∃ i, xs = [.int i] ∧ i.natAbs.log2 < 1920 ∧ Q (.str (toString i)) H
section
variable {X : Cx} {B : List (Str × Nat)}
theorem cr_reprD (gu : X.A.guards = some []) (hu : X.A.units + 101 < cLine) : CallR X (.builtin "repr") (rReprD X.K) := by
  intro pins s σ H xs us Q I r h
  obtain ⟨a, d, rfl, hd, ok, q⟩ := h
  obtain ⟨u, rfl, ru⟩ := vals1 r
  obtain rfl : u = Value.ref a := ru
  unfold okShown at ok
  rw [Bool.and_eq_true, Bool.and_eq_true, Bool.and_eq_true, decide_eq_true_eq, decide_eq_true_eq] at ok
  obtain ⟨⟨⟨h1, h2⟩, h3⟩, h4⟩ := ok
  have h2' : d.hasDict = false := by simpa using h2
  obtain ⟨as, hr⟩ := Dp.reads I d _ _ hd rfl
  exact PySem.repr_of_reads' hr h1 (fun e => by rw [h2'] at e; cases e) gu (by omega) (fun _ _ e => e) (fun h' u tk k => ⟨.str d.shown, H, I.kept k, ⟨u, rfl⟩, q⟩) h4
theorem cr_repr (gu : X.A.guards = some []) (hu : X.A.units + 101 < cLine) : CallR X (.builtin "repr") (rReprA X.K) := CallR.or (cr_reprD gu hu) SkE.call_repr_int
theorem pl_repr : PL X.K B (rReprA X.K) (f1 reprM) := pl_f1 fun μ D H v u w Q r rv h k => by
  cases v with
  | ref j =>
    obtain ⟨d, e, h2⟩ := Option.bind_eq_some_iff.mp h
    by_cases c : okShown d = true
    · rw [if_pos c] at h2
      cases h2
      have dp := rdD_ok r 65 _ u d e rv
      obtain ⟨a, ha, rfl⟩ := rv
      exact .inl ⟨a, d, rfl, dp, c, k _ rfl⟩
    · rw [if_neg c] at h2
      cases h2
  | int i =>
    obtain rfl : u = .int i := rv
    unfold reprM at h
    dsimp only at h
    by_cases c : i.natAbs.log2 < 1920
    · rw [if_pos c] at h
      cases h
      exact .inr ⟨i, rfl, c, k _ rfl⟩
    · rw [if_neg c] at h
      cases h
  | _ => cases h
end

/-! ### isinstance: the type of a value against classes that are written there -/
inductive Tk where
  | b (n : String) | own (C : Str)
  deriving DecidableEq
def Tk.val (K : PySem.W.Frag) : Tk → Value
  | .b n => .type n
  | .own C => .ref (He.ga K C)
def tkOf (D : Sto) (v : MV) : Option Tk := match v with
  | .non => some (.b "NoneType")
  | .bl _ => some (.b "bool")
  | .int _ => some (.b "int")
  | .str _ => some (.b "str")
  | .ref j => match D[j]? with
    | some (.lst _) => some (.b "list")
    | some (.rol _) => some (.b "list")
    | some (.kls _) => some (.b "list")
    | some (.tup _) => some (.b "tuple")
    | some (.ktp _) => some (.b "tuple")
    | some (.dic _) => some (.b "dict")
    | some (.dit _) => some (.b "dict")
    | some (.ins C _) => some (.own C)
    | none => none
  | .glo _ => none
structure InsA (K : PySem.W.Frag) (C : Addr) : Prop where
  cl : Cls K C
  ha : PySem.W.findIn K (.ref C) "__class__" = some (some (.builtin "object.__class__"))
  hn : PySem.W.specialIn K (.builtin "object.__class__") "__get__" = some (some (.builtin "getset_descriptor.__get__"))
  htk : PySem.W.takesIn K (.builtin "object.__class__") = some true
  hm : PySem.W.mroIn K C (.type "object") = some true
theorem ktp_of {K : PySem.W.Frag} {a : Addr} {ys : List V} (h : ∀ H', SqT K H' a ys) : ∃ o, K.lookup a = some o ∧ o.cls = .type "tuple" := by
  rcases h (fun _ => none) with q | ⟨o, its, n, h1, h2, _⟩
  · rcases q with q | ⟨o, q⟩ <;> cases q
  · exact ⟨o, h1, h2⟩
theorem kls_of {K : PySem.W.Frag} {a : Addr} {ys : List V} (h : ∀ H', SqL K H' a ys) : ∃ o, K.lookup a = some o ∧ o.cls = .type "list" := by
  rcases h (fun _ => none) with q | ⟨o, its, n, h1, h2, _⟩
  · rcases q with q | ⟨o, q⟩ <;> cases q
  · exact ⟨o, h1, h2⟩
theorem tkOf_ok {K : PySem.W.Frag} {B : List (Str × Nat)} {μ : List Addr} {D : Sto} {H : Hp} {v : MV} {u : V} {t : Tk} (r : R K B μ D H) (rv : RV K μ v u) (h : tkOf D v = some t) (hc : ∀ C, t = .own C → InsA K (He.ga K C)) : TyX K H u (t.val K) := by
  cases v with
  | non => obtain rfl : u = .non := rv; cases h; exact .base .non
  | bl b => obtain rfl : u = .bl b := rv; cases h; exact .base (.bl b)
  | int b => obtain rfl : u = .int b := rv; cases h; exact .base (.int b)
  | str b => obtain rfl : u = .str b := rv; cases h; exact .base (.str b)
  | ref j =>
    unfold tkOf at h
    dsimp only at h
    cases e : D[j]? with
    | none => rw [e] at h; cases h
    | some o =>
      rw [e] at h
      obtain ⟨a, rfl, _, ro⟩ := r.ref e rv
      cases o with
      | lst xs => cases h; obtain ⟨ys, _, hy⟩ := ro; exact .base (.lst hy)
      | rol xs => cases h; obtain ⟨ys, o, _, hy⟩ := ro; exact .base (.frz hy)
      | kls xs => cases h; obtain ⟨ys, _, hy⟩ := ro; obtain ⟨o, h1, h2⟩ := kls_of hy; exact .kList h1 h2
      | tup xs => cases h; obtain ⟨ys, _, hy⟩ := ro; exact .base (.tup hy)
      | ktp xs => cases h; obtain ⟨ys, _, hy⟩ := ro; obtain ⟨o, h1, h2⟩ := ktp_of hy; exact .kTuple h1 h2
      | dic xs => cases h; obtain ⟨ys, _, hy⟩ := ro; exact .base (.dK hy)
      | dit xs => cases h; obtain ⟨ys, _, hy⟩ := ro; exact .base (.dT hy)
      | ins C fs =>
        cases h
        obtain ⟨dx, gs, _, hy⟩ := ro
        have q := hc C rfl
        exact .base (.ins hy q.cl q.ha q.hn q.htk q.hm)
  | glo b => cases h
def eIsi (tab : List (Tk × Bool)) (m : EM) : EM := fun ρ D => (m ρ D).bind fun v D1 => ok? ((tkOf D1 v).bind fun t => (tab.lookup t).map .bl) D1
/-- the answers that stand in the table are the program's -/
structure TabOk (K : PySem.W.Frag) (us : List Value) (tab : List (Tk × Bool)) : Prop where
  own : ∀ p ∈ tab, ∀ C, p.1 = .own C → InsA K (He.ga K C)
  kit : ∀ p ∈ tab, PySem.W.kitAny K (p.1.val K) us = some p.2
theorem lookup_mem {α β : Type} [BEq α] [LawfulBEq α] {a : α} {b : β} : ∀ {l : List (α × β)}, l.lookup a = some b → (a, b) ∈ l
  | [], h => by cases h
  | (x, y) :: l, h => by
    by_cases c : (a == x) = true
    · simp [List.lookup, c] at h
      have := eq_of_beq c
      subst this h
      exact List.mem_cons_self
    · have c' : (a == x) = false := by simpa using c
      simp [List.lookup, c'] at h
      exact List.mem_cons_of_mem _ (lookup_mem h)
theorem kitOne_of {K : PySem.W.Frag} {t u : Value} {b : Bool} (h : PySem.W.kitAny K t [u] = some b) : PySem.W.kitOne K t u = some b := by
  unfold PySem.W.kitAny at h
  cases e : PySem.W.kitOne K t u with
  | none => rw [e] at h; cases h
  | some c =>
    rw [e] at h
    cases c with
    | true => exact h
    | false => exact h
section
variable {X : Cx} {B : List (Str × Nat)} {W : WX'} {ma : EM} {a c : Expr} {cs : List Expr} {pos p0 p1 : Pos}
theorem isi_end {tab : List (Tk × Bool)} {us : List Value} (T : TabOk X.K us tab) {μ : List Addr} {D : Sto} {H : Hp} {v : MV} {u : V} {Wh : WH} {Q : VK} (r : R X.K B μ D H) (rv : RV X.K μ v u) (q : Post X.K B (RV X.K) Wh μ (ok? ((tkOf D v).bind fun t => (tab.lookup t).map .bl) D) Q) :
    ∃ t b, TyX X.K H u t ∧ PySem.W.kitAny X.K t us = some b ∧ Q (.bl b) H := by
  obtain ⟨w, hw, k⟩ := ok?_ok r q
  obtain ⟨t, e1, e2⟩ := Option.bind_eq_some_iff.mp hw
  obtain ⟨b, e3, rfl⟩ := Option.map_eq_some_iff.mp e2
  have m := lookup_mem e3
  exact ⟨t.val X.K, b, tkOf_ok r rv e1 (fun C hC => T.own _ m C hC), T.kit _ m, k _ rfl⟩
theorem me_isi {cv : V} {u : Value} {tab : List (Tk × Bool)} (T : TabOk X.K [u] tab) (hg : Gl X "isinstance") (hm : X.mg "isinstance" = none) (hv : bootBuiltins "isinstance" = some (.builtin "isinstance")) (kc : ClsV cv u) (ha : PE X a (tM X.K B W ma)) (hc : PE X c (tC cv))
    (hs : starEach [a, c] X.env = (false, eval a X.env) :: starEach [c] X.env := by rfl) (hs2 : starEach [c] X.env = (false, eval c X.env) :: starEach [] X.env := by rfl) (hpl : (backTo pos (starEach [c] X.env)).any (·.1) = false := by rfl) :
    PE X (.Call (.Name "isinstance" p0) [a, c] [] pos) (tM X.K B W (eIsi tab ma)) :=
  PE.imp (pe_callB call_isi hg hm hv (pa_cons ha (pa_cons hc pa_nil hs2) hs) (by decide) (by decide) hs hpl) fun σ H Q h => by
    obtain ⟨μ, ρ, D, h1, h2, q⟩ := h
    refine ⟨μ, ρ, D, h1, h2, Post.bind q fun μ1 D1 x x' H1 l1 r1 v1 q1 => ?_⟩
    obtain ⟨t, b, k1, k2, k3⟩ := isi_end T r1 v1 q1
    exact ⟨x', cv, t, u, b, rfl, kc, k1, kitOne_of k2, k3⟩
def tCs : List V → TA
  | [] => tNil
  | c :: r => tCons (tC c) (tCs r)
theorem tCs_go : ∀ (cvs : List V) {σ : L2.St} {H : Hp} {Q : List V → Hp → Prop}, Q cvs H → tCs cvs σ H Q
  | [], _, _, _, q => q
  | c :: r, σ, H, Q, q => tCs_go r (Q := fun xs H2 => Q (c :: xs) H2) q
theorem mc_nil : PA X [] (tCs []) := pa_nil
theorem mc_cons {e : Expr} {es : List Expr} {cv : V} {cvs : List V} (h : PE X e (tC cv)) (hr : PA X es (tCs cvs)) (hs : starEach (e :: es) X.env = (false, eval e X.env) :: starEach es X.env := by rfl) : PA X (e :: es) (tCs (cv :: cvs)) := pa_cons h hr hs
theorem me_isiT {cvs : List V} {us : List Value} {x1 : Nat} {tab : List (Tk × Bool)} (T : TabOk X.K us tab) (hz : cvs.length ≤ sizeLine) (hg : Gl X "isinstance") (hm : X.mg "isinstance" = none) (hv : bootBuiltins "isinstance" = some (.builtin "isinstance")) (kc : Paired ClsV cvs us) (ha : PE X a (tM X.K B W ma)) (hc : PA X cs (tCs cvs))
    (hs : starEach [a, .Tuple cs x1 p1] X.env = (false, eval a X.env) :: starEach [.Tuple cs x1 p1] X.env := by rfl) (hs2 : starEach [.Tuple cs x1 p1] X.env = (false, eval (.Tuple cs x1 p1) X.env) :: starEach [] X.env := by rfl) (hpl : (backTo pos (starEach [.Tuple cs x1 p1] X.env)).any (·.1) = false := by rfl) :
    PE X (.Call (.Name "isinstance" p0) [a, .Tuple cs x1 p1] [] pos) (tM X.K B W (eIsi tab ma)) :=
  PE.imp (pe_callB call_isiT hg hm hv (pa_cons ha (pa_cons (pe_tup hc) pa_nil hs2) hs) (by decide) (by decide) hs hpl) fun σ H Q h => by
    obtain ⟨μ, ρ, D, h1, h2, q⟩ := h
    refine ⟨μ, ρ, D, h1, h2, Post.bind q fun μ1 D1 x x' H1 l1 r1 v1 q1 => ?_⟩
    refine tCs_go cvs ⟨hz, fun p hp => ?_⟩
    obtain ⟨t, b, k1, k2, k3⟩ := isi_end T (r1.fresh (ho := .tup cvs) hp) v1 q1
    exact ⟨x', p, cvs, t, us, b, rfl, upd_same, kc, k1, k2, k3⟩
end
end Mp

set_option Elab.async false
set_option linter.all false
set_option maxRecDepth 100000
namespace Mp
open PySem L2

/-! ### sorted of pairs of ints -/
section
variable {α β : Type}
def isIns (lt : α → α → Bool) (x : α) : List α → List α
  | [] => [x]
  | y :: r => if lt y x then y :: isIns lt x r else x :: y :: r
def isort (lt : α → α → Bool) : List α → List α
  | [] => []
  | x :: r => isIns lt x (isort lt r)
theorem isIns_perm (lt : α → α → Bool) (x : α) : ∀ l : List α, (isIns lt x l).Perm (x :: l)
  | [] => List.Perm.refl _
  | y :: r => by
    unfold isIns
    by_cases c : lt y x = true
    · rw [if_pos c]
      exact ((isIns_perm lt x r).cons y).trans (List.Perm.swap x y r)
    · rw [if_neg c]
theorem isort_perm (lt : α → α → Bool) : ∀ l : List α, (isort lt l).Perm l
  | [] => List.Perm.refl _
  | x :: r => (isIns_perm lt x _).trans ((isort_perm lt r).cons x)
theorem isIns_srtd {lt : α → α → Bool} (O : SrtO.Swo lt) (x : α) : ∀ {l : List α}, SrtO.Srtd lt l → SrtO.Srtd lt (isIns lt x l)
  | [], _ => List.pairwise_singleton _ _
  | y :: r, h => by
    unfold isIns
    obtain ⟨h1, h2⟩ := List.pairwise_cons.mp h
    by_cases c : lt y x = true
    · rw [if_pos c]
      refine List.pairwise_cons.mpr ⟨fun z hz => ?_, isIns_srtd O x h2⟩
      rcases List.mem_cons.mp ((isIns_perm lt x r).mem_iff.mp hz) with e | m
      · rw [e]
        exact O.asym y x c
      · exact h1 z m
    · rw [if_neg c]
      have c' : lt y x = false := by simpa using c
      refine List.pairwise_cons.mpr ⟨fun z hz => ?_, h⟩
      rcases List.mem_cons.mp hz with e | m
      · rw [e]; exact c'
      · exact O.tr x y z c' (h1 z m)
theorem isort_srtd {lt : α → α → Bool} (O : SrtO.Swo lt) : ∀ l : List α, SrtO.Srtd lt (isort lt l)
  | [] => List.Pairwise.nil
  | x :: r => isIns_srtd O x (isort_srtd O r)
theorem isIns_cls {lt : α → α → Bool} (O : SrtO.Swo lt) (x z : α) : ∀ l : List α, (isIns lt x l).filter (SrtO.eqv lt z) = (x :: l).filter (SrtO.eqv lt z)
  | [] => rfl
  | y :: r => by
    unfold isIns
    by_cases c : lt y x = true
    · rw [if_pos c]
      have ih := isIns_cls O x z r
      by_cases hx : SrtO.eqv lt z x = true
      · have hy : ¬ SrtO.eqv lt z y = true := fun hy => by
          have e := SrtO.eqv_trans O hy (x := z) (u := y) (v := x)
          rw [hx] at e
          have := (SrtO.eqv_iff.mp e.symm).1
          rw [c] at this
          cases this
        rw [List.filter_cons_of_neg hy, ih, List.filter_cons_of_pos hx, List.filter_cons_of_pos hx, List.filter_cons_of_neg hy]
      · rw [List.filter_cons_of_neg hx] at ih ⊢
        by_cases hy : SrtO.eqv lt z y = true
        · rw [List.filter_cons_of_pos hy, List.filter_cons_of_pos hy, ih]
        · rw [List.filter_cons_of_neg hy, List.filter_cons_of_neg hy, ih]
    · rw [if_neg c]
theorem isort_cls {lt : α → α → Bool} (O : SrtO.Swo lt) (z : α) : ∀ l : List α, (isort lt l).filter (SrtO.eqv lt z) = l.filter (SrtO.eqv lt z)
  | [] => rfl
  | x :: r => by
    show (isIns lt x (isort lt r)).filter _ = _
    rw [isIns_cls O x z]
    by_cases hx : SrtO.eqv lt z x = true
    · rw [List.filter_cons_of_pos hx, List.filter_cons_of_pos hx, isort_cls O z r]
    · rw [List.filter_cons_of_neg hx, List.filter_cons_of_neg hx, isort_cls O z r]
theorem isort_stb {lt : α → α → Bool} (O : SrtO.Swo lt) (l : List α) : SrtO.Stb lt (isort lt l) l := ⟨isort_perm lt l, fun z => isort_cls O z l⟩
theorem isort_only {lt : α → α → Bool} (O : SrtO.Swo lt) {l m : List α} (h1 : SrtO.Srtd lt m) (h2 : SrtO.Stb lt m l) : m = isort lt l :=
  SrtO.stb_uniq O h1 (isort_srtd O l) ⟨h2.perm.trans (isort_perm lt l).symm, fun z => (h2.cls z).trans (isort_cls O z l).symm⟩
theorem isIns_rel {F : α → β → Prop} {lt : α → α → Bool} {lu : β → β → Bool} {x : α} {y : β} (hx : F x y) : ∀ {l : List α} {m : List β}, (∀ a b, a ∈ l → b ∈ m → F a b → lt a x = lu b y) → Paired F l m → Paired F (isIns lt x l) (isIns lu y m)
  | _, _, _, .nil => .cons hx .nil
  | a :: l, b :: m, h, .cons r t => by
    unfold isIns
    have e := h a b (List.mem_cons_self) (List.mem_cons_self) r
    by_cases c : lt a x = true
    · rw [if_pos c, if_pos (by rw [← e]; exact c)]
      exact .cons r (isIns_rel hx (fun p q hp hq => h p q (List.mem_cons_of_mem _ hp) (List.mem_cons_of_mem _ hq)) t)
    · rw [if_neg c, if_neg (by rw [← e]; exact c)]
      exact .cons hx (.cons r t)
theorem isort_rel {F : α → β → Prop} {lt : α → α → Bool} {lu : β → β → Bool} : ∀ {l : List α} {m : List β}, (∀ a b a' b', a ∈ l → b ∈ m → a' ∈ l → b' ∈ m → F a b → F a' b' → lt a a' = lu b b') → Paired F l m → Paired F (isort lt l) (isort lu m)
  | _, _, _, .nil => .nil
  | x :: l, y :: m, h, .cons r t => by
    have ih := isort_rel (F := F) (lt := lt) (lu := lu) (fun a b a' b' ha hb ha' hb' => h a b a' b' (List.mem_cons_of_mem _ ha) (List.mem_cons_of_mem _ hb) (List.mem_cons_of_mem _ ha') (List.mem_cons_of_mem _ hb')) t
    exact isIns_rel r (fun a b ha hb hf => h a b x y (List.mem_cons_of_mem _ ((isort_perm lt l).mem_iff.mp ha)) (List.mem_cons_of_mem _ ((isort_perm lu m).mem_iff.mp hb)) (List.mem_cons_self) (List.mem_cons_self) hf r) ih
end
def ipOf (D : Sto) (v : MV) : Option (Int × Int) := match v with
  | .ref i => match D[i]? with
    | some (.tup [.int a, .int b]) => some (a, b)
    | _ => none
  | _ => none
def ipK (D : Sto) (v : MV) : Int × Int := (ipOf D v).getD (0, 0)
def bSorted (vs : List MV) (D : Sto) : Re MV := match vs with
  | [.ref j] => match rdL D j with
    | some xs => if xs.all fun x => (ipOf D x).isSome then new (.lst (isort (fun x y => SrtO.lexB (ipK D x) (ipK D y)) xs)) D else .err
    | none => .err
  | _ => .err
def ipV (H : Hp) (u : V) : Int × Int := match u with
  | .ref a => match H a with
    | some (.tup [.int a, .int b]) => (a, b)
    | _ => (0, 0)
  | _ => (0, 0)
section
variable {K : PySem.W.Frag} {B : List (Str × Nat)} {μ : List Addr} {D : Sto} {H : Hp}
theorem ipOf_ok {v : MV} {u : V} {p : Int × Int} (r : R K B μ D H) (rv : RV K μ v u) (h : ipOf D v = some p) : ∃ t, u = .ref t ∧ H t = some (.tup [.int p.1, .int p.2]) := by
  unfold ipOf at h
  split at h
  · rename_i i
    split at h
    · rename_i a b e
      cases h
      obtain ⟨t, rfl, _, ys, ry, hy⟩ := r.ref e rv
      obtain ⟨u1, u2, rfl, r1, r2⟩ := rvs2 rfl ry
      obtain rfl : u1 = .int a := r1
      obtain rfl : u2 = .int b := r2
      exact ⟨t, rfl, hy⟩
    · cases h
  · cases h
theorem ipK_ok {v : MV} {u : V} (r : R K B μ D H) (rv : RV K μ v u) (h : (ipOf D v).isSome = true) : ipV H u = ipK D v ∧ ∃ t, u = .ref t ∧ H t = some (.tup [.int (ipV H u).1, .int (ipV H u).2]) := by
  obtain ⟨p, e⟩ := Option.isSome_iff_exists.mp h
  obtain ⟨t, rfl, ht⟩ := ipOf_ok r rv e
  have e2 : ipV H (.ref t) = p := by unfold ipV; dsimp only; rw [ht]
  have e3 : ipK D v = p := by unfold ipK; rw [e]; rfl
  exact ⟨e2.trans e3.symm, t, rfl, by rw [e2]; exact ht⟩
end
section
variable {X : Cx} {B : List (Str × Nat)}
theorem all_rel {K : PySem.W.Frag} {μ : List Addr} {p : MV → Bool} : ∀ {xs : List MV} {ys : List V}, RVs K μ xs ys → xs.all p = true → Paired (fun x y => RV K μ x y ∧ p x = true) xs ys
  | _, _, .nil, _ => .nil
  | _, _, .cons r t, h => by
    rw [List.all_cons, Bool.and_eq_true] at h
    exact .cons ⟨r, h.1⟩ (all_rel t h.2)
theorem paired_mem {α β : Type} {F : α → β → Prop} : ∀ {xs : List α} {ys : List β}, Paired F xs ys → ∀ y ∈ ys, ∃ x ∈ xs, F x y
  | _, _, .nil, y, h => by cases h
  | _, _, .cons r t, y, h => by
    rcases List.mem_cons.mp h with e | m
    · subst e
      exact ⟨_, List.mem_cons_self, r⟩
    · obtain ⟨x, hx, f⟩ := paired_mem t y m
      exact ⟨x, List.mem_cons_of_mem _ hx, f⟩
theorem pl_sorted : PL X.K B (rSortedPO X.K) bSorted := fun μ D H vs ws W Q r rv p => by
  unfold bSorted at p
  split at p
  · rename_i j
    obtain ⟨u, rfl, ru⟩ := rvs1 rfl rv
    cases e : rdL D j with
    | none => rw [e] at p; exact p.elim
    | some xs =>
      rw [e] at p
      dsimp only at p
      by_cases c : (xs.all fun x => (ipOf D x).isSome) = true
      · rw [if_pos c] at p
        obtain ⟨a, ys, rfl, ry, hs⟩ := rdL_ok r e ru
        have rz := all_rel ry c
        refine ⟨a, ys, ipV H, rfl, hs, fun y hy => ?_, fun zs q h1 h2 hq => ?_⟩
        · obtain ⟨x, _, f1, f2⟩ := paired_mem rz y hy
          exact (ipK_ok r f1 f2).2
        · rw [isort_only (ltP_swo (ipV H)) h1 h2]
          have rel := isort_rel (F := fun x y => RV X.K μ x y ∧ (ipOf D x).isSome = true) (lt := fun x y => SrtO.lexB (ipK D x) (ipK D y)) (lu := ltP (ipV H)) (fun a b a' b' _ _ _ _ f f' => by
            show SrtO.lexB _ _ = SrtO.lexB _ _
            rw [(ipK_ok r f.1 f.2).1, (ipK_ok r f'.1 f'.2).1]) rz
          exact new_lst r p hq (Pd.mono rel fun _ _ f => f.1)
      · rw [if_neg c] at p
        exact p.elim
  · exact p.elim
end

/-! ### methods of lists -/
def eBm0 (p : MV → Sto → Re MV) (mo : EM) : EM := fun ρ D => (mo ρ D).bind fun x D1 => p x D1
def eBm (p : MV → List MV → Sto → Re MV) (mo : EM) (am : AM) : EM := fun ρ D => (mo ρ D).bind fun x D1 => if tyM D1 x then (am ρ D1).bind fun vs D2 => p x vs D2 else .err
where tyM (D : Sto) (x : MV) : Bool := match x with
  | .ref j => match D[j]? with
    | some (.lst _) => true
    | _ => false
  | _ => false
def mPop (x : MV) (D : Sto) : Re MV := match x with
  | .ref j => match D[j]? with
    | some (.lst xs) => match xs[xs.length - 1]? with
      | some y => .ok y (D.set j (.lst xs.dropLast))
      | none => .err
    | _ => .err
  | _ => .err
def mPopAt (x : MV) (vs : List MV) (D : Sto) : Re MV := match x, vs with
  | .ref j, [.int i] => match D[j]? with
    | some (.lst xs) => if -(2 ^ 63) ≤ i ∧ i < 2 ^ 63 then match seqIndex? i xs.length with
      | some k => match xs[k]? with
        | some y => .ok y (D.set j (.lst (xs.eraseIdx k)))
        | none => .err
      | none => .err
      else .err
    | _ => .err
  | _, _ => .err
def mAppend (x : MV) (vs : List MV) (D : Sto) : Re MV := match x, vs with
  | .ref j, [y] => match D[j]? with
    | some (.lst xs) => if xs.length < sizeLine then .ok .non (D.set j (.lst (xs ++ [y]))) else .err
    | _ => .err
  | _, _ => .err
def mInsert (x : MV) (vs : List MV) (D : Sto) : Re MV := match x, vs with
  | .ref j, [.int i, y] => match D[j]? with
    | some (.lst xs) => if xs.length < sizeLine ∧ 0 ≤ i ∧ i < 2 ^ 63 then .ok .non (D.set j (.lst (xs.take i.toNat ++ y :: xs.drop i.toNat))) else .err
    | _ => .err
  | _, _ => .err
section
variable {X : Cx} {B : List (Str × Nat)} {W : WX'} {mo : EM} {am : AM} {o e : Expr} {es : List Expr} {apos cpos : Pos}
theorem at_lst {K : PySem.W.Frag} {μ : List Addr} {D : Sto} {H : Hp} {j : Nat} {xs : List MV} {u : V} (r : R K B μ D H) (e : D[j]? = some (.lst xs)) (rv : RV K μ (.ref j) u) : ∃ a ys, u = .ref a ∧ μ[j]? = some a ∧ RVs K μ xs ys ∧ H a = some (.lst ys) := by
  obtain ⟨a, rfl, ha, ys, ry, hy⟩ := r.ref e rv
  exact ⟨a, ys, rfl, ha, ry, hy⟩
theorem set_lst {K : PySem.W.Frag} {μ : List Addr} {D : Sto} {H : Hp} {j : Nat} {xs zs : List MV} {ys : List V} {a : Addr} (r : R K B μ D H) (e : D[j]? = some (.lst xs)) (ha : μ[j]? = some a) (rz : RVs K μ zs ys) : R K B μ (D.set j (.lst zs)) (upd H a (.lst ys)) :=
  r.set e ha rfl rfl ⟨ys, rz, upd_same⟩
theorem dropLast_rel {α β : Type} {F : α → β → Prop} {xs : List α} {ys : List β} (h : Paired F xs ys) : Paired F xs.dropLast ys.dropLast := by
  rw [List.dropLast_eq_take, List.dropLast_eq_take, Pd.len h]
  exact Pd.take _ h
theorem me_pop (ho : PE X o (tM X.K B W mo)) (hbase : attributeBase o "pop" X.env (eval o X.env) = eval o X.env := by rfl) (hline : (apos.endLine == cpos.line) = true := by rfl) :
    PE X (.Call (.Attribute o "pop" apos) [] [] cpos) (tM X.K B W (eBm0 mPop mo)) :=
  PE.imp (pe_bm0 F.plainAttrs_list F.slot_list_pop F.type_list_pop mt_pop ho hbase hline) fun σ H Q h => by
    obtain ⟨μ, ρ, D, h1, h2, q⟩ := h
    refine ⟨μ, ρ, D, h1, h2, Post.bind q fun μ1 D1 x x' H1 l1 r1 v1 q1 => ?_⟩
    unfold mPop at q1
    split at q1
    · rename_i j
      split at q1
      · rename_i xs e1
        split at q1
        · rename_i y e2
          obtain ⟨a, ys, rfl, ha, ry, hy⟩ := at_lst r1 e1 v1
          obtain ⟨z, hz, rz⟩ := Pd.get ry e2
          refine ⟨.inl ⟨rfl, ys, SqL.of hy⟩, a, ys, z, rfl, rfl, hy, by rw [← Pd.len ry]; exact hz, ?_⟩
          exact Ok.go q1 (set_lst r1 e1 ha (dropLast_rel ry)) rz
        · exact q1.elim
      · exact q1.elim
    · exact q1.elim
theorem me_bmL {m : Str} {id : String} {r : V → List V → Hp → VK → Prop} {p : MV → List MV → Sto → Re MV} (slot : Slot "list" m id) (hty : typeOf (.builtin id) = pure (.type "method_descriptor")) (hm : MtR X id r)
    (hp : ∀ (μ : List Addr) (D : Sto) (H : Hp) (x : MV) (vs : List MV) (u : V) (ws : List V) (Wh : WH) (Q : VK), R X.K B μ D H → RV X.K μ x u → RVs X.K μ vs ws → Post X.K B (RV X.K) Wh μ (p x vs D) Q → r u ws H Q)
    (ho : PE X o (tM X.K B W mo)) (ha : PA X (e :: es) (tMA X.K B W am)) (hbase : attributeBase o m X.env (eval o X.env) = eval o X.env := by rfl)
    (hfew : ((backTo cpos (starEach (e :: es) X.env)).all (fun x => !x.1) && (backToKw cpos (keywordEach [] X.env)).all (fun x => x.1.isSome)
      && decide ((e :: es).length + ([] : List Keyword).length + (if ([] : List Keyword).isEmpty then 0 else 1) < 30)) = true := by rfl)
    (hline : (apos.endLine == cpos.line) = true := by rfl) (hs : starEach (e :: es) X.env = (false, eval e X.env) :: starEach es X.env := by rfl) (hplain : (backTo cpos (starEach es X.env)).any (·.1) = false := by rfl) :
    PE X (.Call (.Attribute o m apos) (e :: es) [] cpos) (tM X.K B W (eBm p mo am)) :=
  PE.imp (pe_bm F.plainAttrs_list slot hty hm ho ha hbase hfew hline hs hplain) fun σ H Q h => by
    obtain ⟨μ, ρ, D, h1, h2, q⟩ := h
    refine ⟨μ, ρ, D, h1, h2, Post.bind q fun μ1 D1 x x' H1 l1 r1 v1 q1 => ?_⟩
    by_cases c : eBm.tyM D1 x = true
    · rw [if_pos c] at q1
      refine ⟨?_, μ1, ρ, D1, h1.mono l1, r1, Post.bind q1 fun μ2 D2 y y' H2 l2 r2 v2 q2 => hp μ2 D2 H2 x y x' y' _ Q r2 (v1.mono l2) v2 q2⟩
      unfold eBm.tyM at c
      split at c
      · rename_i j
        split at c
        · rename_i xs e1
          obtain ⟨a, ys, rfl, ha, ry, hy⟩ := at_lst r1 e1 v1
          exact .inl ⟨rfl, ys, SqL.of hy⟩
        · cases c
      · cases c
    · rw [if_neg c] at q1
      exact q1.elim
theorem me_append (ho : PE X o (tM X.K B W mo)) (ha : PA X [e] (tMA X.K B W am)) (hbase : attributeBase o "append" X.env (eval o X.env) = eval o X.env := by rfl)
    (hfew : ((backTo cpos (starEach [e] X.env)).all (fun x => !x.1) && (backToKw cpos (keywordEach [] X.env)).all (fun x => x.1.isSome)
      && decide (([e] : List Expr).length + ([] : List Keyword).length + (if ([] : List Keyword).isEmpty then 0 else 1) < 30)) = true := by rfl)
    (hline : (apos.endLine == cpos.line) = true := by rfl) (hs : starEach [e] X.env = (false, eval e X.env) :: starEach [] X.env := by rfl) (hplain : (backTo cpos (starEach [] X.env)).any (·.1) = false := by rfl) :
    PE X (.Call (.Attribute o "append" apos) [e] [] cpos) (tM X.K B W (eBm mAppend mo am)) :=
  me_bmL F.slot_list_append F.type_list_append mt_append (fun μ D H x vs u ws Wh Q r rx rvs p => by
    unfold mAppend at p
    split at p
    · rename_i j y
      split at p
      · rename_i xs e1
        obtain ⟨a, ys, rfl, ha, ry, hy⟩ := at_lst r e1 rx
        obtain ⟨z, rfl, rz⟩ := rvs1 rfl rvs
        by_cases c : xs.length < sizeLine
        · rw [if_pos c] at p
          exact ⟨a, ys, z, rfl, rfl, hy, by rw [← Pd.len ry]; exact c, Ok.go p (set_lst r e1 ha (Pd.append ry (.cons rz .nil))) rfl⟩
        · rw [if_neg c] at p
          exact p.elim
      · exact p.elim
    · exact p.elim) ho ha hbase hfew hline hs hplain
theorem me_popAt (ho : PE X o (tM X.K B W mo)) (ha : PA X [e] (tMA X.K B W am)) (hbase : attributeBase o "pop" X.env (eval o X.env) = eval o X.env := by rfl)
    (hfew : ((backTo cpos (starEach [e] X.env)).all (fun x => !x.1) && (backToKw cpos (keywordEach [] X.env)).all (fun x => x.1.isSome)
      && decide (([e] : List Expr).length + ([] : List Keyword).length + (if ([] : List Keyword).isEmpty then 0 else 1) < 30)) = true := by rfl)
    (hline : (apos.endLine == cpos.line) = true := by rfl) (hs : starEach [e] X.env = (false, eval e X.env) :: starEach [] X.env := by rfl) (hplain : (backTo cpos (starEach [] X.env)).any (·.1) = false := by rfl) :
    PE X (.Call (.Attribute o "pop" apos) [e] [] cpos) (tM X.K B W (eBm mPopAt mo am)) :=
  me_bmL F.slot_list_pop F.type_list_pop mt_popAt (fun μ D H x vs u ws Wh Q r rx rvs p => by
    unfold mPopAt at p
    split at p
    · rename_i j i
      split at p
      · rename_i xs e1
        obtain ⟨a, ys, rfl, ha, ry, hy⟩ := at_lst r e1 rx
        obtain ⟨z, rfl, rz⟩ := rvs1 rfl rvs
        obtain rfl : z = .int i := rz
        by_cases c : -(2 ^ 63) ≤ i ∧ i < 2 ^ 63
        · rw [if_pos c] at p
          split at p
          · rename_i k e2
            split at p
            · rename_i y e3
              obtain ⟨w, hw, rw'⟩ := Pd.get ry e3
              exact ⟨a, ys, i, k, w, rfl, rfl, hy, c.1, c.2, by rw [← Pd.len ry]; exact e2, hw, Ok.go p (set_lst r e1 ha (Pd.eraseIdx k ry)) rw'⟩
            · exact p.elim
          · exact p.elim
        · rw [if_neg c] at p
          exact p.elim
      · exact p.elim
    · exact p.elim) ho ha hbase hfew hline hs hplain
end

/-! ### xs[::-1] of lists -/
section
variable {X : Cx} {B : List (Str × Nat)} {W : WX'} {ma : EM} {e : Expr} {k : Nat} {p1 p2 p3 pos : Pos}
theorem me_revL (he : PE X e (tM X.K B W ma)) : PE X (.Subscript e (.Slice none none (some (.UnaryOp .USub (.Constant (.int 1) k p1) p2)) p3) pos) (tM X.K B W (eUn pRev ma)) :=
  PE.imp (pe_revL he) fun σ H Q h => by
    obtain ⟨μ, ρ, D, h1, h2, q⟩ := h
    refine ⟨μ, ρ, D, h1, h2, Post.bind q fun μ1 D1 x x' H1 l1 r1 v1 q1 => ?_⟩
    unfold pRev at q1
    split at q1
    · rename_i j
      split at q1
      · rename_i xs e1
        obtain ⟨a, ys, rfl, ry, hs⟩ := rdL_ok r1 e1 v1
        exact ⟨a, ys, rfl, hs, fun p hp => new_lst r1 q1 hp (Pd.reverse ry)⟩
      · exact q1.elim
    · exact q1.elim
end

/-! ### dicts that are written -/
def eDNewK : EM := fun _ D => new (.dic []) D
def eDNewT : EM := fun _ D => new (.dit []) D
def prsM : List (EM × EM) → Rho → Sto → Re (List (MV × MV))
  | [], _, D => .ok [] D
  | p :: r, ρ, D => (p.1 ρ D).bind fun x D1 => (p.2 ρ D1).bind fun y D2 => (prsM r ρ D2).bind fun ps D3 => .ok ((x, y) :: ps) D3
def keysM : List (MV × MV) → Option (List (Key × MV))
  | [] => some []
  | p :: r => (keyOf p.1).bind fun k => (keysM r).map ((k, p.2) :: ·)
def eDisp (ms : List (EM × EM)) : EM := fun ρ D => (prsM ms ρ (D ++ [.dic []])).bind fun ps D1 => match D1[D.length]? with
  | some (.dic []) => match keysM ps with
    | some kvs => if kvs.length ≤ 15 then .ok (.ref D.length) (D1.set D.length (.dic (kvs.foldl (fun acc kv => putM acc kv.1 kv.2) []))) else .err
    | none => .err
  | _ => .err
section
variable {X : Cx} {B : List (Str × Nat)} {W : WX'} {pos : Pos}
theorem me_dnewK : PE X (.Dict [] [] pos) (tM X.K B W eDNewK) := PE.imp pe_dnewK fun σ H Q h => by
  obtain ⟨μ, ρ, D, h1, h2, q⟩ := h
  exact fun p hp => new_ok h2 q hp rfl ⟨[], .nil, upd_same⟩
theorem me_dnewT : PE X (.Dict [] [] pos) (tM X.K B W eDNewT) := PE.imp pe_dnewT fun σ H Q h => by
  obtain ⟨μ, ρ, D, h1, h2, q⟩ := h
  exact fun p hp => new_ok h2 q hp rfl ⟨[], .nil, upd_same⟩
def trsM (K : PySem.W.Frag) (B : List (Str × Nat)) (W : WX') (ms : List (EM × EM)) : List (TE × TE) := ms.map fun p => (tM K B W p.1, tM K B W p.2)
theorem mpp_nil : PPs X pos [] [] (trsM X.K B W []) := pps_nil
theorem mpp_cons {k v : Expr} {ks : List (Option Expr)} {vs : List Expr} {mk mv : EM} {ms : List (EM × EM)} (hk : PE X k (tM X.K B W mk)) (hv : PE X v (tM X.K B W mv)) (hr : PPs X pos ks vs (trsM X.K B W ms)) :
    PPs X pos (some k :: ks) (v :: vs) (trsM X.K B W ((mk, mv) :: ms)) := pps_cons hk hv hr
theorem prs_go {K : PySem.W.Frag} {σ : L2.St} {ρ : Rho} : ∀ (ms : List (EM × EM)) {μ : List Addr} {D : Sto} {H : Hp} {Q : List (V × V) → Hp → Prop}, Rs K μ ρ σ → R K B μ D H →
    Post K B (fun μ' => Paired fun p q => RV K μ' p.1 q.1 ∧ RV K μ' p.2 q.2) (fun c d H' => W c d σ H') μ (prsM ms ρ D) Q → tPairs (trsM K B W ms) σ H Q
  | [], μ, D, H, Q, hs, hr, q => Ok.go q hr Paired.nil
  | p :: r, μ, D, H, Q, hs, hr, q => by
    show tM K B W p.1 σ H _
    refine ⟨μ, ρ, D, hs, hr, Post.bind q fun μ1 D1 x x' H1 l1 r1 v1 q1 => ?_⟩
    show tM K B W p.2 σ H1 _
    refine ⟨μ1, ρ, D1, hs.mono l1, r1, Post.bind q1 fun μ2 D2 y y' H2 l2 r2 v2 q2 => ?_⟩
    refine prs_go r (hs.mono (l1.trans l2)) r2 (Post.bind q2 fun μ3 D3 ps ps' H3 l3 r3 v3 q3 => ?_)
    exact Ok.go q3 r3 (.cons ⟨v1.mono (l2.trans l3), v2.mono l3⟩ v3)
theorem keysM_ok {K : PySem.W.Frag} {μ : List Addr} : ∀ {ps : List (MV × MV)} {qs : List (V × V)} {kvs : List (Key × MV)}, keysM ps = some kvs → Paired (fun p q => RV K μ p.1 q.1 ∧ RV K μ p.2 q.2) ps qs →
    ∃ ls : List (Key × V), qs = ls.map (fun kv => (kV kv.1, kv.2)) ∧ RKs K μ kvs ls
  | [], _, kvs, h, .nil => by cases h; exact ⟨[], rfl, .nil⟩
  | p :: ps, q :: qs, kvs, h, .cons r t => by
    unfold keysM at h
    obtain ⟨k, e1, h2⟩ := Option.bind_eq_some_iff.mp h
    obtain ⟨rest, e2, rfl⟩ := Option.map_eq_some_iff.mp h2
    obtain ⟨ls, rfl, rl⟩ := keysM_ok e2 t
    have e3 := keyOf_ok e1 r.1
    obtain ⟨q1, q2⟩ := q
    have e4 : q1 = kV k := e3
    subst e4
    exact ⟨(k, q2) :: ls, rfl, .cons ⟨rfl, r.2⟩ rl⟩
theorem merge_rel {K : PySem.W.Frag} {μ : List Addr} : ∀ {kvs : List (Key × MV)} {ls : List (Key × V)} {acc : List (Key × MV)} {bcc : List (Key × V)}, RKs K μ kvs ls → RKs K μ acc bcc →
    RKs K μ (kvs.foldl (fun acc kv => putM acc kv.1 kv.2) acc) (mergeK bcc ls)
  | _, _, _, _, .nil, h => h
  | p :: kvs, q :: ls, acc, bcc, .cons r t, h => by
    obtain ⟨e, rv⟩ := r
    show RKs K μ (kvs.foldl _ (putM acc p.1 p.2)) (mergeK (putK bcc q.1 q.2) ls)
    rw [← e]
    exact merge_rel t (putM_ok rv h)
theorem me_disp {keys : List (Option Expr)} {values : List Expr} {ms : List (EM × EM)} (h : PPs X pos keys values (trsM X.K B W ms)) (hall : keys.all (·.isSome) = true := by rfl) (hl : keys.length = values.length := by rfl) (h0 : keys ≠ [] := by intro z; cases z)
    (h15 : keys.length ≤ 15 := by decide) : PE X (.Dict keys values pos) (tM X.K B W (eDisp ms)) := PE.imp (pe_disp h hall hl h0 h15) fun σ H Q hh => by
  obtain ⟨μ, ρ, D, hs, hr, q⟩ := hh
  intro L hL
  have rL : R X.K B (μ ++ [L]) (D ++ [.dic []]) (upd H L (.dK [])) := hr.new hL rfl ⟨[], .nil, upd_same⟩
  have hLi : (μ ++ [L])[D.length]? = some L := by rw [← hr.len]; simp
  refine prs_go ms (hs.mono (Pre.snoc μ L)) rL (Post.bind (Post.mono (Pre.snoc μ L) q) fun μ1 D1 ps ps' H1 l1 r1 v1 q1 => ?_)
  split at q1
  · rename_i e1
    split at q1
    · rename_i kvs e2
      by_cases c : kvs.length ≤ 15
      · rw [if_pos c] at q1
        obtain ⟨ls, rfl, rl⟩ := keysM_ok e2 v1
        obtain ⟨ls0, rl0, hl0⟩ := r1.ob _ _ _ (l1.get hLi) e1
        cases rl0
        exact ⟨hl0, ls, rfl, by rw [← Pd.len rl]; exact c, Ok.go q1 (r1.set e1 (l1.get hLi) rfl rfl ⟨_, merge_rel rl .nil, upd_same⟩) ⟨L, l1.get hLi, rfl⟩⟩
      · rw [if_neg c] at q1
        exact q1.elim
    · exact q1.elim
  · exact q1.elim
end
end Mp

set_option Elab.async false
set_option linter.all false
set_option maxRecDepth 100000
namespace Mp
open PySem L2 PySem.Spec PyProof.Rows

section
variable {M : Model} {prog : Program} {w : World} {A : Around} {E : Value → Shared → Prop} {s : Shared} {K : PySem.W.Frag} {x y C f L : Addr} {ox oy : Obj} {od od' : Option Obj} {h₀ : Heap} {m : Str → Option Value}
theorem ifBound_ne {args : List Value} {Q : Option Value → Shared → Prop} (X : K.In s.heap) (I : PySem.W.InstAt s.heap x ox C od) (hs : PySem.W.findIn K (.ref C) "__ne__" = some (some (.builtin "object.__ne__")))
    (h : wpAny M A (call (.builtin "object.__ne__") (.ref x :: args)) (fun v => Q (some v)) E s) : wpAny M A (callSpecialIfBound? (.ref x) "__ne__" args) Q E s := by
  simp only [callSpecialIfBound?, bindSpecialIfBound?]
  refine wpAny_holding (wpAny_bind (wpAny_bind (wpAny_bind (I.type.here ((PySem.W.looks_findIn X hs).here ?_)))))
  refine wpAny_bind (wpAny_askSetting (wpAny_ite ?_))
  have fin : wpAny M A (call (.builtin "object.__ne__") ([.ref x] ++ args) >>= fun v => pure (some v)) Q E s := wpAny_bind (wpAny_mono h (fun v s' h' => wpAny_pure h') fun _ _ h' => h')
  split
  · exact wpAny_bind (wpAny_of_eq (F.cmp_object.ne.bind _) (wpAny_pure (by exact fin)))
  · exact wpAny_tryCatch (wpAny_bind (wpAny_of_eq (F.cmp_object.ne.bind _) (wpAny_pure (by exact fin))))
theorem entry_ne (X : K.In s.heap) (I : PySem.W.InstAt s.heap x ox C od) (hs : PySem.W.findIn K (.ref C) "__eq__" = some (some (.ref f))) (hf : PySem.W.isFn K (.ref f) = true) (hu : A.units < cLine) {Q : Fin → Shared → Prop}
    (hcall : wpAny (model prog w) A (call (.ref f) [.ref x, .ref y]) (fun v s' => ∃ b, v = .bool b ∧ Q (.done (.ret (.bool (!b)))) s') E s) : wpAny (model prog w) A (Builtin.«object.__ne__» ⟨[.ref x, .ref y], []⟩) Q E s := by
  unfold Builtin.«object.__ne__»
  repeat (first
    | with_reducible refine wpAny_cRoomFor hu ?_
    | (refine wpAny_bind (m := callSpecialIfBound? (.ref x) (Str.ofString "__eq__") [.ref y])
        (PySem.W.ifBound_K X I hs hf (wpAny_mono hcall (fun r s' hr => by
          obtain ⟨b, rfl, hq⟩ := hr
          repeat (first | exact hq | exact wpAny_pure hq | exact wpAny_truthy_bool hq | (refine wpAny_bind (m := truthy (.bool _)) (wpAny_truthy_bool ?_)) | wp_step)) fun _ _ e => e)))
    | wp_step)
theorem call_ne {Q : Value → Shared → Prop} (X : K.In s.heap) (I : PySem.W.InstAt s.heap x ox C od) (hm : PySem.W.mroIn K C (.type "object") = some true) (hs : PySem.W.findIn K (.ref C) "__eq__" = some (some (.ref f))) (hf : PySem.W.isFn K (.ref f) = true) (hu : A.units + 1 < cLine)
    (hcall : wpAny (model prog w) A.in1 (call (.ref f) [.ref x, .ref y]) (fun v s' => ∃ b, v = .bool b ∧ Q (.bool (!b)) s') E s) : wpAny (model prog w) A (call (.builtin "object.__ne__") [.ref x, .ref y]) Q E s :=
  wpAny_call (codeAny_call_builtin F.cmp_object.ne.plain F.cmpEntry_ne (PySem.W.check_slot F.cmpKind_ne F.cmpSplit_ne (I.type.andThen (PySem.W.looks_mroIn X hm)) (F.cmpArgs_ne _ _) (entry_ne (A := A.in1) X I hs hf hu hcall)))
theorem rich_ne {Q : Value → Shared → Prop} (X : K.In s.heap) (I : PySem.W.InstAt s.heap x ox C od) (J : PySem.W.InstAt s.heap y oy C od') (hm : PySem.W.mroIn K C (.type "object") = some true) (hn : PySem.W.findIn K (.ref C) "__ne__" = some (some (.builtin "object.__ne__")))
    (hs : PySem.W.findIn K (.ref C) "__eq__" = some (some (.ref f))) (hf : PySem.W.isFn K (.ref f) = true) (hu : A.units + 1 < cLine)
    (hcall : wpAny (model prog w) A.in1 (call (.ref f) [.ref x, .ref y]) (fun v s' => ∃ b, v = .bool b ∧ Q (.bool (!b)) s') E s) : wpAny (model prog w) A (richCompare .NotEq (.ref x) (.ref y)) Q E s := by
  have one : wpAny (model prog w) A (tryCompare (.ref x) "__ne__" (.ref y)) (fun r s' => ∃ v, r = some v ∧ Q v s') E s := by
    unfold tryCompare
    refine wpAny_bind (ifBound_ne X I hn (wpAny_mono (call_ne X I hm hs hf hu (Q := fun v s' => ∃ b, v = .bool b ∧ Q v s') (wpAny_mono hcall (fun v s' ⟨b, e, q⟩ => ⟨b, e, _, rfl, q⟩) fun _ _ e => e)) (fun v s' hv => ?_) fun _ _ e => e))
    obtain ⟨b, rfl, hq⟩ := hv
    exact wpAny_pure ⟨_, rfl, hq⟩
  unfold richCompare
  simp only [oneThing_ref]
  refine wpAny_holding (wpAny_bind (wpAny_cRoomFor (Nat.lt_of_succ_lt hu) ?_))
  rw [cmpInfo_NotEq]
  dsimp only
  refine wpAny_bind (I.type.here (wpAny_bind (J.type.here ?_)))
  rw [show (Value.ref C != Value.ref C) = false from by simp]
  simp only [Bool.false_eq_true, if_false]
  refine wpAny_bind (wpAny_pure ?_)
  simp only [Bool.false_eq_true, if_false]
  refine wpAny_bind (wpAny_mono one (fun r s' z => ?_) fun _ _ e => e)
  obtain ⟨v, rfl, hq⟩ := z
  exact wpAny_pure hq
end

/-! ### own ==, != as rules -/
def noX (r : Re MV) (g : Bool → MV) : Re MV := match r with
  | .ok (.bl c) D => .ok (g c) D
  | _ => .err
def pEqO (C : Str) (m : List MV → Sto → Re MV) (g : Bool → MV) (x y : MV) (D : Sto) : Re MV := match insAt D C x, insAt D C y with
  | some _, some _ => noX (m [x, y] D) g
  | _, _ => .err
def rEqO (K : PySem.W.Frag) (C : Str) (sp : Sp) (g : Bool → V) : R2 := fun x y H Q => ∃ a b dx dy fs gs, x = .ref a ∧ y = .ref b ∧ H a = some (.ins (He.ga K C) dx fs) ∧ H b = some (.ins (He.ga K C) dy gs) ∧ sp [x, y] H (fun v H' => ∃ c, v = .bl c ∧ Q (g c) H') fun _ _ _ => False
theorem p2_own {K : PySem.W.Frag} {B : List (Str × Nat)} {C : Str} {m : List MV → Sto → Re MV} {g : Bool → MV} {gv : Bool → V} (hg : ∀ μ c, RV K μ (g c) (gv c)) : P2 K B (rEqO K C (spM K B 2 m) gv) (pEqO C m g) := fun μ D H x y x' y' W Q r rx ry p => by
  unfold pEqO at p
  cases e1 : insAt D C x with
  | none => rw [e1] at p; exact p.elim
  | some p1 =>
    cases e2 : insAt D C y with
    | none => rw [e1, e2] at p; exact p.elim
    | some p2 =>
      rw [e1, e2] at p
      dsimp only at p
      obtain ⟨a, dx, fs, rfl, _, _, _, _, ha⟩ := insAt_ok (i := p1.1) (fs := p1.2) r rx e1
      obtain ⟨b, dy, gs, rfl, _, _, _, _, hb⟩ := insAt_ok (i := p2.1) (fs := p2.2) r ry e2
      refine ⟨a, b, dx, dy, fs, gs, rfl, rfl, ha, hb, rfl, μ, [x, y], D, .cons rx (.cons ry .nil), r, ?_⟩
      cases e3 : m [x, y] D with
      | ok v D1 =>
        rw [e3] at p
        cases v with
        | bl c =>
          intro μ1 H1 u l1 r1 v1
          exact ⟨c, v1, Ok.go (Post.mono l1 p) r1 (hg μ1 c)⟩
        | _ => exact p.elim
      | exc c fs D1 => rw [e3] at p; exact p.elim
      | err => rw [e3] at p; exact p.elim
structure EqC (K : PySem.W.Frag) (C f : Addr) : Prop where
  hm : PySem.W.mroIn K C (.type "object") = some true
  ne : PySem.W.findIn K (.ref C) "__ne__" = some (some (.builtin "object.__ne__"))
  eq : PySem.W.findIn K (.ref C) "__eq__" = some (some (.ref f))
  fn : PySem.W.isFn K (.ref f) = true
section
variable {X : Cx} {B : List (Str × Nat)} {C : Str} {f : Addr} {fd : FuncData} {ps : List Str} {sp : Sp} {k : Nat}
theorem own_call {A : Around} (hA : A.frames = X.A.frames) (gu : A.guards = some []) (room : Room k A) (F : FnG X.prog X.w X.K X.mg X.base k f fd ps sp) (hb : Binds X.K fd ps []) {pins : List (Addr × Obj)} {σ : L2.St} {H : Hp} {s : Shared} {a b : Addr} {Q : VK} (I : Inv X pins σ H s)
    (q : sp [.ref a, .ref b] H Q fun _ _ _ => False) : wpAny (model X.prog X.w) A (call (.ref f) [.ref a, .ref b]) (EP X pins σ Q) X.xe s := by
  have hl := F.size _ _ _ _ q
  have r2 : Vals [V.ref a, V.ref b] [Value.ref a, Value.ref b] := .cons rfl (.cons rfl .nil)
  have e0 : Env0 X.prog X.w X.K X.mg X.base A X.stack s H := by
    have e := I.env0
    exact ⟨by rw [hA]; exact e.frames, e.mod, e.bs, e.bsz, e.funs, e.frf, e.hok, e.bare⟩
  refine wpAny_call (codeAny_mono (F.goes A X.stack s H ⟨[.ref a, .ref b], []⟩ [.ref a, .ref b] [.ref a, .ref b] Q _ gu room e0 (by
    have := hb s [.ref a, .ref b] I.kIn (by simpa using hl)
    simpa using this) r2 q) fun r s' z => ?_)
  match r, z with
  | .error er, z => exact passAt (W := fun _ _ _ _ => False) takes0 σ pins H s er s' I z
  | .ok (.ret u), z => exact I.after z
theorem in1_guards (A : Around) : A.in1.guards = A.guards := by
  first | rfl | (unfold Around.in1; rfl) | simp [Around.in1]
theorem op_eqO (gu : X.A.guards = some []) (room : Room k X.A) (E : EqC X.K (He.ga X.K C) f) (F : FnG X.prog X.w X.K X.mg X.base k f fd ps sp) (hb : Binds X.K fd ps []) : OpR X (compareOp .Eq) (rEqO X.K C sp .bl) := by
  intro pins s σ H x y v u Q I rx ry h
  obtain ⟨a, b, dx, dy, fs, gs, rfl, rfl, ha, hb', q⟩ := h
  cases rx
  cases ry
  obtain ⟨mA, J, _⟩ := ins_get I.hok ha
  obtain ⟨mB, J', _⟩ := ins_get I.hok hb'
  obtain ⟨od, J, _⟩ := J.look
  obtain ⟨od', J', _⟩ := J'.look
  obtain ⟨m, hF⟩ := I.fr
  show wpAny (model X.prog X.w) X.A (richCompare .Eq (.ref a) (.ref b)) _ _ s
  refine PySem.W.cmp_K (op := .Eq) (tb := .ref (He.ga X.K C)) room.units0 hF I.ok.mod.kin J J'.type (by simp [PySem.W.notFirst]) E.eq E.fn ?_
  refine wpAny_mono (own_call rfl gu room F hb I q) (fun r s' z => ?_) fun _ _ e => e
  obtain ⟨v, H', I', rz, c, rfl, q2⟩ := z
  cases rz
  exact ⟨.bl c, H', I', rfl, q2⟩
theorem op_neO (gu : X.A.guards = some []) (room : Room (k + 1) X.A) (E : EqC X.K (He.ga X.K C) f) (F : FnG X.prog X.w X.K X.mg X.base k f fd ps sp) (hb : Binds X.K fd ps []) : OpR X (compareOp .NotEq) (rEqO X.K C sp fun c => .bl (!c)) := by
  intro pins s σ H x y v u Q I rx ry h
  obtain ⟨a, b, dx, dy, fs, gs, rfl, rfl, ha, hb', q⟩ := h
  cases rx
  cases ry
  obtain ⟨mA, J, _⟩ := ins_get I.hok ha
  obtain ⟨mB, J', _⟩ := ins_get I.hok hb'
  obtain ⟨od, J, _⟩ := J.look
  obtain ⟨od', J', _⟩ := J'.look
  show wpAny (model X.prog X.w) X.A (richCompare .NotEq (.ref a) (.ref b)) _ _ s
  refine rich_ne I.kIn J J' E.hm E.ne E.eq E.fn (by have := room.un; omega) ?_
  refine wpAny_mono (own_call (A := X.A.in1) rfl ((in1_guards _).trans gu) room.in1 F hb I q) (fun r s' z => ?_) fun _ _ e => e
  obtain ⟨v, H', I', rz, c, rfl, q2⟩ := z
  cases rz
  exact ⟨c, rfl, .bl (!c), H', I', rfl, q2⟩
end
end Mp

set_option Elab.async false
set_option linter.all false
set_option maxRecDepth 100000
namespace Mp
open PySem L2 PySem.Spec PyProof.Rows

/-! ### the law's call, from what its function over the store answers -/
theorem R.snoc {K : PySem.W.Frag} {B : List (Str × Nat)} {μ : List Addr} {D : Sto} {H : Hp} {a : Addr} {o : Ob} (r : R K B μ D H) (hD : ∀ u ∈ D, u.isK = true) (h : RO K (μ ++ [a]) H a o) : R K B (μ ++ [a]) (D ++ [o]) H := by
  have hl := r.len
  have sp : ∀ (j : Nat) (b : Addr) (u : Ob), (μ ++ [a])[j]? = some b → (D ++ [o])[j]? = some u → (μ[j]? = some b ∧ D[j]? = some u) ∨ (j = D.length ∧ b = a ∧ u = o) := fun j b u hb hd => by
    by_cases hj : j < D.length
    · rw [List.getElem?_append_left (by omega)] at hb
      rw [List.getElem?_append_left hj] at hd
      exact .inl ⟨hb, hd⟩
    · rw [List.getElem?_append_right (by omega)] at hb hd
      have e : j - D.length = 0 := by
        have := (List.getElem?_eq_some_iff.mp hd).1
        simp at this
        omega
      rw [hl, e] at hb
      rw [e] at hd
      simp at hb hd
      exact .inr ⟨by omega, hb.symm, hd.symm⟩
  have inD : ∀ (j : Nat) (u : Ob), D[j]? = some u → u.isK = true := fun j u hd => hD u (List.mem_of_getElem? hd)
  refine ⟨by simp [hl], fun i j b u v h1 h2 h3 h4 k1 k2 => ?_, fun i b u hb hd => ?_, fun q hq => (Pre.snoc μ a).get (r.gl q hq)⟩
  · rcases sp i b u h1 h3 with ⟨_, g⟩ | ⟨g, _, _⟩
    · rw [inD i u g] at k1; cases k1
    · rcases sp j b v h2 h4 with ⟨_, g'⟩ | ⟨g', _, _⟩
      · rw [inD j v g'] at k2; cases k2
      · omega
  · rcases sp i b u hb hd with ⟨g1, g2⟩ | ⟨g1, g2, g3⟩
    · exact RO.kmono (Pre.snoc μ a) (inD i u g2) (r.ob i b u g1 g2)
    · subst g2 g3
      exact h
/-- the objects of the module that the store begins with -/
def Begins (K : PySem.W.Frag) (B : List (Str × Nat)) (D : Sto) : Prop := (∀ u ∈ D, u.isK = true) ∧ ∃ μ, ∀ H, R K B μ D H
theorem begins_nil {K : PySem.W.Frag} : Begins K [] [] := by
  refine ⟨fun u h => (by cases h), [], fun H => ⟨rfl, fun i j a o u h => ?_, fun i a o h => ?_, fun p h => (by cases h)⟩⟩
  · simp at h
  · simp at h
section
variable {P : Program} {w : World} {K : PySem.W.Frag} {mg mb : Str → Option Value} {k : Nat} {g a : Addr} {fd : FuncData} {x : Str} {B : List (Str × Nat)} {D : Sto} {m : List MV → Sto → Re MV}
theorem lawG {t : Shared} {us : List Value} {ns : List Int} (kin : K.In t.heap) (n1 : t.heap.Ns mainGlobals mg) (n2 : t.heap.Ns builtinsNs mb) (n3 : ∀ y : Str, y ≠ "__name__" → mb y = bootBuiltins y) (n4 : t.heap.NoLimit) (n5 : t.gens = #[])
    (sa : t.heap.get? a = some { cls := .type "list", data := .seq us.toArray }) (si : IntsAre us ns) (sz : ns.length ≤ sizeLine) (room : Room k callerA)
    (F : ∀ base : Heap, K.In base → base.Ns mainGlobals mg → FnG P w K mg base k g fd [x] (spM K B 1 m)) (bd : ∀ (s : Shared) (u : Value), BindsTo s fd ⟨[u], []⟩ [(x, u)]) (bg : Begins K B D)
    (hm : ∀ o, o = Ob.rol (ns.map MV.int) ∨ o = Ob.kls (ns.map MV.int) → ∃ D', m [.ref D.length] (D ++ [o]) = .ok (.bl true) D') :
    codeAny (model P w) callerA (.call (.ref g) ⟨[.ref a], []⟩) (fun r s' => r = .ok (.ret (.bool true)) ∧ OldK t.heap s'.heap ∧ s'.os = t.os ∧ AllBare s'.gens) t := by
  have rel := vals_ints si
  obtain ⟨allK, μ, rD⟩ := bg
  have rints : ∀ ν, RVs K ν (ns.map MV.int) (ns.map V.int) := fun ν => by
    clear hm si sz rel
    induction ns with
    | nil => exact .nil
    | cons n r ih => exact .cons rfl ih
  have go : ∀ (H : Hp) (o : Ob), (o = Ob.rol (ns.map MV.int) ∨ o = Ob.kls (ns.map MV.int)) → RO K (μ ++ [a]) H a o → Only H → HOk P w H t.heap → (∀ c, H c ≠ none → c = a) → (H a ≠ none → K.lookup a = none) →
      codeAny (model P w) callerA (.call (.ref g) ⟨[.ref a], []⟩) (fun r s' => r = .ok (.ret (.bool true)) ∧ OldK t.heap s'.heap ∧ s'.os = t.os ∧ AllBare s'.gens) t := by
    intro H o ho hro only hok one noK
    have seen : ∀ {c : Addr} {u : Obj}, t.heap.get? c = some u → H c = none → (hidT t.heap H).get? c = some u := fun e n => hidT_get e n
    have noD : ∀ {c : Addr} {u : Obj} {es : Array DictEntry} {ep : Nat}, t.heap.get? c = some u → u.data = .dict es ep → H c = none := fun {c u es ep} e d => by
      cases q : H c with
      | none => rfl
      | some v =>
        have ec : c = a := one c (by rw [q]; simp)
        rw [ec, sa] at e
        cases e
        cases (show Data.seq us.toArray _ = Data.dict es ep from d)
    have nsH : ∀ {c : Addr} {f : Str → Option Value}, t.heap.Ns c f → (hidT t.heap H).Ns c f := fun {c f} ⟨u, es, ep, e, d, r⟩ => ⟨u, es, ep, seen e (noD e d), d, r⟩
    have kinH : K.In (hidT t.heap H) := fun c u e => seen (kin c u e) (by
      cases q : H c with
      | none => rfl
      | some v =>
        have ec : c = a := one c (by rw [q]; simp)
        subst ec
        rw [noK (by rw [q]; simp)] at e
        cases e)
    have env : Env0 P w K mg (hidT t.heap H) callerA [] t H := ⟨rfl, ⟨kinH, nsH n1, ⟨mb, nsH n2, n3⟩, let ⟨mc, h1, h2⟩ := n4; ⟨mc, nsH h1, h2⟩⟩, fun c u e => of_hidT e, Nat.le_of_eq (hidT_size _ _), trivial, fun c hc => absurd (show c ∈ ([] : List Addr) from hc) (by simp), hok, .of_eq n5⟩
    obtain ⟨D', hD'⟩ := hm o ho
    have q : spM K B 1 m [.ref a] H (fun v _ => v = .bl true) fun _ _ _ => False := by
      refine ⟨rfl, μ ++ [a], [.ref D.length], D ++ [o], .cons ⟨a, ?_, rfl⟩ .nil, (rD H).snoc allK hro, ?_⟩
      · rw [← (rD H).len]
        simp
      · rw [hD']
        exact fun μ1 H1 u _ _ h => h
    refine codeAny_mono ((F _ kinH (nsH n1)).goes callerA [] t H ⟨[.ref a], []⟩ [.ref a] [.ref a] _ _ (by rfl) room env (bd t (.ref a)) (.cons rfl .nil) q) fun r s' h => ?_
    cases r with
    | error e =>
      obtain ⟨_, _, _, _, _, _, _, _, _, _, _, _, z⟩ := (show L2.CX P w [] H t (fun _ _ _ => False) e s' from h)
      exact z.elim
    | ok fl =>
      cases fl with
      | next => exact False.elim h
      | brk => exact False.elim h
      | cont => exact False.elim h
      | ret u =>
        obtain ⟨v, H', os, bare, un, hok', rv, ev⟩ := h
        obtain rfl : v = .bl true := ev
        obtain rfl : u = Value.bool true := rv
        refine ⟨rfl, OldK.of_keep fun c u e => ?_, os, bare⟩
        cases qc : H c with
        | none => exact un.keep c u e qc (fun z => absurd (show c ∈ ([] : List Addr) from z) (by simp)) (by simp)
        | some v =>
          rcases only c with z | ⟨ob, zs, z⟩
          · rw [qc] at z
            cases z
          · obtain ⟨e1, _⟩ := hok c _ z
            obtain ⟨e2, _⟩ := hok' c _ (un.frzs c ob _ z)
            rw [e] at e1
            cases e1
            exact e2
  cases hk : K.lookup a with
  | some o =>
    have e := kin a o hk
    rw [sa] at e
    cases e
    refine go (fun _ => none) _ (.inr rfl) ⟨ns.map V.int, rints _, fun H' => .inr ⟨_, us.toArray, _, hk, rfl, rfl, rfl, by rw [List.size_toArray, si.length]; exact sz, by simpa using rel⟩⟩ (fun _ => .inl rfl) (fun b u z => by cases (show (none : Option HO) = some u from z)) (fun b z => absurd rfl z) fun z => absurd rfl z
  | none =>
    refine go (fun b => if b = a then some (.frz { cls := .type "list", data := .seq us.toArray } (.lst (ns.map V.int))) else none) _ (.inl rfl) ⟨ns.map V.int, _, rints _, if_pos rfl⟩ (fun b => ?_) (fun b u z => ?_) (fun b z => ?_) fun _ => hk
    · by_cases q : b = a
      · exact .inr ⟨_, _, if_pos q⟩
      · exact .inl (if_neg q)
    · by_cases q : b = a
      · cases (if_pos q).symm.trans z
        subst q
        exact ⟨sa, by rw [List.length_map]; exact sz, us, _, rel, sa⟩
      · cases (if_neg q).symm.trans z
    · by_cases q : b = a
      · exact q
      · exact absurd (if_neg q) z
end
theorem walkG {l : PySem.W.OpenLaw} {n k : Nat} {q : Program} {loose : List Str} {XP : (Str → Option Value) → Heap → Prop} {YP : World → Heap → Prop} {d : DefRec} {x : Str} (m : List MV → Sto → Re MV)
    (hn : l.most = some n) (hn2 : n ≤ sizeLine) (hdf : d.params.defaults = []) (room : Room k callerA)
    (F : ∀ (w : World) (mg : Str → Option Value) (g : Addr) (h : Heap), YP w h → h.Ns mainGlobals mg → mg d.name = some (.ref g) →
      ∃ (K : PySem.W.Frag) (fd : FuncData) (B : List (Str × Nat)) (D : Sto), K.In h ∧ (∀ (s : Shared) (u : Value), BindsTo s fd ⟨[u], []⟩ [(x, u)]) ∧ Begins K B D ∧
        (∀ (ns : List Int), ns.length ≤ n → ∀ o, o = Ob.rol (ns.map MV.int) ∨ o = Ob.kls (ns.map MV.int) → ∃ D', m [.ref D.length] (D ++ [o]) = .ok (.bl true) D') ∧
        ∀ base : Heap, K.In base → base.Ns mainGlobals mg → FnG l.prog w K mg base k g fd [x] (spM K B 1 m)) :
    PySem.W.WalkO q loose XP YP l.row.toRowW d [] (fun f vs => PySem.call f vs) := by
  refine Att.attach_call hn hdf fun w s₀ s₁ mg mb fa o pm cd doc a vs ns G Y ho hd hcd hmg hobj hints hlen hg => ?_
  obtain ⟨K, fd, B, D, kin, hb, bg, hm, hF⟩ := F w mg fa _ Y G.T.g hmg
  exact lawG kin G.T.g G.T.b G.T.builtins G.T.nolimit hg hobj hints (Nat.le_trans hlen hn2) room hF hb bg (hm ns hlen)
end Mp

set_option Elab.async false
set_option linter.all false
set_option maxRecDepth 100000
namespace Mp
open PySem L2

/-! ### what every rule wants of the place where it is used -/
structure Ctx (X : Cx) (W : WX') (k : Nat) : Prop where
  gu : X.A.guards = some []
  room : Room k X.A
  tk : Takes X W
  nd : X.N.Nodup
  calm : X.calm = true
section
variable {X : Cx} {B : List (Str × Nat)} {W : WX'} {k j n : Nat}
theorem Ctx.u (c : Ctx X W k) : X.A.units + 101 < cLine := by have := c.room.un; omega
theorem Ctx.u1 (c : Ctx X W k) : X.A.units + 1 < cLine := by have := c.room.un; omega
theorem Ctx.u64 (c : Ctx X W k) : X.A.units + 64 < cLine := by have := c.room.un; omega
theorem Ctx.u65 (c : Ctx X W k) : X.A.units + 65 < cLine := by have := c.room.un; omega
theorem Ctx.blk (c : Ctx X W k) (s : Shared) (H : Hp) (scope : Scope) (cenv : Env) (fp : List Addr) : Ctx (X.blk s H scope cenv fp) W0 k := ⟨c.gu, c.room, takes0, c.nd, c.calm⟩
end

/-! ### defs -/
def runB (N : Nat) (b : SM) (vs : List MV) (D : Sto) : Re MV := match b (vs.map some ++ List.replicate (N - vs.length) none) D with
  | .nx _ D' => .ok .non D'
  | .rt v D' => .ok v D'
  | .ex c fs _ D' => .exc c fs D'
  | _ => .err
section
variable {P : Program} {w : World} {K : PySem.W.Frag} {mg : Str → Option Value} {base : Heap} {B : List (Str × Nat)} {k : Nat}
theorem rs_start {μ : List Addr} {as : List MV} {vs : List V} (h : RVs K μ as vs) (N : List Str) : Rs K μ (as.map some ++ List.replicate (N.length - as.length) none) (L2.start N vs) := by
  unfold L2.start
  rw [Pd.len h]
  refine Pd.append ?_ ?_
  · induction h with
    | nil => exact .nil
    | cons r t ih => exact .cons r ih
  · induction (N.length - vs.length) with
    | zero => exact .nil
    | succ m ih => exact .cons trivial ih
theorem fn_mk {x qual : Str} {params : Arguments} {body : List Stmt} {scope : Scope} {N ps : List Str} {f : Addr} {fd : FuncData} {b : SM} (F : FunD K x qual params body scope [] [] f fd) (S : FnScope N ps scope)
    (h : ∀ (cdv : Value) (A : Around) (outer : List Env) (s : Shared) (H : Hp) (E : XK), Ctx (cxOf (L2.CX P w) P w K mg base N qual scope f cdv A outer s H E) (fun c d _ H' => E c d H') k →
      PassesOwn (model P w) (cxOf (L2.CX P w) P w K mg base N qual scope f cdv A outer s H E).A (cxOf (L2.CX P w) P w K mg base N qual scope f cdv A outer s H E).env (cxOf (L2.CX P w) P w K mg base N qual scope f cdv A outer s H E).xe →
      PSs (cxOf (L2.CX P w) P w K mg base N qual scope f cdv A outer s H E) body (tMS K B (fun c d _ H' => E c d H') b)) : FnG P w K mg base (k + 1) f fd ps (spM K B ps.length (runB N.length b)) := by
  refine fnG_of F S (fun vs H Q E h => h.1) fun cdv A outer s H vs Q E gu room q => ?_
  refine ⟨_, h cdv A outer s H E ⟨gu, room, takes_of rfl rfl rfl rfl, S.nd, rfl⟩ (passes_of (X := cxOf (L2.CX P w) P w K mg base N qual scope f cdv A outer s H E) rfl), ?_⟩
  obtain ⟨_, μ, as, D, ra, r, post⟩ := q
  refine ⟨μ, _, D, rs_start ra N, r, ?_⟩
  unfold runB at post
  cases e : b (as.map some ++ List.replicate (N.length - as.length) none) D with
  | nx ρ D' => rw [e] at post; exact fun μ' H' σ' l r' _ => post μ' H' .non l r' rfl
  | rt v D' => rw [e] at post; exact post
  | bk ρ D' => rw [e] at post; exact post.elim
  | ct ρ D' => rw [e] at post; exact post.elim
  | ex c fs ρ D' => rw [e] at post; exact fun μ' H' σ' d l r' _ xf => post μ' H' d l r' xf
  | err => rw [e] at post; exact post.elim
/-- what is known of a def of the module, of a method, of a class that is made -/
structure Says (P : Program) (w : World) (K : PySem.W.Frag) (mg : Str → Option Value) (base : Heap) (B : List (Str × Nat)) (k : Nat) (x : Str) (n : Nat) (m : List MV → Sto → Re MV) : Prop where
  g : mg x = some (.ref (He.ga K x))
  kp : PySem.W.keepIn K (.ref (He.ga K x)) = true
  ex : ∃ fd ps, FnG P w K mg base k (He.ga K x) fd ps (spM K B n m) ∧ Binds K fd ps []
structure SaysM (P : Program) (w : World) (K : PySem.W.Frag) (mg : Str → Option Value) (base : Heap) (B : List (Str × Nat)) (k : Nat) (C nm : Str) (n : Nat) (m : List MV → Sto → Re MV) : Prop where
  cl : Cls K (He.ga K C)
  me : Meth K (He.ga K C) nm (He.ma K (He.ga K C) nm)
  ex : ∃ fd ps, FnG P w K mg base k (He.ma K (He.ga K C) nm) fd ps (spM K B (n + 1) m) ∧ Binds K fd ps []
structure SaysI (P : Program) (w : World) (K : PySem.W.Frag) (mg : Str → Option Value) (base : Heap) (B : List (Str × Nat)) (k : Nat) (C : Str) (n : Nat) (m : List MV → Sto → Re MV) : Prop where
  g : mg C = some (.ref (He.ga K C))
  mkr : Mk K (He.ga K C) (He.ma K (He.ga K C) "__init__")
  ex : ∃ fd ps, FnG P w K mg base k (He.ma K (He.ga K C) "__init__") fd ps (spM K B (n + 1) m) ∧ Binds K fd ps []
end
section
variable {X : Cx} {B : List (Str × Nat)} {W : WX'} {k j n : Nat} {ma mb : EM} {am : AM} {a b o e : Expr} {es : List Expr} {pos apos p : Pos} {x C nm : Str} {m : List MV → Sto → Re MV}
theorem x_call (c : Ctx X W k) (S : Says X.prog X.w X.K X.mg X.base B j x n m) (hj : j ≤ k) (hl : AmL am n) (hg : Gl X x) (ha : PA X (e :: es) (tMA X.K B W am)) (hdb : (x == ("__debug__" : Str)) = false := by decide)
    (he : starEach (e :: es) X.env = (false, eval e X.env) :: starEach es X.env := by rfl) (hpl : (backTo pos (starEach es X.env)).any (·.1) = false := by rfl) : PE X (.Call (.Name x p) (e :: es) [] pos) (tM X.K B W (eCall m am)) := by
  obtain ⟨fd, ps, F, hb⟩ := S.ex
  exact me_call c.gu c.tk F (c.room.mono hj) hg S.g S.kp hb hl ha hdb he hpl
theorem x_call0 (c : Ctx X W k) (S : Says X.prog X.w X.K X.mg X.base B j x 0 m) (hj : j ≤ k) (hg : Gl X x) (hdb : (x == ("__debug__" : Str)) = false := by decide) : PE X (.Call (.Name x p) [] [] pos) (tM X.K B W (eCall m aNil)) := by
  obtain ⟨fd, ps, F, hb⟩ := S.ex
  exact me_call0 c.gu c.tk F (c.room.mono hj) hg S.g S.kp hb hdb
theorem x_meth {pl : Sem Bool} (c : Ctx X W k) (S : SaysM X.prog X.w X.K X.mg X.base B j C nm n m) (hj : j ≤ k) (hl : AmL am n) (ho : PE X o (tM X.K B W ma)) (ha : PA X (e :: es) (tMA X.K B W am)) (hst : starEach (e :: es) X.env = (false, eval e X.env) :: starEach es X.env := by rfl) (hpl : (backTo pos (starEach es X.env)).any (·.1) = false := by rfl)
    (shape : eval (.Call (.Attribute o nm apos) (e :: es) [] pos) X.env = (do
      let ov ← eval o X.env
      standAt apos.atName
      let (g, first) ← holding [ov] (getMethod ov nm pl)
      callWith pos g first (backTo pos (starEach (e :: es) X.env)) (backToKw pos (keywordEach [] X.env))) := by rfl) :
    PE X (.Call (.Attribute o nm apos) (e :: es) [] pos) (tM X.K B W (eMeth C nm m ma am)) := by
  obtain ⟨fd, ps, F, hb⟩ := S.ex
  exact me_meth c.gu c.tk ho S.cl S.me F (c.room.mono hj) hb hl ha hst hpl shape
theorem x_meth0 {pl : Sem Bool} (c : Ctx X W k) (S : SaysM X.prog X.w X.K X.mg X.base B j C nm 0 m) (hj : j ≤ k) (ho : PE X o (tM X.K B W ma))
    (shape : eval (.Call (.Attribute o nm apos) [] [] pos) X.env = (do
      let ov ← eval o X.env
      standAt apos.atName
      let (g, first) ← holding [ov] (getMethod ov nm pl)
      callWith pos g first (backTo pos (starEach [] X.env)) (backToKw pos (keywordEach [] X.env))) := by rfl) :
    PE X (.Call (.Attribute o nm apos) [] [] pos) (tM X.K B W (eMeth C nm m ma aNil)) := by
  obtain ⟨fd, ps, F, hb⟩ := S.ex
  exact me_meth0 c.gu c.tk ho S.cl S.me F (c.room.mono hj) hb shape
theorem x_make (c : Ctx X W k) (S : SaysI X.prog X.w X.K X.mg X.base B j C n m) (hj : j + 1 ≤ k) (hl : AmL am n) (hg : Gl X C) (ha : PA X (e :: es) (tMA X.K B W am)) (hdb : (C == ("__debug__" : Str)) = false := by decide)
    (he : starEach (e :: es) X.env = (false, eval e X.env) :: starEach es X.env := by rfl) (hpl : (backTo pos (starEach es X.env)).any (·.1) = false := by rfl) : PE X (.Call (.Name C p) (e :: es) [] pos) (tM X.K B W (eMake C m am)) := by
  obtain ⟨fd, ps, F, hb⟩ := S.ex
  exact me_make c.gu c.tk S.mkr F (c.room.mono hj) hg S.g hb hl ha hdb he hpl
/-! operators -/
def pEqA (a b : MV) (D : Sto) : Re MV := match a, b with
  | .str x, .str y => .ok (.bl (decide (x = y))) D
  | a, b => pEq a b D
def pNeA (a b : MV) (D : Sto) : Re MV := match a, b with
  | .str x, .str y => .ok (.bl (!decide (x = y))) D
  | a, b => pNe a b D
theorem p2_eqA : P2 X.K B (fun x y H Q => rEqD X.K x y H Q ∨ rEq x y H Q) pEqA := fun μ D H a b x y W Q r ra rb p => by
  unfold pEqA at p
  split at p
  · rename_i s t
    obtain rfl : x = .str s := ra
    obtain rfl : y = .str t := rb
    refine .inr ⟨rfl, ?_⟩
    have e : decide (V.str s = V.str t) = decide (s = t) := by
      by_cases c : s = t
      · subst c; simp
      · rw [decide_eq_false c, decide_eq_false (fun z => c (V.str.inj z))]
    rw [e]
    exact Ok.go p r rfl
  · exact .inl (p2_eq μ D H _ _ x y W Q r ra rb p)
theorem p2_neA : P2 X.K B (fun x y H Q => rNeD X.K x y H Q ∨ rNe x y H Q) pNeA := fun μ D H a b x y W Q r ra rb p => by
  unfold pNeA at p
  split at p
  · rename_i s t
    obtain rfl : x = .str s := ra
    obtain rfl : y = .str t := rb
    refine .inr ⟨rfl, ?_⟩
    have e : decide (V.str s = V.str t) = decide (s = t) := by
      by_cases c : s = t
      · subst c; simp
      · rw [decide_eq_false c, decide_eq_false (fun z => c (V.str.inj z))]
    rw [e]
    exact Ok.go p r rfl
  · exact .inl (p2_ne μ D H _ _ x y W Q r ra rb p)
def pNeg (a : MV) (D : Sto) : Re MV := match a with
  | .int i => .ok (.int (-i)) D
  | _ => .err
theorem p1_neg : P1 X.K B (rU fun i => .int (-i)) pNeg := fun μ D H a x W Q r ra p => by
  cases a with
  | int i => exact ⟨i, ra, Ok.go p r rfl⟩
  | _ => exact p.elim
theorem x_neg (ha : PE X a (tM X.K B W ma)) : PE X (.UnaryOp .USub a pos) (tM X.K B W (eUn pNeg ma)) := me_un un_neg p1_neg ha
theorem x_add (ha : PE X a (tM X.K B W ma)) (hb : PE X b (tM X.K B W mb)) : PE X (.BinOp a .Add b pos) (tM X.K B W (eOp pAdd ma mb)) := me_op op_addA p2_add ha hb
theorem x_sub (ha : PE X a (tM X.K B W ma)) (hb : PE X b (tM X.K B W mb)) : PE X (.BinOp a .Sub b pos) (tM X.K B W (eOp pSub ma mb)) := me_op op_sub p2_sub ha hb
theorem x_mul (ha : PE X a (tM X.K B W ma)) (hb : PE X b (tM X.K B W mb)) : PE X (.BinOp a .Mult b pos) (tM X.K B W (eOp pMul ma mb)) := me_op op_mulA p2_mul ha hb
theorem x_mod (ha : PE X a (tM X.K B W ma)) (hb : PE X b (tM X.K B W mb)) : PE X (.BinOp a .Mod b pos) (tM X.K B W (eOp pMod ma mb)) := me_op op_modN p2_mod ha hb
theorem x_fdiv (ha : PE X a (tM X.K B W ma)) (hb : PE X b (tM X.K B W mb)) : PE X (.BinOp a .FloorDiv b pos) (tM X.K B W (eOp pFdiv ma mb)) := me_op op_fdivN p2_fdiv ha hb
theorem x_lt (ha : PE X a (tM X.K B W ma)) (hb : PE X b (tM X.K B W mb)) (hm : behindInMarks .Lt b = false := by rfl) : PE X (.Compare a [.Lt] [b] pos) (tM X.K B W (eOp pLt ma mb)) := me_cmp op_lt p2_lt ha hb hm
theorem x_le (ha : PE X a (tM X.K B W ma)) (hb : PE X b (tM X.K B W mb)) (hm : behindInMarks .LtE b = false := by rfl) : PE X (.Compare a [.LtE] [b] pos) (tM X.K B W (eOp pLe ma mb)) := me_cmp op_le p2_le ha hb hm
theorem x_gt (ha : PE X a (tM X.K B W ma)) (hb : PE X b (tM X.K B W mb)) (hm : behindInMarks .Gt b = false := by rfl) : PE X (.Compare a [.Gt] [b] pos) (tM X.K B W (eOp pGt ma mb)) := me_cmp op_gt p2_gt ha hb hm
theorem x_ge (ha : PE X a (tM X.K B W ma)) (hb : PE X b (tM X.K B W mb)) (hm : behindInMarks .GtE b = false := by rfl) : PE X (.Compare a [.GtE] [b] pos) (tM X.K B W (eOp pGe ma mb)) := me_cmp op_ge p2_ge ha hb hm
theorem x_eq (c : Ctx X W k) (ha : PE X a (tM X.K B W ma)) (hb : PE X b (tM X.K B W mb)) (hm : behindInMarks .Eq b = false := by rfl) : PE X (.Compare a [.Eq] [b] pos) (tM X.K B W (eOp pEqA ma mb)) := me_cmp (OpR.or (op_eqD c.u64) op_eq) p2_eqA ha hb hm
theorem x_ne (c : Ctx X W k) (ha : PE X a (tM X.K B W ma)) (hb : PE X b (tM X.K B W mb)) (hm : behindInMarks .NotEq b = false := by rfl) : PE X (.Compare a [.NotEq] [b] pos) (tM X.K B W (eOp pNeA ma mb)) := me_cmp (OpR.or (op_neD c.u64) op_ne) p2_neA ha hb hm
theorem x_eqO (c : Ctx X W k) (S : SaysM X.prog X.w X.K X.mg X.base B j C "__eq__" 1 m) (E : EqC X.K (He.ga X.K C) (He.ma X.K (He.ga X.K C) "__eq__")) (hj : j ≤ k) (ha : PE X a (tM X.K B W ma)) (hb : PE X b (tM X.K B W mb)) (hm : behindInMarks .Eq b = false := by rfl) :
    PE X (.Compare a [.Eq] [b] pos) (tM X.K B W (eOp (pEqO C m .bl) ma mb)) := by
  obtain ⟨fd, ps, F, hbn⟩ := S.ex
  exact me_cmp (op_eqO c.gu (c.room.mono hj) E F hbn) (p2_own fun _ _ => rfl) ha hb hm
theorem x_neO (c : Ctx X W k) (S : SaysM X.prog X.w X.K X.mg X.base B j C "__eq__" 1 m) (E : EqC X.K (He.ga X.K C) (He.ma X.K (He.ga X.K C) "__eq__")) (hj : j + 1 ≤ k) (ha : PE X a (tM X.K B W ma)) (hb : PE X b (tM X.K B W mb)) (hm : behindInMarks .NotEq b = false := by rfl) :
    PE X (.Compare a [.NotEq] [b] pos) (tM X.K B W (eOp (pEqO C m fun t => .bl (!t)) ma mb)) := by
  obtain ⟨fd, ps, F, hbn⟩ := S.ex
  exact me_cmp (op_neO c.gu (c.room.mono hj) E F hbn) (p2_own fun _ _ => rfl) ha hb hm
/-! built-ins -/
variable {p0 : Pos}
theorem boot_abs : bootBuiltins "abs" = some (.builtin "abs") := by decide +kernel
theorem boot_max : bootBuiltins "max" = some (.builtin "max") := by decide +kernel
theorem boot_min : bootBuiltins "min" = some (.builtin "min") := by decide +kernel
theorem boot_all : bootBuiltins "all" = some (.builtin "all") := by decide +kernel
theorem boot_any : bootBuiltins "any" = some (.builtin "any") := by decide +kernel
theorem boot_repr : bootBuiltins "repr" = some (.builtin "repr") := by decide +kernel
theorem boot_sorted : bootBuiltins "sorted" = some (.builtin "sorted") := by decide +kernel
theorem boot_isinstance : bootBuiltins "isinstance" = some (.builtin "isinstance") := by decide +kernel
theorem x_len (hm : X.mg "len" = none) (hg : Gl X "len") (ha : PA X [e] (tMA X.K B W am)) (hs : starEach [e] X.env = (false, eval e X.env) :: starEach [] X.env := by rfl) (hpl : (backTo pos (starEach [] X.env)).any (·.1) = false := by rfl) : PE X (.Call (.Name "len" p0) [e] [] pos) (tM X.K B W (eCall (f1 lenM) am)) := me_callB cr_len pl_len hg hm boot_len ha (by decide) (by decide) hs hpl
theorem x_abs (hm : X.mg "abs" = none) (hg : Gl X "abs") (ha : PA X [e] (tMA X.K B W am)) (hs : starEach [e] X.env = (false, eval e X.env) :: starEach [] X.env := by rfl) (hpl : (backTo pos (starEach [] X.env)).any (·.1) = false := by rfl) : PE X (.Call (.Name "abs" p0) [e] [] pos) (tM X.K B W (eCall (f1 absM) am)) := me_callB call_abs pl_abs hg hm boot_abs ha (by decide) (by decide) hs hpl
theorem x_max2 (c : Ctx X W k) (hm : X.mg "max" = none) (hg : Gl X "max") (ha : PA X [a, b] (tMA X.K B W am)) (hs : starEach [a, b] X.env = (false, eval a X.env) :: starEach [b] X.env := by rfl) (hpl : (backTo pos (starEach [b] X.env)).any (·.1) = false := by rfl) : PE X (.Call (.Name "max" p0) [a, b] [] pos) (tM X.K B W (eCall (f2 max2M) am)) := me_callB (call_max2 c.calm) pl_max2 hg hm boot_max ha (by decide) (by decide) hs hpl
theorem x_min2 (c : Ctx X W k) (hm : X.mg "min" = none) (hg : Gl X "min") (ha : PA X [a, b] (tMA X.K B W am)) (hs : starEach [a, b] X.env = (false, eval a X.env) :: starEach [b] X.env := by rfl) (hpl : (backTo pos (starEach [b] X.env)).any (·.1) = false := by rfl) : PE X (.Call (.Name "min" p0) [a, b] [] pos) (tM X.K B W (eCall (f2 min2M) am)) := me_callB (call_min2 c.calm) pl_min2 hg hm boot_min ha (by decide) (by decide) hs hpl
theorem x_int (hm : X.mg "int" = none) (hg : Gl X "int") (ha : PA X [e] (tMA X.K B W am)) (hs : starEach [e] X.env = (false, eval e X.env) :: starEach [] X.env := by rfl) (hpl : (backTo pos (starEach [] X.env)).any (·.1) = false := by rfl) : PE X (.Call (.Name "int" p0) [e] [] pos) (tM X.K B W (eCall (f1 intM) am)) := me_callTy call_int1 pl_int hg hm PySem.Pv.boot_int ha (by decide) (by decide) hs hpl
theorem x_str (hm : X.mg "str" = none) (hg : Gl X "str") (ha : PA X [e] (tMA X.K B W am)) (hs : starEach [e] X.env = (false, eval e X.env) :: starEach [] X.env := by rfl) (hpl : (backTo pos (starEach [] X.env)).any (·.1) = false := by rfl) : PE X (.Call (.Name "str" p0) [e] [] pos) (tM X.K B W (eCall (f1 strM) am)) := me_callTy cr_str pl_str hg hm PySem.Pv.boot_str ha (by decide) (by decide) hs hpl
theorem x_list (hm : X.mg "list" = none) (hg : Gl X "list") (ha : PA X [e] (tMA X.K B W am)) (hs : starEach [e] X.env = (false, eval e X.env) :: starEach [] X.env := by rfl) (hpl : (backTo pos (starEach [] X.env)).any (·.1) = false := by rfl) : PE X (.Call (.Name "list" p0) [e] [] pos) (tM X.K B W (eCall bList am)) := me_callTy call_list_of pl_list hg hm PySem.Pv.boot_list ha (by decide) (by decide) hs hpl
theorem x_tuple (hm : X.mg "tuple" = none) (hg : Gl X "tuple") (ha : PA X [e] (tMA X.K B W am)) (hs : starEach [e] X.env = (false, eval e X.env) :: starEach [] X.env := by rfl) (hpl : (backTo pos (starEach [] X.env)).any (·.1) = false := by rfl) : PE X (.Call (.Name "tuple" p0) [e] [] pos) (tM X.K B W (eCall bTuple am)) := me_callTy call_tuple_of pl_tuple hg hm PySem.Pv.boot_tuple ha (by decide) (by decide) hs hpl
theorem x_all (c : Ctx X W k) (hm : X.mg "all" = none) (hg : Gl X "all") (ha : PA X [e] (tMA X.K B W am)) (hs : starEach [e] X.env = (false, eval e X.env) :: starEach [] X.env := by rfl) (hpl : (backTo pos (starEach [] X.env)).any (·.1) = false := by rfl) : PE X (.Call (.Name "all" p0) [e] [] pos) (tM X.K B W (eCall (f1 allM) am)) := me_callB (cr_all c.calm) pl_all hg hm boot_all ha (by decide) (by decide) hs hpl
theorem x_any (c : Ctx X W k) (hm : X.mg "any" = none) (hg : Gl X "any") (ha : PA X [e] (tMA X.K B W am)) (hs : starEach [e] X.env = (false, eval e X.env) :: starEach [] X.env := by rfl) (hpl : (backTo pos (starEach [] X.env)).any (·.1) = false := by rfl) : PE X (.Call (.Name "any" p0) [e] [] pos) (tM X.K B W (eCall (f1 anyM) am)) := me_callB (cr_any c.calm) pl_any hg hm boot_any ha (by decide) (by decide) hs hpl
theorem x_repr (c : Ctx X W k) (hm : X.mg "repr" = none) (hg : Gl X "repr") (ha : PA X [e] (tMA X.K B W am)) (hs : starEach [e] X.env = (false, eval e X.env) :: starEach [] X.env := by rfl) (hpl : (backTo pos (starEach [] X.env)).any (·.1) = false := by rfl) : PE X (.Call (.Name "repr" p0) [e] [] pos) (tM X.K B W (eCall (f1 reprM) am)) := me_callB (cr_repr c.gu c.u) pl_repr hg hm boot_repr ha (by decide) (by decide) hs hpl
theorem x_sorted (hm : X.mg "sorted" = none) (hg : Gl X "sorted") (ha : PA X [e] (tMA X.K B W am)) (hs : starEach [e] X.env = (false, eval e X.env) :: starEach [] X.env := by rfl) (hpl : (backTo pos (starEach [] X.env)).any (·.1) = false := by rfl) : PE X (.Call (.Name "sorted" p0) [e] [] pos) (tM X.K B W (eCall bSorted am)) := me_callB cr_sortedPO pl_sorted hg hm boot_sorted ha (by decide) (by decide) hs hpl
end
end Mp

set_option Elab.async false
set_option linter.all false
set_option maxRecDepth 100000
namespace Mp
open PySem L2 PySem.Spec PyProof.Rows

section
variable {X : Cx} {B : List (Str × Nat)} {W : WX'} {k j n : Nat} {ma mb : EM} {am : AM} {a b o e : Expr} {es : List Expr} {pos apos p : Pos}
theorem PT.either {e : Expr} {t t' : TT} (h : PT X e t) (h' : PT X e t') : PT X e (fun σ H Q => t σ H Q ∨ t' σ H Q) := ⟨fun pins s σ H Q I q => q.elim (h.run pins s σ H Q I) (h'.run pins s σ H Q I)⟩
theorem in_two {σ : L2.St} {H : Hp} {Q : VK} (h : tM X.K B W (eOp pIn ma mb) σ H Q) : tOp (rInA X.K) (tM X.K B W ma) (tM X.K B W mb) σ H Q ∨ tOp rDIn (tM X.K B W ma) (tM X.K B W mb) σ H Q :=
  tM_op2 (r1 := rInA X.K) (r2 := rDIn) (fun D _ b => isDic D b)
    (fun μ D H a b x y W Q hc r ra rb p => by
      obtain ⟨c, hc1, k⟩ := ok?_ok r p
      obtain ⟨c', hc', rfl⟩ := Option.map_eq_some_iff.mp hc1
      exact notdic_in r ra rb hc' hc (k _ rfl))
    (fun μ D H a b x y W Q hc r ra rb p => by
      obtain ⟨c, hc1, k⟩ := ok?_ok r p
      obtain ⟨c', hc', rfl⟩ := Option.map_eq_some_iff.mp hc1
      obtain ⟨p, o, rfl, g, rfl⟩ := dic_in r ra rb hc' hc
      exact ⟨p, o, rfl, g, k _ rfl⟩) h
theorem notin_two {σ : L2.St} {H : Hp} {Q : VK} (h : tM X.K B W (eOp pNotIn ma mb) σ H Q) : tOp (rNInA X.K) (tM X.K B W ma) (tM X.K B W mb) σ H Q ∨ tOp rDNotIn (tM X.K B W ma) (tM X.K B W mb) σ H Q :=
  tM_op2 (r1 := rNInA X.K) (r2 := rDNotIn) (fun D _ b => isDic D b)
    (fun μ D H a b x y W Q hc r ra rb p => by
      obtain ⟨c, hc1, k⟩ := ok?_ok r p
      obtain ⟨c', hc', rfl⟩ := Option.map_eq_some_iff.mp hc1
      exact rIn_not (notdic_in (c := c') r ra rb hc' hc fun c e => by cases e; exact k _ rfl))
    (fun μ D H a b x y W Q hc r ra rb p => by
      obtain ⟨c, hc1, k⟩ := ok?_ok r p
      obtain ⟨c', hc', rfl⟩ := Option.map_eq_some_iff.mp hc1
      obtain ⟨p, o, rfl, g, rfl⟩ := dic_in r ra rb hc' hc
      exact ⟨p, o, rfl, g, k _ rfl⟩) h
theorem x_in (c : Ctx X W k) (ha : PE X a (tM X.K B W ma)) (hb : PE X b (tM X.K B W mb)) (hm : behindInMarks .In b = false := by rfl) : PE X (.Compare a [.In] [b] pos) (tM X.K B W (eOp pIn ma mb)) := me_in c.u65 ha hb hm
theorem x_notin (c : Ctx X W k) (ha : PE X a (tM X.K B W ma)) (hb : PE X b (tM X.K B W mb)) (hm : behindInMarks .NotIn b = false := by rfl) : PE X (.Compare a [.NotIn] [b] pos) (tM X.K B W (eOp pNotIn ma mb)) := me_notin c.u65 ha hb hm
theorem t_in (c : Ctx X W k) (ha : PE X a (tM X.K B W ma)) (hb : PE X b (tM X.K B W mb)) (hm : behindInMarks .In b = false := by rfl) : PT X (.Compare a [.In] [b] pos) (tMB X.K B W (bTest (eOp pIn ma mb))) :=
  PT.imp (PT.either (pt_cmpR (op_inA c.u65) ha hb hm) (pt_cmp (pc_din (by have := c.u; omega) ha hb) hm)) fun σ H Q h => in_two (tMB_test h)
theorem t_notin (c : Ctx X W k) (ha : PE X a (tM X.K B W ma)) (hb : PE X b (tM X.K B W mb)) (hm : behindInMarks .NotIn b = false := by rfl) : PT X (.Compare a [.NotIn] [b] pos) (tMB X.K B W (bTest (eOp pNotIn ma mb))) :=
  PT.imp (PT.either (pt_cmpR (op_notInA c.u65) ha hb hm) (pt_cmp (pc_dnotin (by have := c.u; omega) ha hb) hm)) fun σ H Q h => notin_two (tMB_test h)
theorem t_lt (ha : PE X a (tM X.K B W ma)) (hb : PE X b (tM X.K B W mb)) (hm : behindInMarks .Lt b = false := by rfl) : PT X (.Compare a [.Lt] [b] pos) (tMB X.K B W (bTest (eOp pLt ma mb))) := mt_cmp op_lt p2_lt ha hb hm
theorem t_le (ha : PE X a (tM X.K B W ma)) (hb : PE X b (tM X.K B W mb)) (hm : behindInMarks .LtE b = false := by rfl) : PT X (.Compare a [.LtE] [b] pos) (tMB X.K B W (bTest (eOp pLe ma mb))) := mt_cmp op_le p2_le ha hb hm
theorem t_gt (ha : PE X a (tM X.K B W ma)) (hb : PE X b (tM X.K B W mb)) (hm : behindInMarks .Gt b = false := by rfl) : PT X (.Compare a [.Gt] [b] pos) (tMB X.K B W (bTest (eOp pGt ma mb))) := mt_cmp op_gt p2_gt ha hb hm
theorem t_ge (ha : PE X a (tM X.K B W ma)) (hb : PE X b (tM X.K B W mb)) (hm : behindInMarks .GtE b = false := by rfl) : PT X (.Compare a [.GtE] [b] pos) (tMB X.K B W (bTest (eOp pGe ma mb))) := mt_cmp op_ge p2_ge ha hb hm
theorem t_eq (c : Ctx X W k) (ha : PE X a (tM X.K B W ma)) (hb : PE X b (tM X.K B W mb)) (hm : behindInMarks .Eq b = false := by rfl) : PT X (.Compare a [.Eq] [b] pos) (tMB X.K B W (bTest (eOp pEqA ma mb))) := mt_cmp (OpR.or (op_eqD c.u64) op_eq) p2_eqA ha hb hm
theorem t_ne (c : Ctx X W k) (ha : PE X a (tM X.K B W ma)) (hb : PE X b (tM X.K B W mb)) (hm : behindInMarks .NotEq b = false := by rfl) : PT X (.Compare a [.NotEq] [b] pos) (tMB X.K B W (bTest (eOp pNeA ma mb))) := mt_cmp (OpR.or (op_neD c.u64) op_ne) p2_neA ha hb hm
theorem t_eqO {C : Str} {m : List MV → Sto → Re MV} (c : Ctx X W k) (S : SaysM X.prog X.w X.K X.mg X.base B j C "__eq__" 1 m) (E : EqC X.K (He.ga X.K C) (He.ma X.K (He.ga X.K C) "__eq__")) (hj : j ≤ k) (ha : PE X a (tM X.K B W ma)) (hb : PE X b (tM X.K B W mb)) (hm : behindInMarks .Eq b = false := by rfl) :
    PT X (.Compare a [.Eq] [b] pos) (tMB X.K B W (bTest (eOp (pEqO C m .bl) ma mb))) := by
  obtain ⟨fd, ps, F, hbn⟩ := S.ex
  exact mt_cmp (op_eqO c.gu (c.room.mono hj) E F hbn) (p2_own fun _ _ => rfl) ha hb hm
theorem t_neO {C : Str} {m : List MV → Sto → Re MV} (c : Ctx X W k) (S : SaysM X.prog X.w X.K X.mg X.base B j C "__eq__" 1 m) (E : EqC X.K (He.ga X.K C) (He.ma X.K (He.ga X.K C) "__eq__")) (hj : j + 1 ≤ k) (ha : PE X a (tM X.K B W ma)) (hb : PE X b (tM X.K B W mb)) (hm : behindInMarks .NotEq b = false := by rfl) :
    PT X (.Compare a [.NotEq] [b] pos) (tMB X.K B W (bTest (eOp (pEqO C m fun t => .bl (!t)) ma mb))) := by
  obtain ⟨fd, ps, F, hbn⟩ := S.ex
  exact mt_cmp (op_neO c.gu (c.room.mono hj) E F hbn) (p2_own fun _ _ => rfl) ha hb hm
theorem x_ix (c : Ctx X W k) (ha : PE X a (tM X.K B W ma)) (hb : PE X b (tM X.K B W mb)) (hp : PlainIx b := by exact fun _ _ => rfl) (hn : NoSl b := by exact fun _ _ => rfl) : PE X (.Subscript a b pos) (tM X.K B W (eOp pIx ma mb)) := me_ix c.u1 ha hb hp hn
end

/-! ### name = {..: .. for ..} on one line, the name a local -/
section
variable {X : Cx} {B : List (Str × Nat)} {W : WX'} {tg iter kx vx : Expr} {ifs : List Expr} {scope : Scope} {own : List (Str × Nat)} {pos spos py : Pos} {wi : TI} {g : TG} {tt : TT} {tk tv : TE} {i : Nat} {y : Str}
theorem ps_setDc (hc : X.calm = true) (hN : X.N.Nodup) (hiy : X.N[i]? = some y) (hyl : X.env.scope.names.lookup y = some .local) (sw : swapsWith (.DictComp kx vx [⟨tg, iter, ifs, 0⟩] scope pos) (some (.Name y py)) spos.line X.env = pure true)
    (hi : PI X tg iter wi) (ok : BlkOk X.N X.env.scope scope own)
    (hg : ∀ (s : Shared) (H : Hp) (C : Addr) (cl : List (Str × Addr)) (fp : List Addr), PG (X.blk s H scope (compEnvC scope cl C X.env) fp) tg g)
    (ht : ∀ (s : Shared) (H : Hp) (C : Addr) (cl : List (Str × Addr)) (fp : List Addr), PTs (X.blk s H scope (compEnvC scope cl C X.env) fp) ifs tt)
    (hk : ∀ (s : Shared) (H : Hp) (C : Addr) (cl : List (Str × Addr)) (fp : List Addr), PE (X.blk s H scope (compEnvC scope cl C X.env) fp) kx tk)
    (he : ∀ (s : Shared) (H : Hp) (C : Addr) (cl : List (Str × Addr)) (fp : List Addr), PE (X.blk s H scope (compEnvC scope cl C X.env) fp) vx tv) (hs : ∀ x, foldedSetIterable iter X.env x = pure x) :
    PS X (.Assign [.Name y py] (.DictComp kx vx [⟨tg, iter, ifs, 0⟩] scope pos) spos) (tAsg (tDc wi g tt tk tv (own.map (·.2))) (gName i)) := by
  refine ⟨fun pins s σ H D I h => ?_⟩
  rw [exec_Assign_Name_used _ _ _ _ sw]
  refine wpAny_bind (wpAny_standAt (wpAny_bind ?_))
  show wpAny _ X.A (do let _ ← comprehension (.DictComp kx vx [⟨tg, iter, ifs, 0⟩] scope pos) scope X.env (firstIterPos [⟨tg, iter, ifs, 0⟩] pos) newDict false (eval iter X.env) (some (assign (.Name y py) X.env))) _ _ s
  have h' : tDc wi g tt tk tv (own.map (·.2)) σ H (fun x H1 => gName i x σ H1 D.nx) := h
  refine wpAny_bind (thn (dc_core (Qf := fun _ s' => SP X pins D .next s') hc hN I hi ok hg ht hk he hs h' fun L C s' m H' I' q hn f => ?_) fun _ s' hq => wpAny_pure (wpAny_pure hq))
  show wpAny _ _ (assign (.Name y py) X.env (.ref L)) _ _ _
  refine wpAny_assign_Name (store_ok2 (v := V.ref L) I' hN hiy (.inl hyl) rfl (fun s2 I2 ⟨a, sb, ha⟩ => ?_) (.inr hyl))
  obtain ⟨f0, f1, f2, f3, f4, f5⟩ := f
  have apart : C ≠ a := by
    rcases ha with z | z
    · rw [z]
      exact f1
    · exact fun e => f4 y a z e.symm
  exact ⟨m, hn.sameBut sb apart, fun h3 sb3 => ⟨_, H', I2.turned (t' := s2.toks) (fun b o hb e => (sb3.2 b hb).trans e) f0 f1 f3 f4 f5, q⟩⟩
theorem swD {gs : List Comprehension} {l : Nat} {env : Env} (hk : env.scope.kind = .function) (hy : env.scope.names.lookup y = some .local) (hl : (py.line == pos.line) = true)
    (ha : (scope.names.any fun (n, k) => n == y && (k == .local || k == .cell)) = false) : swapsWith (.DictComp kx vx gs scope pos) (some (.Name y py)) l env = pure true := by
  have k1 : env.kindOf y = some .local := hy
  have k2 : env.blockKind = .function := by
    unfold Env.blockKind
    rw [hk]
    rfl
  unfold swapsWith
  simp only [k2, k1, ha, Expr.pos, hl]
  rfl
variable {w : WM} {gm : GM} {t : BM} {ek ev : EM}
theorem mp_setDc (hc : X.calm = true) (hN : X.N.Nodup) (hiy : X.N[i]? = some y) (hyl : X.env.scope.names.lookup y = some .local) (sw : swapsWith (.DictComp kx vx [⟨tg, iter, ifs, 0⟩] scope pos) (some (.Name y py)) spos.line X.env = pure true)
    (hi : PI X tg iter (tW X.K B W w)) (ok : BlkOk X.N X.env.scope scope own)
    (hg : ∀ (s : Shared) (H : Hp) (C : Addr) (cl : List (Str × Addr)) (fp : List Addr), PG (X.blk s H scope (compEnvC scope cl C X.env) fp) tg (tGM X.K B gm))
    (ht : ∀ (s : Shared) (H : Hp) (C : Addr) (cl : List (Str × Addr)) (fp : List Addr), PTs (X.blk s H scope (compEnvC scope cl C X.env) fp) ifs (tMB X.K B W0 t))
    (hk : ∀ (s : Shared) (H : Hp) (C : Addr) (cl : List (Str × Addr)) (fp : List Addr), PE (X.blk s H scope (compEnvC scope cl C X.env) fp) kx (tM X.K B W0 ek))
    (he : ∀ (s : Shared) (H : Hp) (C : Addr) (cl : List (Str × Addr)) (fp : List Addr), PE (X.blk s H scope (compEnvC scope cl C X.env) fp) vx (tM X.K B W0 ev))
    (hs : ∀ x, foldedSetIterable iter X.env x = pure x := by intro _; rfl) : PS X (.Assign [.Name y py] (.DictComp kx vx [⟨tg, iter, ifs, 0⟩] scope pos) spos) (tMS X.K B W (sSet i (eDc w gm t ek ev (own.map (·.2))))) :=
  PS.imp (ps_setDc hc hN hiy hyl sw hi ok hg ht hk he hs) fun E σ H ⟨μ, ρ, D, hs, hr, p⟩ =>
    tM_dc ⟨μ, ρ, D, hs, hr, PostS.lift hs p fun μ1 D1 x x' H1 l1 r1 s1 v1 q1 => SEnd.go q1 r1 (s1.put v1 i)⟩
end

/-! ### facts of the head, by their places -/
def insB (K : PySem.W.Frag) (x : Str) : Bool := (He.Fa.cls x).ok K && (He.eqO (PySem.W.findIn K (.ref (He.ga K x)) "__class__") (some (some (.builtin "object.__class__"))) && (He.eqO (PySem.W.specialIn K (.builtin "object.__class__") "__get__") (some (some (.builtin "getset_descriptor.__get__"))) &&
  (decide (PySem.W.takesIn K (.builtin "object.__class__") = some true) && decide (PySem.W.mroIn K (He.ga K x) (.type "object") = some true))))
theorem insB_ok {K : PySem.W.Frag} {x : Str} (h : insB K x = true) : InsA K (He.ga K x) := by
  obtain ⟨h1, h⟩ := He.ba h
  obtain ⟨h2, h⟩ := He.ba h
  obtain ⟨h3, h⟩ := He.ba h
  obtain ⟨h4, h5⟩ := He.ba h
  exact ⟨He.cls_ok h1, He.eqO_ok h2, He.eqO_ok h3, of_decide_eq_true h4, of_decide_eq_true h5⟩
def eqcB (K : PySem.W.Frag) (x : Str) : Bool := decide (PySem.W.mroIn K (He.ga K x) (.type "object") = some true) && (He.eqO (PySem.W.findIn K (.ref (He.ga K x)) "__ne__") (some (some (.builtin "object.__ne__"))) && (He.Fa.meth x "__eq__").ok K)
theorem eqcB_ok {K : PySem.W.Frag} {x : Str} (h : eqcB K x = true) : EqC K (He.ga K x) (He.ma K (He.ga K x) "__eq__") := by
  obtain ⟨h1, h⟩ := He.ba h
  obtain ⟨h2, h3⟩ := He.ba h
  have m := He.meth_ok h3
  exact ⟨of_decide_eq_true h1, He.eqO_ok h2, m.at_, m.fn⟩
def clsOf (K : PySem.W.Frag) : Tk → Value := Tk.val K
def tabB (cs : List Tk) (tab : List (Tk × Bool)) (K : PySem.W.Frag) : Bool := tab.all fun p => decide (PySem.W.kitAny K (p.1.val K) (cs.map (Tk.val K)) = some p.2) && (match p.1 with
  | .own C => insB K C
  | .b _ => true)
theorem tabB_ok {cs : List Tk} {tab : List (Tk × Bool)} {K : PySem.W.Frag} (h : tabB cs tab K = true) : TabOk K (cs.map (Tk.val K)) tab := by
  have key := List.all_eq_true.mp h
  refine ⟨fun p hp C e => ?_, fun p hp => ?_⟩
  · obtain ⟨_, h2⟩ := He.ba (key p hp)
    rw [e] at h2
    exact insB_ok h2
  · obtain ⟨h1, _⟩ := He.ba (key p hp)
    exact of_decide_eq_true h1
structure Fx (fa : List He.Fa) (fn : List He.DefD) (exs : List (PySem.W.Frag → Bool)) (K : PySem.W.Frag) (mg : Str → Option Value) : Prop where
  d : He.SaysD fa fn K
  more : (exs.all fun p => p K) = true
  base : ∃ h : Heap, K.In h ∧ h.Ns mainGlobals mg
section
variable {fa : List He.Fa} {fn : List He.DefD} {exs : List (PySem.W.Frag → Bool)} {K : PySem.W.Frag} {mg : Str → Option Value} {x f m z : Str}
theorem Fx.fr (q : Fx fa fn exs K mg) (i : Nat) (h : fa[i]? = some (.free x) := by rfl) : mg x = none := let ⟨_, X, G⟩ := q.base; He.free_ok X G (q.d.fact i h)
theorem Fx.gl (q : Fx fa fn exs K mg) (i : Nat) (h : fa[i]? = some (.glo x) := by rfl) : mg x = some (.ref (He.ga K x)) := let ⟨_, X, G⟩ := q.base; He.glo_ok X G (q.d.fact i h)
theorem Fx.int (q : Fx fa fn exs K mg) (i : Nat) {n : Int} (h : fa[i]? = some (.int x n) := by rfl) : ∃ t, mg x = some (.int n t) := let ⟨_, X, G⟩ := q.base; He.int_ok X G (q.d.fact i h)
theorem Fx.str (q : Fx fa fn exs K mg) (i : Nat) (h : fa[i]? = some (.str x z) := by rfl) : ∃ t, mg x = some (.str z t) := let ⟨_, X, G⟩ := q.base; He.str_ok X G (q.d.fact i h)
theorem Fx.cls (q : Fx fa fn exs K mg) (i : Nat) (h : fa[i]? = some (.cls x) := by rfl) : Cls K (He.ga K x) := He.cls_ok (q.d.fact i h)
theorem Fx.no (q : Fx fa fn exs K mg) (i : Nat) (h : fa[i]? = some (.noat x f) := by rfl) : NoAttr K (He.ga K x) f := He.noat_ok (q.d.fact i h)
theorem Fx.me (q : Fx fa fn exs K mg) (i : Nat) (h : fa[i]? = some (.meth x m) := by rfl) : Meth K (He.ga K x) m (He.ma K (He.ga K x) m) := He.meth_ok (q.d.fact i h)
theorem Fx.mk' (q : Fx fa fn exs K mg) (i : Nat) (h : fa[i]? = some (.mkr x) := by rfl) : Mk K (He.ga K x) (He.ma K (He.ga K x) "__init__") := He.mkr_ok (q.d.fact i h)
theorem Fx.ex (q : Fx fa fn exs K mg) (i : Nat) {p : PySem.W.Frag → Bool} (h : exs[i]? = some p := by rfl) : p K = true := List.all_eq_true.mp q.more p (List.mem_of_getElem? h)
theorem Fx.eqc (q : Fx fa fn exs K mg) (i : Nat) (h : exs[i]? = some (fun K => eqcB K x) := by rfl) : EqC K (He.ga K x) (He.ma K (He.ga K x) "__eq__") := eqcB_ok (q.ex i h)
theorem Fx.tab (q : Fx fa fn exs K mg) (i : Nat) {cs : List Tk} {tab : List (Tk × Bool)} (h : exs[i]? = some (tabB cs tab) := by rfl) : TabOk K (cs.map (Tk.val K)) tab := tabB_ok (q.ex i h)
end
end Mp

set_option Elab.async false
set_option linter.all false
set_option maxRecDepth 100000
namespace Mp
open PySem PySem.Spec PyProof.Rows L2 HT

/-! ### t[::-1] of tuples -/
section
variable {prog : Program} {w : World} {A : Around} {E : Value → Shared → Prop} {s : Shared}
theorem adjust_rev (n : Nat) : Builtin.Slice.sliceAdjust none none (-1) (n : Int) = ((n : Int) - 1, -1) := by
  unfold Builtin.Slice.sliceAdjust
  simp
theorem places_rev (n : Nat) : Builtin.Slice.slicePlaces ((n : Int) - 1) (-1) (-1) = n := by
  unfold Builtin.Slice.slicePlaces
  have h1 : ¬ ((-1 : Int) > 0) := by decide
  simp only [h1, if_false]
  rw [show (- -1 : Int) = 1 by decide, Int.ediv_one]
  split <;> omega
theorem pick_rev (xs : Array Value) : ((List.range xs.size).filterMap fun (m : Nat) => xs[(((xs.size : Int) - 1) + (m : Int) * (-1)).toNat]?).toArray = xs.toList.reverse.toArray := by
  congr 1
  rw [← PySem.W.krv_all xs, ← List.filterMap_reverse, ← PySem.W.krv_range, List.filterMap_map]
  have e : ∀ m ∈ List.range xs.size, (fun (m : Nat) => xs[(((xs.size : Int) - 1) + (m : Int) * (-1)).toNat]?) m = ((fun i => xs[i]?) ∘ fun k => xs.size - 1 - k) m := fun m hm => by
    have := List.mem_range.mp hm
    have e : (((xs.size : Int) - 1) + (m : Int) * (-1)).toNat = xs.size - 1 - m := by omega
    show xs[_]? = xs[_]?
    rw [e]
  revert e
  generalize List.range xs.size = l
  intro e
  induction l with
  | nil => rfl
  | cons a l ih =>
    have e1 := e a List.mem_cons_self
    have e2 := ih fun m hm => e m (List.mem_cons_of_mem _ hm)
    rw [List.filterMap_cons, List.filterMap_cons, e2]
    dsimp only at e1
    rw [e1]
theorem applied_rev {sl : Addr} {vs : Value} {n : Nat} {Q : Int × Int × Nat → Shared → Prop} (hs : s.heap.IsSliceOf sl .none .none vs) (pv : IsPart vs (some (-1))) (h : Q ((n : Int) - 1, -1, n) s) : wpAny (model prog w) A (Builtin.Slice.sliceApplied (.ref sl) (pure (n : Int))) Q E s := by
  obtain ⟨os, hos, hcs, hds⟩ := id hs
  unfold Builtin.Slice.sliceApplied Builtin.Slice.sliceFields
  refine wpAny_bind (wpAny_bind (wpAny_field hos hds (x := .none) rfl (wpAny_bind (wpAny_field hos hds (x := .none) rfl (wpAny_bind (wpAny_field hos hds (x := vs) rfl (wpAny_pure ?_)))))))
  refine wpAny_bind (slicePart_ pv ?_)
  show wpAny _ _ (if ((-1 : Int) == 0) = true then _ else _) _ _ s
  rw [if_neg (by decide)]
  refine wpAny_bind (slicePart_none (wpAny_bind (slicePart_none (wpAny_bind (wpAny_pure ?_)))))
  show wpAny _ _ (match Builtin.Slice.sliceAdjust none none (-1) (n : Int) with | (lo, hi) => pure (lo, (-1 : Int), Builtin.Slice.slicePlaces lo hi (-1))) _ _ s
  rw [adjust_rev]
  show wpAny _ _ (pure ((n : Int) - 1, (-1 : Int), Builtin.Slice.slicePlaces ((n : Int) - 1) (-1) (-1))) _ _ s
  rw [places_rev]
  exact wpAny_pure h
theorem getItem_tuple_rev {t sl : Addr} {items : Array Value} {vs : Value} {Q : Value → Shared → Prop} (ht : IsTup s.heap t items) (hs : s.heap.IsSliceOf sl .none .none vs) (pv : IsPart vs (some (-1)))
    (h : Q (.ref s.heap.objs.size) { s with heap := s.heap.push { cls := .type "tuple", data := .seq items.toList.reverse.toArray } }) (hsz : items.size ≤ sizeLine) : wpAny (model prog w) A (getItem (.ref t) (.ref sl)) Q E s := by
  have fits : sizeOk (.seq items.toList.reverse.toArray) := by
    show items.toList.reverse.toArray.size ≤ sizeLine
    rw [List.size_toArray, List.length_reverse, Array.length_toList]
    exact hsz
  obtain ⟨os, hos, hcs, hds⟩ := id hs
  have hTs : s.TypeIs (.ref sl) "slice" := ⟨os, hos, hcs⟩
  unfold getItem
  try with_reducible refine wpAny_holding ?_
  first | refine wpAny_bind (wpAny_pure ?_) | skip
  refine wpAny_bind (wpAny_sequenceKey ht.typeIs (by decide) ?_)
  refine wpAny_bind (wpAny_callSpecial?_slot (name := Str.ofString "__getitem__") ht.typeIs PyProof.Rows.slot_tuple_getitem
    (wpAny_call_entry PyProof.Rows.slot_tuple_getitem ht.typeIs entry_tuple_getitem ?_ (args_tuple_getitem _ _)))
  show wpAny _ _ (Builtin.Tuple.tupleItemsOf (.ref t) >>= _) _ _ s
  refine wpAny_bind (tupleItemsOf_ ht ?_)
  refine wpAny_bind (wpAny_typeOf hTs ?_)
  rw [if_pos (by decide)]
  refine wpAny_bind (applied_rev hs pv ?_)
  have no : ¬ ((((items.size : Int) - 1) == 0 && ((-1) : Int) == 1 && items.size == items.size) = true) := by
    intro q
    rw [Bool.and_eq_true, Bool.and_eq_true] at q
    exact absurd q.1.2 (by decide)
  show wpAny _ _ (if (((items.size : Int) - 1) == 0 && ((-1) : Int) == 1 && items.size == items.size) = true then _ else _) _ _ s
  rw [if_neg no, pick_rev]
  first
    | exact wpAny_bind (m := Builtin.Tuple.tupleExact _) (wpAny_newObj_type (wpAny_pure ⟨_, rfl, wpAny_pure h⟩) fits)
    | exact wpAny_bind (m := Builtin.Tuple.tupleExact _) (wpAny_newObj_type (wpAny_bind (wpAny_pure (wpAny_pure ⟨_, rfl, wpAny_pure h⟩))) fits)
    | exact wpAny_bind (wpAny_bind (m := Builtin.Tuple.tupleExact _) (wpAny_newObj_type (wpAny_pure (wpAny_pure ⟨_, rfl, wpAny_pure h⟩)) fits))
    | exact wpAny_bind (wpAny_bind (m := Builtin.Tuple.tupleExact _) (wpAny_newObj_type (wpAny_pure ⟨_, rfl, wpAny_pure h⟩) fits))
end
section
variable {X : Cx} {e : Expr} {te : TE} {k : Nat} {p1 p2 p3 pos : Pos}
def tRevT (K : PySem.W.Frag) (te : TE) : TE := fun σ H Q => te σ H fun x H1 => ∃ a xs, x = .ref a ∧ SqT K H1 a xs ∧ ∀ p, H1 p = none → Q (.ref p) (upd H1 p (.tup xs.reverse))
theorem pe_revT (he : PE X e te) : PE X (.Subscript e (.Slice none none (some (.UnaryOp .USub (.Constant (.int 1) k p1) p2)) p3) pos) (tRevT X.K te) := by
  refine ⟨fun pins s σ H Q I h => ?_⟩
  refine Subscript_ (thn (he.run pins s σ H _ I h) fun v s1 ⟨x, H1, I1, r1, q1⟩ => ?_)
  obtain ⟨a, xs, ex, hx, q⟩ := q1
  subst ex
  cases r1
  have part : PO X (some (.UnaryOp .USub (.Constant (.int 1) k p1) p2)) (tPart (tUn (rU fun i => .int (-i)) (tC (.int 1)))) := po_some (pe_un un_neg pe_int)
  refine wpAny_Slice (thn (po_none.run pins s1 σ H1 (fun o H2 => o = none ∧ H2 = H1) I1 ⟨rfl, rfl⟩) fun vl s2 ⟨l, H2, I2, pl, el, e2⟩ => ?_)
  subst el e2
  refine thn (po_none.run pins s2 σ H2 (fun o H3 => o = none ∧ H3 = H2) I2 ⟨rfl, rfl⟩) fun vu s3 ⟨u, H3, I3, pu, eu, e3⟩ => ?_
  subst eu e3
  refine thn (part.run pins s3 σ H3 (fun o H4 => o = some (-1) ∧ H4 = H3) I3 ⟨1, rfl, -1, rfl, rfl, rfl⟩) fun vs s4 ⟨o, H4, I4, pv, eo, e4⟩ => ?_
  subst eo e4
  cases pl
  cases pu
  have I5 : Inv X pins σ H4 { s4 with heap := s4.heap.push { cls := .type "slice", data := .fields #[.none, .none, vs] } } := I4.kept (t' := s4.toks) fun b ob q => Heap.get?_push_of_some _ q
  obtain ⟨its, r, ht, hz⟩ := I5.tuple hx
  have len := r.length
  show wpAny (model X.prog X.w) X.A (subscriptTail e (.Slice none none (some (.UnaryOp .USub (.Constant (.int 1) k p1) p2)) p3) (.ref a) (.ref s4.heap.objs.size)) (EP X pins σ Q) X.xe { s4 with heap := s4.heap.push { cls := .type "slice", data := .fields #[.none, .none, vs] } }
  refine tail_any (ops := [.ref a, .ref s4.heap.objs.size]) ht.typeIs (PyProof.Rows.slot_tuple_getitem.lookup) ?_ (by with_unfolding_all rfl)
  refine getItem_tuple_rev ht (Heap.IsSliceOf.new _ .none .none vs) pv ?_ (by rw [List.size_toArray]; omega)
  refine ⟨.ref _, _, I5.laid (t' := s4.toks) (o := .tup xs.reverse) (fun b ob q => Heap.get?_push_of_some _ q) (Nat.le_refl _) ?_, rfl, q _ (I5.hok.fresh (Nat.le_refl _))⟩
  exact ⟨by rw [List.length_reverse]; exact hz, _, r.reverse, IsTup.new _ _⟩
end
def pRevA (a : MV) (D : Sto) : Re MV := match a with
  | .ref j => match rdL D j with
    | some xs => new (.lst xs.reverse) D
    | none => match rdT D j with
      | some xs => new (.tup xs.reverse) D
      | none => .err
  | _ => .err
section
variable {X : Cx} {B : List (Str × Nat)} {W : WX'} {ma : EM} {e : Expr} {k : Nat} {p1 p2 p3 pos : Pos}
theorem me_revA (he : PE X e (tM X.K B W ma)) : PE X (.Subscript e (.Slice none none (some (.UnaryOp .USub (.Constant (.int 1) k p1) p2)) p3) pos) (tM X.K B W (eUn pRevA ma)) :=
  PE.imp (PE.or (pe_revL he) (pe_revT he)) fun σ H Q h => by
    obtain ⟨μ, ρ, D, h1, h2, q⟩ := h
    unfold eUn at q
    cases e1 : ma ρ D with
    | ok v D1 =>
      rw [e1] at q
      have q' : Post X.K B (RV X.K) (fun c d H' => W c d σ H') μ (pRevA v D1) Q := q
      unfold pRevA at q'
      split at q'
      · rename_i j
        split at q'
        · rename_i xs e2
          refine .inl ⟨μ, ρ, D, h1, h2, ?_⟩
          rw [e1]
          intro μ1 H1 u l1 r1 v1
          obtain ⟨a, ys, rfl, ry, hs⟩ := rdL_ok r1 e2 v1
          exact ⟨a, ys, rfl, hs, fun p hp => new_lst r1 (Post.mono l1 q') hp (Pd.reverse ry)⟩
        · split at q'
          · rename_i xs e2
            refine .inr ⟨μ, ρ, D, h1, h2, ?_⟩
            rw [e1]
            intro μ1 H1 u l1 r1 v1
            obtain ⟨a, ys, rfl, ry, hs⟩ := rdT_ok r1 e2 v1
            exact ⟨a, ys, rfl, hs, fun p hp => new_tup r1 (Post.mono l1 q') hp (Pd.reverse ry)⟩
          · exact q'.elim
      · exact q'.elim
    | exc c fs D1 =>
      rw [e1] at q
      refine .inl ⟨μ, ρ, D, h1, h2, ?_⟩
      rw [e1]
      exact q
    | err => rw [e1] at q; exact q.elim
end
end Mp

set_option Elab.async false
set_option linter.all false
set_option maxRecDepth 100000
namespace Mp
open PySem L2

/-! ### what a run gives, as a wish -/
@[irreducible] def Ev {α : Type} (r : Re α) (Q : α → Sto → Prop) : Prop := match r with
  | .ok v D => Q v D
  | _ => False
@[irreducible] def EvS (r : SRe) (N : Rho → Sto → Prop) (T : MV → Sto → Prop) : Prop := match r with
  | .nx ρ D => N ρ D
  | .rt v D => T v D
  | _ => False
section
variable {α β : Type} {Q Q' : α → Sto → Prop} {N N' : Rho → Sto → Prop} {T T' : MV → Sto → Prop} {ρ : Rho} {D : Sto}
theorem Ev.get {r : Re α} (h : Ev r Q) : ∃ v D, r = .ok v D ∧ Q v D := by
  unfold Ev at h
  cases r with
  | ok v D => exact ⟨v, D, rfl, h⟩
  | exc c f D => exact h.elim
  | err => exact h.elim
theorem Ev.imp {r : Re α} (h : Ev r Q) (k : ∀ v D, Q v D → Q' v D) : Ev r Q' := by
  unfold Ev at h ⊢
  cases r with
  | ok v D => exact k v D h
  | exc c f D => exact h
  | err => exact h
theorem EvS.imp {r : SRe} (h : EvS r N T) (k : ∀ ρ D, N ρ D → N' ρ D) (k' : ∀ v D, T v D → T' v D) : EvS r N' T' := by
  unfold EvS at h ⊢
  cases r with
  | nx ρ D => exact k ρ D h
  | rt v D => exact k' v D h
  | _ => exact h
@[simp] theorem ev_ok {v : α} : Ev (.ok v D) Q = Q v D := by unfold Ev; rfl
@[simp] theorem ev_bind {m : Re α} {f : α → Sto → Re β} {P : β → Sto → Prop} : Ev (m.bind f) P = Ev m fun v D => Ev (f v D) P := by cases m <;> (unfold Ev; rfl)
@[simp] theorem evS_lift {m : Re α} {f : α → Sto → SRe} : EvS (lift m ρ f) N T = Ev m fun v D => EvS (f v D) N T := by cases m <;> (unfold Ev EvS; rfl)
@[simp] theorem evS_nx : EvS (.nx ρ D) N T = N ρ D := by unfold EvS; rfl
@[simp] theorem evS_rt {v : MV} : EvS (.rt v D) N T = T v D := by unfold EvS; rfl
@[simp] theorem evS_seq {a b : SM} : EvS (sSeq a b ρ D) N T = EvS (a ρ D) (fun ρ' D' => EvS (b ρ' D') N T) T := by
  unfold sSeq
  cases a ρ D <;> (unfold EvS; rfl)
theorem evS_if {c : BM} {a b : SM} : EvS (sIf c a b ρ D) N T = Ev (c ρ D) fun t D1 => if t = true then EvS (a ρ D1) N T else EvS (b ρ D1) N T := by
  unfold sIf
  rw [evS_lift]
  congr 1
  funext t D1
  cases t <;> rfl
theorem ev_run {n : Nat} {b : SM} {vs : List MV} {Q : MV → Sto → Prop} (h : EvS (b (vs.map some ++ List.replicate (n - vs.length) none) D) (fun _ D' => Q .non D') Q) : Ev (runB n b vs D) Q := by
  unfold runB
  unfold EvS at h
  unfold Ev
  cases e : b (vs.map some ++ List.replicate (n - vs.length) none) D <;> rw [e] at h <;> first | exact h | exact h.elim
/-! the forms -/
variable {a b : EM} {am : AM} {P : MV → Sto → Prop}
@[simp] theorem ev_c {v : MV} : Ev (eC v ρ D) P = P v D := by unfold Ev; rfl
theorem ev_var {i : Nat} {v : MV} (h : ρ[i]? = some (some v)) : Ev (eVar i ρ D) P = P v D := by unfold eVar; rw [h]; unfold Ev; rfl
@[simp] theorem ev_op {p : MV → MV → Sto → Re MV} : Ev (eOp p a b ρ D) P = Ev (a ρ D) fun x D1 => Ev (b ρ D1) fun y D2 => Ev (p x y D2) P := by unfold eOp; simp only [ev_bind]
@[simp] theorem ev_un {p : MV → Sto → Re MV} : Ev (eUn p a ρ D) P = Ev (a ρ D) fun x D1 => Ev (p x D1) P := by unfold eUn; simp only [ev_bind]
@[simp] theorem ev_nil {R : List MV → Sto → Prop} : Ev (aNil ρ D) R = R [] D := by unfold Ev; rfl
@[simp] theorem ev_cons {R : List MV → Sto → Prop} : Ev (aCons a am ρ D) R = Ev (a ρ D) fun x D1 => Ev (am ρ D1) fun xs D2 => R (x :: xs) D2 := by unfold aCons; simp only [ev_bind, ev_ok]
@[simp] theorem ev_call {p : List MV → Sto → Re MV} : Ev (eCall p am ρ D) P = Ev (am ρ D) fun xs D1 => Ev (p xs D1) P := by unfold eCall; simp only [ev_bind]
@[simp] theorem ev_bl {c : Bool} {R : Bool → Sto → Prop} : Ev (boolOf (.bl c) D) R = R c D := by unfold Ev; rfl
@[simp] theorem ev_test {R : Bool → Sto → Prop} : Ev (bTest a ρ D) R = Ev (a ρ D) fun x D1 => Ev (boolOf x D1) R := by unfold bTest; simp only [ev_bind]
theorem ev_bif {t : Bool} {x y : Re α} : Ev (if t = true then x else y) Q = if t = true then Ev x Q else Ev y Q := by cases t <;> rfl
@[simp] theorem ev_and {p q : BM} {R : Bool → Sto → Prop} : Ev (bAnd p q ρ D) R = Ev (p ρ D) fun x D1 => if x = true then Ev (q ρ D1) R else R false D1 := by unfold bAnd; simp only [ev_bind, ev_bif, ev_ok]
@[simp] theorem ev_or {p q : BM} {R : Bool → Sto → Prop} : Ev (bOr p q ρ D) R = Ev (p ρ D) fun x D1 => if x = true then R true D1 else Ev (q ρ D1) R := by unfold bOr; simp only [ev_bind, ev_bif, ev_ok]
@[simp] theorem ev_not {p : BM} {R : Bool → Sto → Prop} : Ev (bNot p ρ D) R = Ev (p ρ D) fun x D1 => R (!x) D1 := by unfold bNot; simp only [ev_bind, ev_ok]
@[simp] theorem ev_eif {t : BM} : Ev (eIf t a b ρ D) P = Ev (t ρ D) fun c D1 => if c = true then Ev (a ρ D1) P else Ev (b ρ D1) P := by unfold eIf; simp only [ev_bind, ev_bif]
@[simp] theorem ev_tup : Ev (eTup am ρ D) P = Ev (am ρ D) fun xs D1 => xs.length ≤ sizeLine ∧ P (.ref D1.length) (D1 ++ [.tup xs]) := by
  unfold eTup
  simp only [ev_bind]
  congr 1
  funext xs D1
  by_cases c : xs.length ≤ sizeLine
  · rw [if_pos c]; simp [c, new, Ev]
  · rw [if_neg c]; simp [c, Ev]
@[simp] theorem ev_lst : Ev (eLst am ρ D) P = Ev (am ρ D) fun xs D1 => xs.length ≤ sizeLine ∧ P (.ref D1.length) (D1 ++ [.lst xs]) := by
  unfold eLst
  simp only [ev_bind]
  congr 1
  funext xs D1
  by_cases c : xs.length ≤ sizeLine
  · rw [if_pos c]; simp [c, new, Ev]
  · rw [if_neg c]; simp [c, Ev]
@[simp] theorem evS_set {i : Nat} : EvS (sSet i a ρ D) N T = Ev (a ρ D) fun v D1 => N (ρ.set i (some v)) D1 := by unfold sSet; simp only [evS_lift, evS_nx]
@[simp] theorem evS_ret : EvS (sRet a ρ D) N T = Ev (a ρ D) T := by unfold sRet; simp only [evS_lift, evS_rt]
@[simp] theorem evS_drop : EvS (sDrop a ρ D) N T = Ev (a ρ D) fun _ D1 => N ρ D1 := by unfold sDrop; simp only [evS_lift, evS_nx]
@[simp] theorem evS_next : EvS (sNext ρ D) N T = N ρ D := by unfold EvS; rfl
@[simp] theorem evS_dput {md mk mv : EM} : EvS (sDPutM md mk mv ρ D) N T = Ev (mv ρ D) fun v D1 => Ev (md ρ D1) fun x D2 => Ev (mk ρ D2) fun k D3 => ∃ D4, dPut D3 x k v = some D4 ∧ N ρ D4 := by
  unfold sDPutM
  simp only [evS_lift]
  congr 1
  funext v D1
  congr 1
  funext x D2
  congr 1
  funext k D3
  cases dPut D3 x k v <;> simp [EvS]
@[simp] theorem ev_ok? {o : Option α} : Ev (ok? o D) Q = ∃ v, o = some v ∧ Q v D := by cases o <;> simp [ok?, Ev]
theorem ev_f1 {g : MV → Sto → Option MV} {v : MV} : Ev (f1 g [v] D) P = ∃ w, g v D = some w ∧ P w D := by unfold f1; simp only [ev_ok?]
theorem ev_f2 {g : MV → MV → Sto → Option MV} {v w : MV} : Ev (f2 g [v, w] D) P = ∃ z, g v w D = some z ∧ P z D := by unfold f2; simp only [ev_ok?]
theorem ev_int2 {C : Int → Int → Bool} {g : Int → Int → MV} {i j : Int} : Ev (pInt C g (.int i) (.int j) D) P = (C i j = true ∧ P (g i j) D) := by
  unfold pInt
  dsimp only
  by_cases c : C i j = true
  · rw [if_pos c]; simp [c, Ev]
  · rw [if_neg c]; simp [c, Ev]
@[simp] theorem ev_lt {i j : Int} : Ev (pLt (.int i) (.int j) D) P = P (.bl (decide (i < j))) D := by unfold pLt; rw [ev_int2]; simp
@[simp] theorem ev_gt {i j : Int} : Ev (pGt (.int i) (.int j) D) P = P (.bl (decide (j < i))) D := by unfold pGt; rw [ev_int2]; simp
@[simp] theorem ev_add {i j : Int} : Ev (pAdd (.int i) (.int j) D) P = P (.int (i + j)) D := by unfold Ev; rfl
theorem ev_mod {i j : Int} (h : j ≠ 0) : Ev (pMod (.int i) (.int j) D) P = P (.int (i.fmod j)) D := by unfold pMod; rw [ev_int2]; simp [h]
theorem ev_fdiv {i j : Int} (h : j ≠ 0) (h2 : j.natAbs < 1073741824) : Ev (pFdiv (.int i) (.int j) D) P = P (.int (i.fdiv j)) D := by unfold pFdiv; rw [ev_int2]; simp [h, h2]
theorem ev_mulR {i j : Int} (h : smallI j = true) : Ev (pMul (.int i) (.int j) D) P = P (.int (i * j)) D := by unfold pMul; simp [h, Ev]
theorem ev_mulL {i j : Int} (h : smallI i = true) : Ev (pMul (.int i) (.int j) D) P = P (.int (i * j)) D := by unfold pMul; simp [h, Ev]
theorem ev_ixd {j : Nat} {kvs : List (Key × MV)} {x : Str} {v : MV} (h : D[j]? = some (.dic kvs)) (hl : lookM kvs (Sum.inr x) = some v) : Ev (pIx (.ref j) (.str x) D) P = P v D := by
  unfold pIx ixAt
  simp [h, keyOf, hl, Ev, ok?]
end

/-! ### loops -/
theorem for_ok {wk : Wk} {g : GM} {body : SM} {N : Rho → Sto → Prop} {T : MV → Sto → Prop} (I : Nat → Rho → Sto → Prop) :
    ∀ (k i : Nat) (ρ : Rho) (D : Sto), I i ρ D → (∀ j ρ D, i ≤ j → j < i + k → I j ρ D → wk.chk D = true ∧ ∃ v D1 ρ1, wk.item j D = some (v, D1) ∧ g v ρ D1 = some ρ1 ∧ EvS (body ρ1 D1) (I (j + 1)) T) →
      (∀ ρ D, I (i + k) ρ D → wk.chk D = true ∧ N ρ D) → EvS (forGo wk g body k i ρ D) N T
  | 0, i, ρ, D, h, _, hn => by
    obtain ⟨h1, h2⟩ := hn ρ D h
    unfold forGo
    rw [h1, if_pos rfl, evS_nx]
    exact h2
  | k + 1, i, ρ, D, h, hs, hn => by
    obtain ⟨h1, v, D1, ρ1, h2, h3, h4⟩ := hs i ρ D (Nat.le_refl _) (by omega) h
    unfold forGo
    rw [h1, if_pos rfl, h2]
    dsimp only
    rw [h3]
    dsimp only
    cases e : body ρ1 D1 with
    | nx ρ2 D2 =>
      rw [e, evS_nx] at h4
      exact for_ok I k (i + 1) ρ2 D2 h4 (fun j ρ D h1 h2 => hs j ρ D (by omega) (by omega)) (fun ρ D h => hn ρ D (by rw [show i + (k + 1) = i + 1 + k by omega]; exact h))
    | rt v D2 =>
      rw [e, evS_rt] at h4
      dsimp only
      rw [evS_rt]
      exact h4
    | _ =>
      rw [e] at h4
      unfold EvS at h4
      exact h4.elim
theorem wh_ok {c : BM} {b : SM} {N : Rho → Sto → Prop} {T : MV → Sto → Prop} (I : Nat → Rho → Sto → Prop) (step : ∀ n ρ D, I n ρ D → Ev (c ρ D) fun t D1 => if t = true then EvS (b ρ D1) (fun ρ2 D2 => ∃ m, m < n ∧ I m ρ2 D2) T else N ρ D1) :
    ∀ (f n : Nat) (ρ : Rho) (D : Sto), n < f → I n ρ D → EvS (whGo c b f ρ D) N T
  | 0, n, ρ, D, h, _ => absurd h (Nat.not_lt_zero _)
  | f + 1, n, ρ, D, h, hi => by
    obtain ⟨t, D1, e, q⟩ := (step n ρ D hi).get
    unfold whGo
    rw [e]
    show EvS (if t = true then _ else _) N T
    cases t with
    | false =>
      rw [if_neg (by decide), evS_nx]
      exact q
    | true =>
      have q' : EvS (b ρ D1) (fun ρ2 D2 => ∃ m, m < n ∧ I m ρ2 D2) T := q
      rw [if_pos rfl]
      cases e2 : b ρ D1 with
      | nx ρ2 D2 =>
        rw [e2, evS_nx] at q'
        obtain ⟨m, h1, h2⟩ := q'
        exact wh_ok I step f m ρ2 D2 (by omega) h2
      | rt v D2 =>
        rw [e2, evS_rt] at q'
        dsimp only
        rw [evS_rt]
        exact q'
      | _ =>
        rw [e2] at q'
        unfold EvS at q'
        exact q'.elim
/-- a comprehension: L the place of its list -/
theorem lc_ok {wk : Wk} {g : GM} {t : BM} {e : EM} {ρ : Rho} {vs : List Nat} {L : Nat} {P : MV → Sto → Prop} (I : Nat → List MV → Sto → Prop) :
    ∀ (k i : Nat) (acc : List MV) (D : Sto), D[L]? = some (.lst acc) → I i acc D → (∀ j acc D, i ≤ j → j < i + k → D[L]? = some (.lst acc) → I j acc D → wk.chk D = true ∧ ∃ v D1 ρ1, wk.item j D = some (v, D1) ∧ g v (wipeM ρ vs) D1 = some ρ1 ∧ wipeM ρ1 vs = wipeM ρ vs ∧
        Ev (t ρ1 D1) fun c D2 => if c = true then Ev (e ρ1 D2) fun y D3 => D3[L]? = some (.lst acc) ∧ acc.length < sizeLine ∧ I (j + 1) (acc ++ [y]) (D3.set L (.lst (acc ++ [y]))) else D2[L]? = some (.lst acc) ∧ I (j + 1) acc D2) →
      (∀ acc D, D[L]? = some (.lst acc) → I (i + k) acc D → wk.chk D = true ∧ P (.ref L) D) → Ev (lcGo wk g t e ρ vs L k i D) P
  | 0, i, acc, D, hl, h, _, hn => by
    obtain ⟨h1, h2⟩ := hn acc D hl h
    unfold lcGo
    rw [h1, if_pos rfl, ev_ok]
    exact h2
  | k + 1, i, acc, D, hl, h, hs, hn => by
    obtain ⟨h1, v, D1, ρ1, h2, h3, h4, h5⟩ := hs i acc D (Nat.le_refl _) (by omega) hl h
    unfold lcGo
    rw [h1, if_pos rfl, h2]
    dsimp only
    rw [h3]
    dsimp only
    rw [if_pos h4]
    obtain ⟨c, D2, e1, q⟩ := h5.get
    rw [e1]
    have hs' : ∀ j acc D, i + 1 ≤ j → j < i + 1 + k → D[L]? = some (.lst acc) → I j acc D → _ := fun j acc D a b => hs j acc D (by omega) (by omega)
    have hn' : ∀ acc D, D[L]? = some (.lst acc) → I (i + 1 + k) acc D → _ := fun acc D a b => hn acc D a (by rw [show i + (k + 1) = i + 1 + k by omega]; exact b)
    cases c with
    | false => exact lc_ok I k (i + 1) acc D2 q.1 q.2 hs' hn'
    | true =>
      obtain ⟨y, D3, e2, g1, g2, g3⟩ := (show Ev (e ρ1 D2) _ from q).get
      dsimp only
      rw [e2]
      dsimp only
      rw [g1]
      dsimp only
      rw [if_pos g2]
      refine lc_ok I k (i + 1) (acc ++ [y]) _ ?_ g3 hs' hn'
      rw [List.getElem?_set_self (List.getElem?_eq_some_iff.mp g1).1]
end Mp

set_option Elab.async false
set_option linter.all false
set_option maxRecDepth 100000
namespace Mp
open PySem L2

/-! ### the source of the drawn numbers -/
def b_pick : SM :=
  sSeq (sWhile (bAnd (bTest (eOp pGt (eVar 1) (eC (.int 1)))) (bAnd (bTest (eOp pLt (eOp pIx (eVar 0) (eC (.str "left"))) (eC (.int 2)))) (bTest (eOp pGt (eCall (f1 lenM) (aCons (eOp pIx (eVar 0) (eC (.str "cells"))) (aNil))) (eC (.int 0)))))) (sDPutM (eVar 0) (eC (.str "left")) (eBm0 mPop (eOp pIx (eVar 0) (eC (.str "cells"))))))
  (sSeq (sSet 2 (eOp pIx (eVar 0) (eC (.str "left"))))
  (sSeq (sIf (bOr (bTest (eOp pLt (eVar 1) (eC (.int 2)))) (bTest (eOp pGt (eVar 2) (eC (.int 1))))) (sSeq (sDPutM (eVar 0) (eC (.str "left")) (eOp pFdiv (eVar 2) (eCall (f2 max2M) (aCons (eC (.int 1)) (aCons (eVar 1) (aNil))))))
  (sRet (eOp pMod (eCall (f1 intM) (aCons (eVar 2) (aNil))) (eCall (f2 max2M) (aCons (eC (.int 1)) (aCons (eVar 1) (aNil))))))) (sNext))
  (sSeq (sDPutM (eVar 0) (eC (.str "turn")) (eOp pAdd (eOp pIx (eVar 0) (eC (.str "turn"))) (eC (.int 1))))
  (sSeq (sSet 3 (eOp pMod (eCall (f1 intM) (aCons (eOp pAdd (eOp pIx (eVar 0) (eC (.str "mixed"))) (eOp pMul (eOp pIx (eVar 0) (eC (.str "turn"))) (eC (.int 104729)))) (aNil))) (eC (.int 998244353))))
  (sSeq (sSet 3 (eOp pMod (eCall (f1 intM) (aCons (eOp pAdd (eOp pMul (eVar 3) (eVar 3)) (eOp pMul (eOp pIx (eVar 0) (eC (.str "turn"))) (eC (.int 17)))) (aNil))) (eC (.int 2147483647))))
  (sSeq (sDPutM (eVar 0) (eC (.str "mixed")) (eVar 3))
  (sRet (eOp pMod (eCall (f1 intM) (aCons (eOp pFdiv (eVar 3) (eC (.int 16))) (aNil))) (eVar 1)))))))))
def d_pick : List MV → Sto → Re MV := runB 4 b_pick
def srcD (c : Nat) (l m t : Int) : List (Key × MV) := [(Sum.inr "cells", .ref c), (Sum.inr "left", .int l), (Sum.inr "mixed", .int m), (Sum.inr "turn", .int t)]
structure SrcAt (D : Sto) (s c : Nat) (cells : List Int) (l m t : Int) : Prop where
  ne : s ≠ c
  dic : D[s]? = some (.dic (srcD c l m t))
  lst : D[c]? = some (.lst (cells.map MV.int))
def SrcOk (D : Sto) (s c : Nat) : Prop := ∃ cells l m t, SrcAt D s c cells l m t ∧ cells.length ≤ 63
/-- nothing but the source is changed, nothing is new -/
structure Only2 (s c : Nat) (D D' : Sto) : Prop where
  len : D'.length = D.length
  get : ∀ i, i ≠ s → i ≠ c → D'[i]? = D[i]?
theorem Only2.refl (s c : Nat) (D : Sto) : Only2 s c D D := ⟨rfl, fun _ _ _ => rfl⟩
theorem Only2.trans {s c : Nat} {D D1 D2 : Sto} (h : Only2 s c D D1) (g : Only2 s c D1 D2) : Only2 s c D D2 := ⟨g.len.trans h.len, fun i a b => (g.get i a b).trans (h.get i a b)⟩
theorem Only2.set1 {s c : Nat} {D : Sto} {o : Ob} : Only2 s c D (D.set s o) := ⟨List.length_set, fun i a _ => List.getElem?_set_ne (Ne.symm a)⟩
theorem Only2.set2 {s c : Nat} {D : Sto} {o : Ob} : Only2 s c D (D.set c o) := ⟨List.length_set, fun i _ b => List.getElem?_set_ne (Ne.symm b)⟩
theorem look_left {c : Nat} {l m t : Int} : lookM (srcD c l m t) (Sum.inr "left") = some (.int l) := by rfl
theorem look_cells {c : Nat} {l m t : Int} : lookM (srcD c l m t) (Sum.inr "cells") = some (.ref c) := by rfl
theorem look_mixed {c : Nat} {l m t : Int} : lookM (srcD c l m t) (Sum.inr "mixed") = some (.int m) := by rfl
theorem look_turn {c : Nat} {l m t : Int} : lookM (srcD c l m t) (Sum.inr "turn") = some (.int t) := by rfl
theorem put_left {c : Nat} {l m t j : Int} : putM (srcD c l m t) (Sum.inr "left") (.int j) = srcD c j m t := by rfl
theorem put_mixed {c : Nat} {l m t j : Int} : putM (srcD c l m t) (Sum.inr "mixed") (.int j) = srcD c l j t := by rfl
theorem put_turn {c : Nat} {l m t j : Int} : putM (srcD c l m t) (Sum.inr "turn") (.int j) = srcD c l m j := by rfl
section
variable {D : Sto} {s c : Nat} {cells : List Int} {l m t : Int}
theorem SrcAt.setD (h : SrcAt D s c cells l m t) {l' m' t' : Int} : SrcAt (D.set s (.dic (srcD c l' m' t'))) s c cells l' m' t' :=
  ⟨h.ne, List.getElem?_set_self (List.getElem?_eq_some_iff.mp h.dic).1, by rw [List.getElem?_set_ne h.ne]; exact h.lst⟩
theorem SrcAt.setC (h : SrcAt D s c cells l m t) {cs : List Int} : SrcAt (D.set c (.lst (cs.map MV.int))) s c cs l m t :=
  ⟨h.ne, by rw [List.getElem?_set_ne (Ne.symm h.ne)]; exact h.dic, List.getElem?_set_self (List.getElem?_eq_some_iff.mp h.lst).1⟩
theorem srcD_len : (srcD c l m t).length < sizeLine := by rw [sizeLine_eq]; exact (by decide : 4 < 16777216)
theorem put_src (h : SrcAt D s c cells l m t) {x : Str} {v : MV} : dPut D (.ref s) (.str x) v = some (D.set s (.dic (putM (srcD c l m t) (Sum.inr x) v))) := by
  unfold dPut
  simp only [h.dic, keyOf, Option.bind_some]
  rw [if_pos srcD_len]
theorem ev_left (h : SrcAt D s c cells l m t) {P : MV → Sto → Prop} : Ev (pIx (.ref s) (.str "left") D) P = P (.int l) D := ev_ixd h.dic look_left
theorem ev_cells (h : SrcAt D s c cells l m t) {P : MV → Sto → Prop} : Ev (pIx (.ref s) (.str "cells") D) P = P (.ref c) D := ev_ixd h.dic look_cells
theorem ev_mixed (h : SrcAt D s c cells l m t) {P : MV → Sto → Prop} : Ev (pIx (.ref s) (.str "mixed") D) P = P (.int m) D := ev_ixd h.dic look_mixed
theorem ev_turn (h : SrcAt D s c cells l m t) {P : MV → Sto → Prop} : Ev (pIx (.ref s) (.str "turn") D) P = P (.int t) D := ev_ixd h.dic look_turn
theorem ev_v0 {a : MV} {r : Rho} {P : MV → Sto → Prop} : Ev (eVar 0 (some a :: r) D) P = P a D := ev_var rfl
theorem ev_v1 {a : Option MV} {b : MV} {r : Rho} {P : MV → Sto → Prop} : Ev (eVar 1 (a :: some b :: r) D) P = P b D := ev_var rfl
theorem ev_v2 {a b : Option MV} {d : MV} {r : Rho} {P : MV → Sto → Prop} : Ev (eVar 2 (a :: b :: some d :: r) D) P = P d D := ev_var rfl
theorem ev_v3 {a b d : Option MV} {e : MV} {r : Rho} {P : MV → Sto → Prop} : Ev (eVar 3 (a :: b :: d :: some e :: r) D) P = P e D := ev_var rfl
theorem ev_lenL {j : Nat} {xs : List MV} {P : MV → Sto → Prop} (h : D[j]? = some (.lst xs)) : Ev (f1 lenM [.ref j] D) P = P (.int xs.length) D := by
  rw [ev_f1]
  unfold lenM
  simp [h]
theorem ev_popL {j : Nat} {xs : List MV} {y : MV} {P : MV → Sto → Prop} (h : D[j]? = some (.lst (xs ++ [y]))) : Ev (mPop (.ref j) D) P = P y (D.set j (.lst xs)) := by
  unfold mPop
  simp [h, Ev]
theorem fmod_lt {a b : Int} (h : 0 < b) : 0 ≤ a.fmod b ∧ a.fmod b < b := ⟨Int.fmod_nonneg_of_pos a h, Int.fmod_lt_of_pos a h⟩
end
/-- a drawn number below many -/
theorem pick_ok {D : Sto} {s c : Nat} {many : Int} {P : MV → Sto → Prop} (h : SrcOk D s c) (h1 : 1 ≤ many) (h2 : many < 1073741824)
    (k : ∀ (r : Nat) D', (r : Int) < many → SrcOk D' s c → Only2 s c D D' → P (.int r) D') : Ev (d_pick [.ref s, .int many] D) P := by
  refine ev_run ?_
  show EvS (b_pick [some (.ref s), some (.int many), none, none] D) _ _
  unfold b_pick
  rw [evS_seq]
  unfold sWhile
  obtain ⟨cells, l, m, t, sa, hz⟩ := h
  refine wh_ok (fun n ρ D' => ρ = [some (.ref s), some (.int many), none, none] ∧ Only2 s c D D' ∧ ∃ cells l m t, SrcAt D' s c cells l m t ∧ cells.length = n ∧ n ≤ 63) ?_ fuel cells.length _ _ (by unfold fuel; omega) ⟨rfl, Only2.refl _ _ _, cells, l, m, t, sa, rfl, hz⟩
  rintro n ρ D' ⟨rfl, o, cells, l, m, t, sa, hn, hz⟩
  have after : ∀ (cells : List Int) (l m t : Int) (D' : Sto), SrcAt D' s c cells l m t → cells.length ≤ 63 → Only2 s c D D' → EvS ((sSeq (sSet 2 (eOp pIx (eVar 0) (eC (.str "left"))))
      (sSeq (sIf (bOr (bTest (eOp pLt (eVar 1) (eC (.int 2)))) (bTest (eOp pGt (eVar 2) (eC (.int 1))))) (sSeq (sDPutM (eVar 0) (eC (.str "left")) (eOp pFdiv (eVar 2) (eCall (f2 max2M) (aCons (eC (.int 1)) (aCons (eVar 1) (aNil))))))
      (sRet (eOp pMod (eCall (f1 intM) (aCons (eVar 2) (aNil))) (eCall (f2 max2M) (aCons (eC (.int 1)) (aCons (eVar 1) (aNil))))))) (sNext))
      (sSeq (sDPutM (eVar 0) (eC (.str "turn")) (eOp pAdd (eOp pIx (eVar 0) (eC (.str "turn"))) (eC (.int 1))))
      (sSeq (sSet 3 (eOp pMod (eCall (f1 intM) (aCons (eOp pAdd (eOp pIx (eVar 0) (eC (.str "mixed"))) (eOp pMul (eOp pIx (eVar 0) (eC (.str "turn"))) (eC (.int 104729)))) (aNil))) (eC (.int 998244353))))
      (sSeq (sSet 3 (eOp pMod (eCall (f1 intM) (aCons (eOp pAdd (eOp pMul (eVar 3) (eVar 3)) (eOp pMul (eOp pIx (eVar 0) (eC (.str "turn"))) (eC (.int 17)))) (aNil))) (eC (.int 2147483647))))
      (sSeq (sDPutM (eVar 0) (eC (.str "mixed")) (eVar 3))
      (sRet (eOp pMod (eCall (f1 intM) (aCons (eOp pFdiv (eVar 3) (eC (.int 16))) (aNil))) (eVar 1))))))))) [some (.ref s), some (.int many), none, none] D') (fun _ D' => P .non D') P := by
    intro cells l m t D' sa hz o
    have hmax : max2M (.int 1) (.int many) D' = some (.int many) := by
      unfold max2M
      by_cases q : many > 1
      · simp [q]
      · have : many = 1 := by omega
        subst this
        rfl
    have hne : many ≠ 0 := by omega
    have hab : many.natAbs < 1073741824 := by omega
    rw [evS_seq, evS_set, ev_op, ev_v0, ev_c, ev_left sa]
    show EvS (sSeq _ _ [some (.ref s), some (.int many), some (.int l), none] D') _ _
    rw [evS_seq, evS_if, ev_or, ev_test, ev_op, ev_v1, ev_c, ev_lt, ev_bl]
    have yes : ∀ N : Rho → Sto → Prop, EvS (sSeq (sDPutM (eVar 0) (eC (.str "left")) (eOp pFdiv (eVar 2) (eCall (f2 max2M) (aCons (eC (.int 1)) (aCons (eVar 1) (aNil))))))
        (sRet (eOp pMod (eCall (f1 intM) (aCons (eVar 2) (aNil))) (eCall (f2 max2M) (aCons (eC (.int 1)) (aCons (eVar 1) (aNil)))))) [some (.ref s), some (.int many), some (.int l), none] D') N P := by
      intro N
      rw [evS_seq, evS_dput, ev_op, ev_v2, ev_call, ev_cons, ev_c, ev_cons, ev_v1, ev_nil, ev_f2]
      refine ⟨_, hmax, ?_⟩
      rw [ev_fdiv hne hab, ev_v0, ev_c]
      refine ⟨_, put_src sa, ?_⟩
      rw [put_left, evS_ret, ev_op, ev_call, ev_cons, ev_v2, ev_nil, ev_f1]
      refine ⟨.int l, rfl, ?_⟩
      rw [ev_call, ev_cons, ev_c, ev_cons, ev_v1, ev_nil, ev_f2]
      refine ⟨.int many, hmax, ?_⟩
      rw [ev_mod hne]
      obtain ⟨f1, f2⟩ := fmod_lt (a := l) (b := many) (by omega)
      obtain ⟨r, hr⟩ := Int.eq_ofNat_of_zero_le f1
      rw [hr]
      exact k r _ (by omega) ⟨cells, _, m, t, sa.setD, hz⟩ (o.trans Only2.set1)
    by_cases q : many < 2
    · rw [decide_eq_true q, if_pos rfl, if_pos rfl]
      exact yes _
    · rw [decide_eq_false q, if_neg (by decide), ev_test, ev_op, ev_v2, ev_c, ev_gt, ev_bl]
      by_cases q2 : 1 < l
      · rw [decide_eq_true q2, if_pos rfl]
        exact yes _
      · rw [decide_eq_false q2, if_neg (by decide), evS_next, evS_seq, evS_dput, ev_op, ev_op, ev_v0, ev_c, ev_turn sa, ev_c, ev_add, ev_v0, ev_c]
        refine ⟨_, put_src sa, ?_⟩
        rw [put_turn]
        have sb : SrcAt (D'.set s (.dic (srcD c l m (t + 1)))) s c cells l m (t + 1) := sa.setD
        have ob : Only2 s c D (D'.set s (.dic (srcD c l m (t + 1)))) := o.trans Only2.set1
        generalize D'.set s (.dic (srcD c l m (t + 1))) = D2 at sb ob
        rw [evS_seq, evS_set, ev_op, ev_call, ev_cons, ev_op, ev_op, ev_v0, ev_c, ev_mixed sb, ev_op, ev_op, ev_v0, ev_c, ev_turn sb, ev_c, ev_mulR (by decide), ev_add, ev_nil, ev_f1]
        refine ⟨_, rfl, ?_⟩
        rw [ev_c, ev_mod (by decide)]
        obtain ⟨f1, f2⟩ := fmod_lt (a := m + (t + 1) * 104729) (b := 998244353) (by decide)
        generalize (m + (t + 1) * 104729).fmod 998244353 = z at f1 f2
        show EvS (sSeq _ _ [some (.ref s), some (.int many), some (.int l), some (.int z)] D2) _ _
        rw [evS_seq, evS_set, ev_op, ev_call, ev_cons, ev_op, ev_op, ev_v3, ev_v3, ev_mulL (by unfold smallI; exact decide_eq_true ⟨by omega, by omega⟩), ev_op, ev_op, ev_v0, ev_c, ev_turn sb, ev_c, ev_mulR (by decide), ev_add, ev_nil, ev_f1]
        refine ⟨_, rfl, ?_⟩
        rw [ev_c, ev_mod (by decide)]
        generalize (z * z + (t + 1) * 17).fmod 2147483647 = y
        show EvS (sSeq _ _ [some (.ref s), some (.int many), some (.int l), some (.int y)] D2) _ _
        rw [evS_seq, evS_dput, ev_v3, ev_v0, ev_c]
        refine ⟨_, put_src sb, ?_⟩
        rw [put_mixed, evS_ret, ev_op, ev_call, ev_cons, ev_op, ev_v3, ev_c, ev_fdiv (by decide) (by decide), ev_nil, ev_f1]
        refine ⟨_, rfl, ?_⟩
        rw [ev_v1, ev_mod hne]
        obtain ⟨f3, f4⟩ := fmod_lt (a := y.fdiv 16) (b := many) (by omega)
        obtain ⟨r, hr⟩ := Int.eq_ofNat_of_zero_le f3
        rw [hr]
        exact k r _ (by omega) ⟨cells, l, y, t + 1, sb.setD, hz⟩ (ob.trans Only2.set1)
  rw [ev_and, ev_test, ev_op, ev_v1, ev_c, ev_gt, ev_bl]
  by_cases q : 1 < many
  · rw [decide_eq_true q, if_pos rfl, ev_and, ev_test, ev_op, ev_op, ev_v0, ev_c, ev_left sa, ev_c, ev_lt, ev_bl]
    by_cases q2 : l < 2
    · rw [decide_eq_true q2, if_pos rfl, ev_test, ev_op, ev_call, ev_cons, ev_op, ev_v0, ev_c, ev_cells sa, ev_nil, ev_lenL sa.lst, ev_c, ev_gt, ev_bl]
      by_cases q3 : 0 < cells.length
      · have e : decide ((0 : Int) < ((cells.map MV.int).length : Nat)) = true := by
          rw [List.length_map]
          exact decide_eq_true (by omega)
        rw [e, if_pos rfl, evS_dput]
        obtain ⟨cs, x, rfl⟩ : ∃ cs x, cells = cs ++ [x] := ⟨cells.dropLast, cells.getLast (by intro z; rw [z] at q3; simp at q3), (List.dropLast_concat_getLast _).symm⟩
        have hl := sa.lst
        rw [List.map_append, List.map_cons, List.map_nil] at hl
        have sb : SrcAt (D'.set c (.lst (cs.map MV.int))) s c cs l m t := sa.setC
        show Ev (eBm0 mPop (eOp pIx (eVar 0) (eC (.str "cells"))) [some (.ref s), some (.int many), none, none] D') _
        unfold eBm0
        rw [ev_bind, ev_op, ev_v0, ev_c, ev_cells sa, ev_popL hl, ev_v0, ev_c]
        refine ⟨_, put_src sb, cs.length, ?_, rfl, ?_, cs, x, m, t, ?_, rfl, ?_⟩
        · rw [← hn]; simp
        · exact (o.trans Only2.set2).trans Only2.set1
        · rw [put_left]; exact sb.setD
        · simp at hn; omega
      · have e : decide ((0 : Int) < ((cells.map MV.int).length : Nat)) = false := by
          rw [List.length_map]
          exact decide_eq_false (by omega)
        rw [e, if_neg (by decide)]
        exact after cells l m t D' sa (by omega) o
    · rw [decide_eq_false q2, if_neg (by decide), if_neg (by decide)]
      exact after cells l m t D' sa (by omega) o
  · rw [decide_eq_false q, if_neg (by decide), if_neg (by decide)]
    exact after cells l m t D' sa (by omega) o
end Mp

set_option Elab.async false
set_option linter.all false
set_option maxRecDepth 100000
namespace Mp
open PySem L2

/-! ### the store grows, the source may change -/
structure Grow (s c : Nat) (D D' : Sto) : Prop where
  le : D.length ≤ D'.length
  get : ∀ i, i < D.length → i ≠ s → i ≠ c → D'[i]? = D[i]?
section
variable {s c : Nat} {D D1 D2 : Sto} {o : Ob}
theorem Grow.refl (s c : Nat) (D : Sto) : Grow s c D D := ⟨Nat.le_refl _, fun _ _ _ _ => rfl⟩
theorem Grow.trans (h : Grow s c D D1) (g : Grow s c D1 D2) : Grow s c D D2 := ⟨Nat.le_trans h.le g.le, fun i a b d => (g.get i (Nat.lt_of_lt_of_le a h.le) b d).trans (h.get i a b d)⟩
theorem Only2.grow (h : Only2 s c D D1) : Grow s c D D1 := ⟨by rw [h.len]; exact Nat.le_refl _, fun i _ a b => h.get i a b⟩
theorem Grow.snoc : Grow s c D (D ++ [o]) := ⟨by simp, fun i a _ _ => List.getElem?_append_left a⟩
theorem Grow.at (h : Grow s c D D1) {i : Nat} {o : Ob} (e : D[i]? = some o) (a : i ≠ s) (b : i ≠ c) : D1[i]? = some o := by
  rw [h.get i (List.getElem?_eq_some_iff.mp e).1 a b]
  exact e
theorem SrcOk.lt (h : SrcOk D s c) : s < D.length ∧ c < D.length := by
  obtain ⟨_, _, _, _, a, _⟩ := h
  exact ⟨(List.getElem?_eq_some_iff.mp a.dic).1, (List.getElem?_eq_some_iff.mp a.lst).1⟩
theorem SrcOk.ne (h : SrcOk D s c) : s ≠ c := by
  obtain ⟨_, _, _, _, a, _⟩ := h
  exact a.ne
theorem SrcOk.new (h : SrcOk D s c) : SrcOk (D ++ [o]) s c := by
  obtain ⟨h1, h2⟩ := h.lt
  obtain ⟨cells, l, m, t, a, z⟩ := h
  exact ⟨cells, l, m, t, ⟨a.ne, by rw [List.getElem?_append_left h1]; exact a.dic, by rw [List.getElem?_append_left h2]; exact a.lst⟩, z⟩
theorem SrcOk.set (h : SrcOk D s c) {i : Nat} (a : i ≠ s) (b : i ≠ c) : SrcOk (D.set i o) s c := by
  obtain ⟨cells, l, m, t, q, z⟩ := h
  exact ⟨cells, l, m, t, ⟨q.ne, by rw [List.getElem?_set_ne a]; exact q.dic, by rw [List.getElem?_set_ne b]; exact q.lst⟩, z⟩
theorem new_ne (h : SrcOk D s c) : D.length ≠ s ∧ D.length ≠ c := by
  obtain ⟨h1, h2⟩ := h.lt
  exact ⟨by omega, by omega⟩
theorem get_new : (D ++ [o])[D.length]? = some o := by simp
theorem get_old {i : Nat} {u : Ob} (e : D[i]? = some u) : (D ++ [o])[i]? = some u := by
  rw [List.getElem?_append_left (List.getElem?_eq_some_iff.mp e).1]
  exact e
/-- a new thing that is changed later -/
theorem Grow.setNew (h : Grow s c D D1) {i : Nat} (hi : D.length ≤ i) : Grow s c D (D1.set i o) := ⟨by rw [List.length_set]; exact h.le, fun j a b d => by rw [List.getElem?_set_ne (by omega)]; exact h.get j a b d⟩
end
theorem sz_lt {n : Nat} (h : n < 16777216) : n < sizeLine := by rw [sizeLine_eq]; exact h
theorem sz_le {n : Nat} (h : n ≤ 16777216) : n ≤ sizeLine := by rw [sizeLine_eq]; exact h
theorem ixN_of {n r : Nat} (h : r < n) : ixN n (r : Int) = some r := by
  unfold ixN
  rw [if_pos (by omega), if_pos (by omega), Int.toNat_natCast]
theorem ev_ixL {D : Sto} {j r : Nat} {xs : List MV} {v : MV} {P : MV → Sto → Prop} (h : D[j]? = some (.lst xs)) (e : xs[r]? = some v) : Ev (pIx (.ref j) (.int (r : Nat)) D) P = P v D := by
  unfold pIx ixAt
  have hr := (List.getElem?_eq_some_iff.mp e).1
  simp [h, atI, ixN_of hr, e, ok?, Ev]
theorem ev_ixT {D : Sto} {j r : Nat} {xs : List MV} {v : MV} {P : MV → Sto → Prop} (h : D[j]? = some (.tup xs)) (e : xs[r]? = some v) : Ev (pIx (.ref j) (.int (r : Nat)) D) P = P v D := by
  unfold pIx ixAt
  have hr := (List.getElem?_eq_some_iff.mp e).1
  simp [h, atI, ixN_of hr, e, ok?, Ev]

/-! ### one of a list -/
def b_of : SM :=
  sRet (eOp pIx (eVar 1) (eCall d_pick (aCons (eVar 0) (aCons (eCall (f1 lenM) (aCons (eVar 1) (aNil))) (aNil)))))
def d_of : List MV → Sto → Re MV := runB 2 b_of
theorem of_ok {D : Sto} {s c j : Nat} {xs : List MV} {P : MV → Sto → Prop} (h : SrcOk D s c) (hj : D[j]? = some (.lst xs)) (js : j ≠ s) (jc : j ≠ c) (h1 : 1 ≤ xs.length) (h2 : xs.length < 1073741824)
    (k : ∀ v D', v ∈ xs → SrcOk D' s c → Only2 s c D D' → P v D') : Ev (d_of [.ref s, .ref j] D) P := by
  refine ev_run ?_
  show EvS (b_of [some (.ref s), some (.ref j)] D) _ _
  unfold b_of
  rw [evS_ret, ev_op, ev_v1, ev_call, ev_cons, ev_v0, ev_cons, ev_call, ev_cons, ev_v1, ev_nil, ev_lenL hj, ev_nil]
  refine pick_ok h (by omega) (by omega) fun r D' hr sk o => ?_
  have hr' : r < xs.length := by omega
  have e : xs[r]? = some xs[r] := by simp [hr']
  rw [ev_ixL (by rw [o.get j js jc]; exact hj) e]
  exact k _ D' (List.getElem_mem hr') sk o

/-! ### a list in a drawn order -/
def b_mixed : SM :=
  sSeq (sSet 2 (eCall bList (aCons (eVar 1) (aNil))))
  (sRet (eLc (wRng1 (eCall (f1 lenM) (aCons (eVar 2) (aNil)))) (gN 3) (bYes) (eBm mPopAt (eVar 2) (aCons (eCall d_pick (aCons (eVar 0) (aCons (eCall (f1 lenM) (aCons (eVar 2) (aNil))) (aNil)))) (aNil))) [3]))
def d_mixed : List MV → Sto → Re MV := runB 4 b_mixed
theorem seqIx_of {n r : Nat} (h : r < n) : seqIndex? (r : Int) n = some r := (ixN_seq (ixN_of h)).1
theorem perm_erase {α : Type} : ∀ (xs : List α) (r : Nat) (h : r < xs.length), (xs[r] :: xs.eraseIdx r).Perm xs
  | [], r, h => absurd h (Nat.not_lt_zero _)
  | x :: xs, 0, h => List.Perm.refl _
  | x :: xs, r + 1, h => (List.Perm.swap x _ _).trans ((perm_erase xs r (by simpa using h)).cons x)
theorem mixed_ok {D : Sto} {s c j : Nat} {xs : List MV} {P : MV → Sto → Prop} (h : SrcOk D s c) (hj : D[j]? = some (.lst xs)) (js : j ≠ s) (jc : j ≠ c) (h2 : xs.length < 1000000)
    (k : ∀ (L : Nat) ys D', D.length ≤ L → ys.Perm xs → D'[L]? = some (.lst ys) → SrcOk D' s c → Grow s c D D' → P (.ref L) D') : Ev (d_mixed [.ref s, .ref j] D) P := by
  refine ev_run ?_
  show EvS (b_mixed [some (.ref s), some (.ref j), none, none] D) _ _
  unfold b_mixed
  have hl : rdL D j = some xs := by unfold rdL; rw [hj]
  rw [evS_seq, evS_set, ev_call, ev_cons, ev_v1, ev_nil]
  have e1 : bList [.ref j] D = .ok (.ref D.length) (D ++ [.lst xs]) := by unfold bList new; simp [hl]
  rw [e1, ev_ok]
  show EvS (sRet _ [some (.ref s), some (.ref j), some (.ref D.length), none] (D ++ [.lst xs])) _ _
  obtain ⟨n1, n2⟩ := new_ne h
  have hs := h.new (o := .lst xs)
  have gr : Grow s c D (D ++ [Ob.lst xs]) := Grow.snoc
  have e2 : (D ++ [Ob.lst xs])[D.length]? = some (.lst xs) := get_new
  have hlen : (D ++ [Ob.lst xs]).length = D.length + 1 := by simp
  generalize (D ++ [Ob.lst xs]) = D1 at hs gr e2 hlen
  rw [evS_ret]
  unfold eLc wRng1
  rw [ev_bind, ev_bind, ev_call, ev_cons, ev_v2, ev_nil, ev_lenL e2]
  dsimp only
  rw [if_pos ⟨by omega, by omega⟩, ev_ok]
  dsimp only
  have ns : D1.length ≠ s ∧ D1.length ≠ c := new_ne hs
  refine lc_ok (fun i acc D' => acc.length = i ∧ ∃ rest, D'[D.length]? = some (.lst rest) ∧ (acc ++ rest).Perm xs ∧ SrcOk D' s c ∧ Grow s c D D' ∧ D1.length < D'.length) _ 0 [] _ get_new ⟨rfl, xs, get_old e2, by simp, hs.new, gr.trans Grow.snoc, by simp⟩ ?_ ?_
  · rintro i acc D' hi1 hi2 hL ⟨ha, rest, hr, hp, hk, hg, hll⟩
    have hpl := hp.length_eq
    rw [List.length_append] at hpl
    have hrest : 1 ≤ rest.length := by
      have : (0 : Int) + ((xs.length : Int)).toNat = xs.length := by omega
      omega
    refine ⟨rfl, _, _, _, rfl, rfl, rfl, ?_⟩
    unfold bYes
    rw [ev_ok, if_pos rfl]
    show Ev (eBm mPopAt (eVar 2) (aCons (eCall d_pick (aCons (eVar 0) (aCons (eCall (f1 lenM) (aCons (eVar 2) aNil)) aNil))) aNil) [some (.ref s), some (.ref j), some (.ref D.length), some _] D') _
    unfold eBm
    have ht : eBm.tyM D' (.ref D.length) = true := by unfold eBm.tyM; simp [hr]
    rw [ev_bind, ev_v2, if_pos ht, ev_bind, ev_cons, ev_call, ev_cons, ev_v0, ev_cons, ev_call, ev_cons, ev_v2, ev_nil, ev_lenL hr, ev_nil]
    refine pick_ok hk (by omega) (by omega) fun r D2 hr2 sk o => ?_
    rw [ev_nil]
    have hr' : r < rest.length := by omega
    have g1 : D2[D.length]? = some (.lst rest) := by rw [o.get _ n1 n2]; exact hr
    have g2 : rest[r]? = some rest[r] := by simp [hr']
    have e3 : mPopAt (.ref D.length) [.int (r : Nat)] D2 = .ok rest[r] (D2.set D.length (.lst (rest.eraseIdx r))) := by
      unfold mPopAt
      simp only [g1]
      rw [if_pos ⟨by omega, by omega⟩, seqIx_of hr']
      dsimp only
      rw [g2]
    rw [e3, ev_ok]
    have hne : D.length ≠ D1.length := by omega
    refine ⟨by rw [List.getElem?_set_ne hne, o.get _ ns.1 ns.2]; exact hL, sz_lt (by omega), by simp [ha], rest.eraseIdx r, ?_, ?_, ?_, ?_, ?_⟩
    · rw [List.getElem?_set_ne (Ne.symm hne), List.getElem?_set_self (List.getElem?_eq_some_iff.mp g1).1]
    · refine List.Perm.trans ?_ hp
      rw [List.append_assoc]
      exact List.Perm.append_left acc (perm_erase rest r hr')
    · exact (sk.set n1 n2).set ns.1 ns.2
    · exact ((hg.trans o.grow).setNew (Nat.le_refl _)).setNew (by omega)
    · rw [List.length_set, List.length_set, o.len]; exact hll
  · rintro acc D' hL ⟨ha, rest, hr, hp, hk, hg, hll⟩
    have hpl := hp.length_eq
    rw [List.length_append] at hpl
    have : rest = [] := List.eq_nil_of_length_eq_zero (by omega)
    subst this
    rw [List.append_nil] at hp
    exact ⟨rfl, k D1.length acc D' (by omega) hp hL hk hg⟩
end Mp

set_option Elab.async false
set_option linter.all false
set_option maxRecDepth 10000
namespace Mp
open PySem L2

section
variable {ρ : Rho} {D : Sto} {N : Rho → Sto → Prop} {T : MV → Sto → Prop} {a b e : EM} {P : MV → Sto → Prop}
@[simp] theorem evS_par {i j : Nat} : EvS (sPar i j a b ρ D) N T = Ev (a ρ D) fun v D1 => Ev (b ρ D1) fun w D2 => N ((ρ.set i (some v)).set j (some w)) D2 := by unfold sPar; simp only [evS_lift, evS_nx]
@[simp] theorem evS_par3 {i j l : Nat} : EvS (sPar3 i j l a b e ρ D) N T = Ev (a ρ D) fun v D1 => Ev (b ρ D1) fun w D2 => Ev (e ρ D2) fun z D3 => N (((ρ.set i (some v)).set j (some w)).set l (some z)) D3 := by unfold sPar3; simp only [evS_lift, evS_nx]
theorem evS_for {w : WM} {g : GM} {body : SM} : EvS (sFor w g body ρ D) N T = Ev (w ρ D) fun wk D1 => EvS (forGo wk g body wk.n 0 ρ D1) N T := by unfold sFor; simp only [evS_lift]
theorem ev_rng1 {m : EM} {n : Nat} {R : Wk → Sto → Prop} (h : Ev (m ρ D) fun v D1 => v = .int n ∧ R ⟨n, fun _ => true, rngItem 0⟩ D1) (hn : n < 1000000) : Ev (wRng1 m ρ D) R := by
  unfold wRng1
  rw [ev_bind]
  refine h.imp fun v D1 ⟨e, q⟩ => ?_
  subst e
  dsimp only
  rw [if_pos ⟨by omega, by omega⟩, ev_ok]
  exact q
theorem ev_seqL {m : EM} {j : Nat} {xs : List MV} {R : Wk → Sto → Prop} (h : Ev (m ρ D) fun v D1 => v = .ref j ∧ rdL D1 j = some xs ∧ R ⟨xs.length, fun D => decide (rdL D j = some xs), seqItem xs⟩ D1) : Ev (wSeq m ρ D) R := by
  unfold wSeq
  rw [ev_bind]
  refine h.imp fun v D1 ⟨e, q1, q2⟩ => ?_
  subst e
  dsimp only
  rw [q1]
  dsimp only
  rw [ev_ok]
  exact q2
end

/-! ### words -/
/-- a letter, then two digits, then some k's -/
def Dig (w : Str) (d : Nat) : Prop := ∃ a t, w.cps.toList = a :: (48 + d / 10) :: (48 + d % 10) :: t ∧ 97 ≤ a ∧ a ≤ 122 ∧ (∀ x ∈ t, x = 107) ∧ t.length ≤ 9
theorem two_digits : ∀ d : Fin 100, cutS (Str.ofString (toString ((100 : Int) + (d.val : Int)))) (some 1) none = ⟨#[48 + d.val / 10, 48 + d.val % 10]⟩ := by decide +kernel
theorem letters : ∀ r : Fin 26, (atI ("abcdefghijklmnopqrstuvwxyz" : Str).cps.toList ((r.val : Nat) : Int)) = some (97 + r.val) := by decide +kernel

def b_names : SM :=
  sSeq (sPar3 2 3 4 (eCall d_pick (aCons (eVar 0) (aCons (eC (.int 100)) (aNil)))) (eLst (aNil)) (eLst (aCons (eC (.str "")) (aCons (eC (.str "")) (aCons (eC (.str "")) (aCons (eC (.str "k")) (aCons (eC (.str "kkkkkkkkk")) (aNil))))))))
  (sSeq (sFor (wRng1 (eVar 1)) (gN 5) (sSeq (sSet 6 (eOp pIx (eC (.str "abcdefghijklmnopqrstuvwxyz")) (eCall d_pick (aCons (eVar 0) (aCons (eC (.int 26)) (aNil))))))
  (sDrop (eBm mAppend (eVar 3) (aCons (eOp pAdd (eOp pAdd (eVar 6) (eSl (eCall (f1 strM) (aCons (eOp pAdd (eC (.int 100)) (eOp pMod (eCall (f1 intM) (aCons (eOp pAdd (eVar 2) (eOp pMul (eC (.int 37)) (eVar 5))) (aNil))) (eC (.int 100)))) (aNil))) (oSome (eC (.int 1))) (oNone))) (eOp pIx (eVar 4) (eCall d_pick (aCons (eVar 0) (aCons (eC (.int 5)) (aNil)))))) (aNil))))))
  (sRet (eVar 3)))
def d_names : List MV → Sto → Re MV := runB 7 b_names
section
variable {D : Sto} {P : MV → Sto → Prop}
theorem ev_alpha {r : Nat} (h : r < 26) : Ev (pIx (.str "abcdefghijklmnopqrstuvwxyz") (.int (r : Nat)) D) P = P (.str ⟨#[97 + r]⟩) D := by
  unfold pIx
  rw [ev_ok?]
  unfold ixAt
  have e := letters ⟨r, h⟩
  have hz : (("abcdefghijklmnopqrstuvwxyz" : Str)).length ≤ sizeLine := sz_le (by decide +kernel)
  simp [if_pos hz, e]
theorem ev_addS {x y : Str} (h : x.length + y.length ≤ sizeLine) : Ev (pAdd (.str x) (.str y) D) P = P (.str (x ++ y)) D := by unfold pAdd; simp [h]
theorem ev_appendL {j : Nat} {xs : List MV} {y : MV} (h : D[j]? = some (.lst xs)) (hz : xs.length < sizeLine) : Ev (mAppend (.ref j) [y] D) P = P .non (D.set j (.lst (xs ++ [y]))) := by
  unfold mAppend
  simp [h, hz]
theorem cat_list (x y : Str) : (x ++ y).cps.toList = x.cps.toList ++ y.cps.toList := by
  show (Str.append x y).cps.toList = _
  unfold Str.append
  simp
theorem tails_ok : ∀ r : Fin 5, ∃ t : Str, ([.str "", .str "", .str "", .str "k", .str "kkkkkkkkk"] : List MV)[r.val]? = some (.str t) ∧ (∀ x ∈ t.cps.toList, x = 107) ∧ t.cps.toList.length ≤ 9
  | ⟨0, _⟩ => ⟨"", rfl, by decide +kernel, by decide +kernel⟩
  | ⟨1, _⟩ => ⟨"", rfl, by decide +kernel, by decide +kernel⟩
  | ⟨2, _⟩ => ⟨"", rfl, by decide +kernel, by decide +kernel⟩
  | ⟨3, _⟩ => ⟨"k", rfl, by decide +kernel, by decide +kernel⟩
  | ⟨4, _⟩ => ⟨"kkkkkkkkk", rfl, by decide +kernel, by decide +kernel⟩
end
/-- what drawn names are -/
def Drawn (ws : List Str) (shift : Nat) : Prop := ∀ k w, ws[k]? = some w → Dig w ((shift + 37 * k) % 100)
theorem names_ok {D : Sto} {s c n : Nat} {P : MV → Sto → Prop} (h : SrcOk D s c) (hn : n ≤ 100)
    (k : ∀ (L : Nat) ws shift D', D.length ≤ L → D'[L]? = some (.lst (ws.map MV.str)) → ws.length = n → Drawn ws shift → SrcOk D' s c → Grow s c D D' → P (.ref L) D') : Ev (d_names [.ref s, .int n] D) P := by
  refine ev_run ?_
  show EvS (b_names [some (.ref s), some (.int n), none, none, none, none, none] D) _ _
  unfold b_names
  rw [evS_seq, evS_par3, ev_call, ev_cons, ev_v0, ev_cons, ev_c, ev_nil]
  refine pick_ok (many := 100) h (by omega) (by omega) fun shift D1 hsh sk o => ?_
  rw [ev_lst, ev_nil]
  refine ⟨sz_le (by simp), ?_⟩
  simp only [ev_lst, ev_cons, ev_c, ev_nil]
  refine ⟨sz_le (by simp), ?_⟩
  have n1 := (new_ne sk).1
  have n2 := (new_ne sk).2
  have sk2 := sk.new (o := Ob.lst [])
  have n3 := (new_ne sk2).1
  have n4 := (new_ne sk2).2
  have sk3 := sk2.new (o := Ob.lst [.str "", .str "", .str "", .str "k", .str "kkkkkkkkk"])
  have g0 : Grow s c D ((D1 ++ [Ob.lst []]) ++ [Ob.lst [.str "", .str "", .str "", .str "k", .str "kkkkkkkkk"]]) := (o.grow.trans Grow.snoc).trans Grow.snoc
  have e3 : ((D1 ++ [Ob.lst []]) ++ [Ob.lst [.str "", .str "", .str "", .str "k", .str "kkkkkkkkk"]])[D1.length]? = some (.lst []) := get_old get_new
  have e4 : ((D1 ++ [Ob.lst []]) ++ [Ob.lst [.str "", .str "", .str "", .str "k", .str "kkkkkkkkk"]])[D1.length + 1]? = some (.lst [.str "", .str "", .str "", .str "k", .str "kkkkkkkkk"]) := by
    rw [← show (D1 ++ [Ob.lst []]).length = D1.length + 1 by simp]
    exact get_new
  have hl1 : (D1 ++ [Ob.lst []]).length = D1.length + 1 := by simp
  have hge : D.length ≤ D1.length := by rw [o.len]; exact Nat.le_refl _
  rw [hl1] at n3 n4
  show EvS (sSeq _ _ [some (.ref s), some (.int n), some (.int shift), some (.ref D1.length), some (.ref ((D1 ++ [Ob.lst []]).length)), none, none] ((D1 ++ [Ob.lst []]) ++ [Ob.lst [.str "", .str "", .str "", .str "k", .str "kkkkkkkkk"]])) _ _
  rw [hl1]
  generalize ((D1 ++ [Ob.lst []]) ++ [Ob.lst [.str "", .str "", .str "", .str "k", .str "kkkkkkkkk"]]) = D2 at sk3 g0 e3 e4
  rw [evS_seq, evS_for]
  refine ev_rng1 (n := n) ?_ (by omega)
  rw [ev_v1]
  refine ⟨rfl, ?_⟩
  dsimp only
  refine for_ok (fun i ρ D' => (∃ x y, ρ = [some (.ref s), some (.int n), some (.int shift), some (.ref D1.length), some (.ref (D1.length + 1)), x, y]) ∧ SrcOk D' s c ∧ Grow s c D D' ∧ D'[D1.length + 1]? = some (.lst [.str "", .str "", .str "", .str "k", .str "kkkkkkkkk"]) ∧
      ∃ ws : List Str, D'[D1.length]? = some (.lst (ws.map MV.str)) ∧ ws.length = i ∧ Drawn ws shift) n 0 _ _ ⟨⟨none, none, rfl⟩, sk3, g0, e4, [], e3, rfl, fun k w e => by simp at e⟩ ?_ ?_
  · rintro i ρ D3 hi0 hi ⟨⟨x, y, rfl⟩, sk4, g4, f4, ws, f3, hw, hd⟩
    refine ⟨rfl, .int i, D3, [some (.ref s), some (.int n), some (.int shift), some (.ref D1.length), some (.ref (D1.length + 1)), some (.int i), y], ?_, rfl, ?_⟩
    · show some (MV.int ((0 : Int) + (i : Nat)), D3) = _
      rw [Int.zero_add]
    rw [evS_seq, evS_set, ev_op, ev_c, ev_call, ev_cons, ev_v0, ev_cons, ev_c, ev_nil]
    refine pick_ok (many := 26) sk4 (by omega) (by omega) fun r D4 hr sk5 o5 => ?_
    have hr' : r < 26 := by omega
    rw [ev_alpha hr']
    show EvS (sDrop _ [some (.ref s), some (.int n), some (.int shift), some (.ref D1.length), some (.ref (D1.length + 1)), some (.int i), some (.str ⟨#[97 + r]⟩)] D4) _ _
    have f3' : D4[D1.length]? = some (.lst (ws.map MV.str)) := by rw [o5.get _ n1 n2]; exact f3
    have f4' : D4[D1.length + 1]? = some (.lst [.str "", .str "", .str "", .str "k", .str "kkkkkkkkk"]) := by rw [o5.get _ n3 n4]; exact f4
    have ht : eBm.tyM D4 (.ref D1.length) = true := by unfold eBm.tyM; simp [f3']
    rw [evS_drop]
    unfold eBm
    rw [ev_bind, ev_v3, if_pos ht, ev_bind, ev_cons, ev_op, ev_op, ev_var (i := 6) rfl]
    unfold eSl
    rw [ev_bind, ev_call, ev_cons, ev_op, ev_c, ev_op, ev_call, ev_cons, ev_op, ev_v2, ev_op, ev_c, ev_var (i := 5) rfl, ev_mulL (by decide), ev_add, ev_nil, ev_f1]
    refine ⟨_, rfl, ?_⟩
    rw [ev_c, ev_mod (by decide), ev_add, ev_nil, ev_f1]
    have hm : (((shift : Nat) : Int) + 37 * ((i : Nat) : Int)).fmod 100 = (((shift + 37 * i) % 100 : Nat) : Int) := by
      rw [Int.fmod_eq_emod_of_nonneg _ (by decide)]
      omega
    rw [hm]
    have hd100 : (shift + 37 * i) % 100 < 100 := Nat.mod_lt _ (by decide)
    generalize hdd : (shift + 37 * i) % 100 = d at hd100
    have hstr : strM (.int ((100 : Int) + (d : Nat))) D4 = some (.str (Str.ofString (toString ((100 : Int) + (d : Nat))))) := by
      unfold strM
      have big : ((100 : Int) + (d : Nat)).natAbs.log2 < 1920 := by
        have : ∀ d : Fin 100, ((100 : Int) + (d.val : Int)).natAbs.log2 < 1920 := by decide +kernel
        exact this ⟨d, hd100⟩
      dsimp only
      rw [if_pos big]
    refine ⟨_, hstr, ?_⟩
    unfold oSome oNone
    rw [ev_bind, ev_bind, ev_c]
    unfold intOf
    rw [ev_ok, ev_bind, ev_ok]
    have hcut := two_digits ⟨d, hd100⟩
    have hlen : (Str.ofString (toString ((100 : Int) + (d : Nat)))).length ≤ sizeLine := by
      have : ∀ d : Fin 100, (Str.ofString (toString ((100 : Int) + (d.val : Int)))).length ≤ 3 := by decide +kernel
      exact Nat.le_trans (this ⟨d, hd100⟩) (sz_le (by omega))
    unfold pSl
    dsimp only
    rw [if_pos hlen, ev_ok, hcut]
    dsimp only
    rw [ev_addS (x := ⟨#[97 + r]⟩) (sz_le (by show 1 + 2 ≤ 16777216; omega))]
    rw [ev_op, ev_var (i := 4) rfl, ev_call, ev_cons, ev_v0, ev_cons, ev_c, ev_nil]
    refine pick_ok (many := 5) sk5 (by omega) (by omega) fun r2 D5 hr2 sk6 o6 => ?_
    have hr2' : r2 < 5 := by omega
    have f4'' : D5[D1.length + 1]? = some (.lst [.str "", .str "", .str "", .str "k", .str "kkkkkkkkk"]) := by rw [o6.get _ n3 n4]; exact f4'
    obtain ⟨t, ht1, ht2, ht3⟩ := tails_ok ⟨r2, hr2'⟩
    rw [ev_ixL f4'' ht1]
    have hsz : ((⟨#[97 + r]⟩ : Str) ++ (⟨#[48 + d / 10, 48 + d % 10]⟩ : Str)).length + t.length ≤ sizeLine := by
      have h1 : t.length = t.cps.toList.length := by show t.cps.size = _; simp
      have h2 : ((⟨#[97 + r]⟩ : Str) ++ (⟨#[48 + d / 10, 48 + d % 10]⟩ : Str)).length = 3 := by
        show (Str.append _ _).cps.size = 3
        unfold Str.append
        simp
      exact sz_le (by omega)
    rw [ev_addS hsz, ev_nil]
    have f3'' : D5[D1.length]? = some (.lst (ws.map MV.str)) := by rw [o6.get _ n1 n2]; exact f3'
    rw [ev_appendL f3'' (sz_lt (by rw [List.length_map]; omega))]
    refine ⟨⟨_, _, rfl⟩, sk6.set n1 n2, ((g4.trans o5.grow).trans o6.grow).setNew hge, ?_, ws ++ [(⟨#[97 + r]⟩ ++ ⟨#[48 + d / 10, 48 + d % 10]⟩) ++ t], ?_, by simp [hw], ?_⟩
    · rw [List.getElem?_set_ne (by omega)]
      exact f4''
    · rw [List.getElem?_set_self (List.getElem?_eq_some_iff.mp f3'').1, List.map_append]
      rfl
    · intro k w e
      by_cases hk : k < ws.length
      · rw [List.getElem?_append_left hk] at e
        exact hd k w e
      · rw [List.getElem?_append_right (by omega)] at e
        have hk2 := (List.getElem?_eq_some_iff.mp e).1
        simp at hk2
        have : k = i := by omega
        subst this
        rw [hw, Nat.sub_self] at e
        simp at e
        subst e
        rw [hdd]
        refine ⟨97 + r, t.cps.toList, ?_, by omega, by omega, ht2, ht3⟩
        rw [cat_list, cat_list]
        rfl
  · rintro ρ D3 ⟨⟨x, y, rfl⟩, sk4, g4, f4, ws, f3, hw, hd⟩
    refine ⟨rfl, ?_⟩
    rw [evS_ret, ev_v3]
    exact k D1.length ws shift D3 hge f3 (by omega) hd sk4 g4
end Mp

set_option Elab.async false
set_option linter.all false
set_option maxRecDepth 10000
namespace Mp
open PySem L2

section
variable {ρ : Rho} {D : Sto} {P : MV → Sto → Prop}
theorem ev_prs0 {R : List (MV × MV) → Sto → Prop} : Ev (prsM [] ρ D) R = R [] D := by unfold prsM; rw [ev_ok]
theorem ev_prs {a b : EM} {r : List (EM × EM)} {R : List (MV × MV) → Sto → Prop} : Ev (prsM ((a, b) :: r) ρ D) R = Ev (a ρ D) fun x D1 => Ev (b ρ D1) fun y D2 => Ev (prsM r ρ D2) fun ps D3 => R ((x, y) :: ps) D3 := by
  rw [show prsM ((a, b) :: r) ρ D = (a ρ D).bind fun x D1 => (b ρ D1).bind fun y D2 => (prsM r ρ D2).bind fun ps D3 => .ok ((x, y) :: ps) D3 from rfl]
  simp only [ev_bind, ev_ok]
theorem ev_disp {ms : List (EM × EM)} (h : Ev (prsM ms ρ (D ++ [.dic []])) fun ps D1 => D1[D.length]? = some (.dic []) ∧ ∃ kvs, keysM ps = some kvs ∧ kvs.length ≤ 15 ∧ P (.ref D.length) (D1.set D.length (.dic (kvs.foldl (fun acc kv => putM acc kv.1 kv.2) [])))) : Ev (eDisp ms ρ D) P := by
  unfold eDisp
  rw [ev_bind]
  refine h.imp fun ps D1 ⟨h1, kvs, h2, h3, h4⟩ => ?_
  rw [h1]
  dsimp only
  rw [h2]
  dsimp only
  rw [if_pos h3, ev_ok]
  exact h4
theorem ev_revL {j : Nat} {xs : List MV} (h : rdL D j = some xs) : Ev (pRevA (.ref j) D) P = P (.ref D.length) (D ++ [.lst xs.reverse]) := by
  unfold pRevA new
  simp [h]
theorem ev_lcL {w : WM} {g : GM} {t : BM} {e : EM} {vs : List Nat} : Ev (eLc w g t e vs ρ D) P = Ev (w ρ D) fun wk D1 => Ev (lcGo wk g t e ρ vs D1.length wk.n 0 (D1 ++ [.lst []])) P := by
  unfold eLc
  rw [ev_bind]
end
def b_source : SM :=
  sSeq (sSet 1 (eC (.int 11)))
  (sSeq (sFor (wSeq (eVar 0)) (gN 2) (sSet 1 (eOp pMod (eCall (f1 intM) (aCons (eOp pAdd (eOp pAdd (eOp pMul (eVar 1) (eC (.int 69069))) (eOp pMul (eVar 2) (eC (.int 31)))) (eC (.int 5))) (aNil))) (eC (.int 2147483629)))))
  (sRet (eDisp [(eC (.str "cells"), eUn pRevA (eLc (wSeq (eVar 0)) (gN 2) (bYes) (eCall (f1 absM) (aCons (eVar 2) (aNil))) [2])), (eC (.str "left"), eC (.int 1)), (eC (.str "mixed"), eVar 1), (eC (.str "turn"), eC (.int 0))])))
def d_source : List MV → Sto → Re MV := runB 3 b_source
theorem source_ok {o : Ob} {ns : List Int} {P : MV → Sto → Prop} (ho : rdL [o] 0 = some (ns.map MV.int)) (hn : ns.length ≤ 63) (k : ∀ s c D', SrcOk D' s c → P (.ref s) D') : Ev (d_source [.ref 0] [o]) P := by
  refine ev_run ?_
  show EvS (b_source [some (.ref 0), none, none] [o]) _ _
  unfold b_source
  rw [evS_seq, evS_set, ev_c]
  show EvS (sSeq _ _ [some (.ref 0), some (.int 11), none] [o]) _ _
  rw [evS_seq, evS_for]
  refine ev_seqL (j := 0) (xs := ns.map MV.int) ?_
  rw [ev_v0]
  refine ⟨rfl, ho, ?_⟩
  dsimp only
  refine for_ok (fun i ρ D' => D' = [o] ∧ ∃ m x, ρ = [some (.ref 0), some (.int m), x]) _ 0 _ _ ⟨rfl, 11, none, rfl⟩ ?_ ?_
  · rintro i ρ D' hi0 hi ⟨rfl, m, x, rfl⟩
    have hi' : i < ns.length := by simpa using hi
    refine ⟨decide_eq_true ho, .int ns[i], [o], [some (.ref 0), some (.int m), some (.int ns[i])], ?_, rfl, ?_⟩
    · unfold seqItem
      simp [hi']
    rw [evS_set, ev_op, ev_call, ev_cons, ev_op, ev_op, ev_op, ev_v1, ev_c, ev_mulR (by decide), ev_op, ev_v2, ev_c, ev_mulR (by decide), ev_add, ev_c, ev_add, ev_nil, ev_f1]
    refine ⟨_, rfl, ?_⟩
    rw [ev_c, ev_mod (by decide)]
    exact ⟨rfl, _, _, rfl⟩
  · rintro ρ D' ⟨rfl, m, x, rfl⟩
    refine ⟨decide_eq_true ho, ?_⟩
    rw [evS_ret]
    refine ev_disp ?_
    rw [ev_prs, ev_c, ev_un, ev_lcL]
    have ho2 : rdL ([o] ++ [Ob.dic []]) 0 = some (ns.map MV.int) := ho
    refine ev_seqL (j := 0) (xs := ns.map MV.int) ?_
    rw [ev_v0]
    refine ⟨rfl, ho2, ?_⟩
    dsimp only
    refine lc_ok (L := 2) (fun i acc D' => ∃ cs : List Int, acc = cs.map MV.int ∧ cs.length = i ∧ D' = [o, .dic [], .lst acc]) _ 0 [] _ rfl ⟨[], rfl, rfl, rfl⟩ ?_ ?_
    · rintro i acc D' hi0 hi hL ⟨cs, rfl, hc, rfl⟩
      have hi' : i < ns.length := by simpa using hi
      have ho3 : rdL [o, Ob.dic [], Ob.lst (cs.map MV.int)] 0 = some (ns.map MV.int) := ho
      refine ⟨decide_eq_true ho3, .int ns[i], [o, Ob.dic [], Ob.lst (cs.map MV.int)], [some (.ref 0), some (.int m), some (.int ns[i])], ?_, rfl, rfl, ?_⟩
      · unfold seqItem
        simp [hi']
      unfold bYes
      rw [ev_ok, if_pos rfl, ev_call, ev_cons, ev_v2, ev_nil, ev_f1]
      refine ⟨_, rfl, rfl, sz_lt (by rw [List.length_map]; omega), cs ++ [if ns[i] < 0 then -ns[i] else ns[i]], by rw [List.map_append]; rfl, by simp [hc], rfl⟩
    · rintro acc D' hL ⟨cs, rfl, hc, rfl⟩
      have hc' : cs.length = ns.length := by simpa using hc
      have ho3 : rdL [o, Ob.dic [], Ob.lst (cs.map MV.int)] 0 = some (ns.map MV.int) := ho
      refine ⟨decide_eq_true ho3, ?_⟩
      rw [ev_revL (xs := cs.map MV.int) rfl, ev_prs, ev_c, ev_c, ev_prs, ev_c, ev_v1, ev_prs, ev_c, ev_c, ev_prs0]
      refine ⟨rfl, _, rfl, (by show 4 ≤ 15; omega), ?_⟩
      refine k 1 3 _ ⟨cs.reverse, 1, m, 0, ⟨by decide, rfl, ?_⟩, by rw [List.length_reverse]; omega⟩
      rw [List.map_reverse]
      rfl
end Mp

set_option Elab.async false
set_option linter.all false
set_option maxRecDepth 10000
namespace Mp
open PySem L2

/-! ### data in the store: words, pairs of words, lists of them -/
abbrev Wd (x : Str) : Prop := PyData.strOk x = true
def pdS (x : Str) : PyData := .str x
def pdP (p : Str × Str) : PyData := .tuple [.str p.1, .str p.2]
section
variable {D : Sto} {P : MV → Sto → Prop}
theorem rdD_str {n : Nat} {x : Str} : rdD n D (.str x) = some (.str x) := by cases n <;> rfl
theorem rdD_int {n : Nat} {x : Int} : rdD n D (.int x) = some (.int x) := by cases n <;> rfl
theorem rdD_bl {n : Nat} {x : Bool} : rdD n D (.bl x) = some (.bool x) := by cases n <;> rfl
theorem mapM_some {α β : Type} {f : α → Option β} {g : α → β} : ∀ {xs : List α}, (∀ x ∈ xs, f x = some (g x)) → xs.mapM f = some (xs.map g)
  | [], _ => rfl
  | x :: xs, h => by
    rw [List.mapM_cons, h x List.mem_cons_self, mapM_some fun y hy => h y (List.mem_cons_of_mem _ hy)]
    rfl
theorem rdD_lst {n j : Nat} {xs : List MV} {g : MV → PyData} (h : D[j]? = some (.lst xs)) (hx : ∀ x ∈ xs, rdD n D x = some (g x)) : rdD (n + 1) D (.ref j) = some (.list (xs.map g)) := by
  unfold rdD
  dsimp only
  rw [h]
  dsimp only
  rw [mapM_some hx]
  rfl
theorem rdD_tup {n j : Nat} {xs : List MV} {g : MV → PyData} (h : D[j]? = some (.tup xs)) (hx : ∀ x ∈ xs, rdD n D x = some (g x)) : rdD (n + 1) D (.ref j) = some (.tuple (xs.map g)) := by
  unfold rdD
  dsimp only
  rw [h]
  dsimp only
  rw [mapM_some hx]
  rfl
/-- a tuple of two words -/
def PairAt (D : Sto) (v : MV) (p : Str × Str) : Prop := ∃ i, v = .ref i ∧ D[i]? = some (.tup [.str p.1, .str p.2])
/-- the pairs that the references stand for -/
def PairsAt (D : Sto) : List MV → List (Str × Str) → Prop := Paired (PairAt D)
theorem rdD_pair {n : Nat} {v : MV} {p : Str × Str} (h : PairAt D v p) : rdD (n + 1) D v = some (pdP p) := by
  obtain ⟨i, rfl, e⟩ := h
  rw [rdD_tup (g := fun v => (atomD v).getD .none) e (fun x hx => by
    simp at hx
    rcases hx with rfl | rfl
    · rw [rdD_str]; rfl
    · rw [rdD_str]; rfl)]
  rfl
theorem rdD_words {n j : Nat} {ws : List Str} (h : D[j]? = some (.lst (ws.map MV.str))) : rdD (n + 1) D (.ref j) = some (.list (ws.map pdS)) := by
  rw [rdD_lst (g := fun v => (atomD v).getD .none) h (fun x hx => by
    obtain ⟨w, _, rfl⟩ := List.mem_map.mp hx
    rw [rdD_str]
    rfl), List.map_map]
  rfl
theorem pairs_mapM {n : Nat} : ∀ {vs : List MV} {ps : List (Str × Str)}, PairsAt D vs ps → vs.mapM (rdD (n + 1) D) = some (ps.map pdP)
  | _, _, .nil => rfl
  | _, _, .cons h t => by
    rw [List.mapM_cons, rdD_pair h, pairs_mapM t]
    rfl
theorem rdD_pairs {n j : Nat} {vs : List MV} {ps : List (Str × Str)} (h : D[j]? = some (.lst vs)) (hp : PairsAt D vs ps) : rdD (n + 2) D (.ref j) = some (.list (ps.map pdP)) := by
  unfold rdD
  dsimp only
  rw [h]
  dsimp only
  rw [pairs_mapM hp]
  rfl
theorem shaped_str {x : Str} (h : Wd x) : SeqAt.shaped (.str x) = true := by
  unfold SeqAt.shaped
  rw [show PyData.canLay0 (.str x) = PyData.strOk x by simp [PyData.canLay0], h]
  rfl
theorem lay_pair {p : Str × Str} (h1 : Wd p.1) (h2 : Wd p.2) : PyData.canLay0 (pdP p) = true := by
  simp [pdP, PyData.canLay0, PyData.canLayAll0, h1, h2]
theorem lay_all {α : Type} {g : α → PyData} : ∀ {xs : List α}, (∀ x ∈ xs, PyData.canLay0 (g x) = true) → PyData.canLayAll0 (xs.map g) = true
  | [], _ => by simp [PyData.canLayAll0]
  | x :: xs, h => by
    rw [List.map_cons]
    unfold PyData.canLayAll0
    rw [h x List.mem_cons_self, lay_all fun y hy => h y (List.mem_cons_of_mem _ hy)]
    rfl
theorem depth_all {α : Type} {g : α → PyData} {k : Nat} : ∀ {xs : List α}, (∀ x ∈ xs, (g x).depth ≤ k) → PyData.depthAll (xs.map g) ≤ k
  | [], _ => by simp [PyData.depthAll]
  | x :: xs, h => by
    rw [List.map_cons]
    unfold PyData.depthAll
    exact Nat.max_le.mpr ⟨h x List.mem_cons_self, depth_all fun y hy => h y (List.mem_cons_of_mem _ hy)⟩
theorem depth_pair {p : Str × Str} : (pdP p).depth ≤ 1 := by simp [pdP, PyData.depth, PyData.depthAll]
theorem shaped_list {α : Type} {g : α → PyData} {xs : List α} (h : ∀ x ∈ xs, PyData.canLay0 (g x) = true) (hd : ∀ x ∈ xs, (g x).depth ≤ 60) : SeqAt.shaped (.list (xs.map g)) = true := by
  unfold SeqAt.shaped
  rw [show PyData.canLay0 (.list (xs.map g)) = PyData.canLayAll0 (xs.map g) by simp [PyData.canLay0], lay_all h]
  have : (PyData.list (xs.map g)).depth ≤ 64 := by
    show PyData.depth _ ≤ 64
    unfold PyData.depth
    have := depth_all (k := 60) hd
    omega
  simp [this]
theorem datD_of {v : MV} {d : PyData} (h : rdD 65 D v = some d) (hs : SeqAt.shaped d = true) : datD D v = some d := by
  unfold datD
  rw [h]
  simp [hs]
theorem dat_str {x : Str} (h : Wd x) : datD D (.str x) = some (.str x) := datD_of rdD_str (shaped_str h)
theorem dat_words {j : Nat} {ws : List Str} (h : D[j]? = some (.lst (ws.map MV.str))) (hw : ∀ w ∈ ws, Wd w) : datD D (.ref j) = some (.list (ws.map pdS)) :=
  datD_of (rdD_words h) (shaped_list (fun x hx => by simp [pdS, PyData.canLay0, hw x hx]) fun x hx => by simp [pdS, PyData.depth])
theorem dat_pair {v : MV} {p : Str × Str} (h : PairAt D v p) (h1 : Wd p.1) (h2 : Wd p.2) : datD D v = some (pdP p) := datD_of (rdD_pair h) (by
  unfold SeqAt.shaped
  rw [lay_pair h1 h2]
  simp [Nat.le_trans depth_pair (by omega : 1 ≤ 64)])
theorem dat_pairs {j : Nat} {vs : List MV} {ps : List (Str × Str)} (h : D[j]? = some (.lst vs)) (hp : PairsAt D vs ps) (hw : ∀ p ∈ ps, Wd p.1 ∧ Wd p.2) : datD D (.ref j) = some (.list (ps.map pdP)) :=
  datD_of (rdD_pairs h hp) (shaped_list (fun p hx => lay_pair (hw p hx).1 (hw p hx).2) fun p _ => Nat.le_trans depth_pair (by omega))
theorem eqv_str {x y : Str} : PyData.eqv (.str x) (.str y) = decide (x = y) := by
  unfold PyData.eqv
  by_cases h : x = y
  · subst h; simp
  · simp [h]
theorem eqv_pair {p q : Str × Str} : PyData.eqv (pdP p) (pdP q) = decide (p = q) := by
  obtain ⟨a, b⟩ := p
  obtain ⟨c, d⟩ := q
  unfold pdP
  unfold PyData.eqv
  unfold PyData.eqvAll
  unfold PyData.eqvAll
  unfold PyData.eqvAll
  rw [eqv_str, eqv_str]
  by_cases h1 : a = c <;> by_cases h2 : b = d <;> simp [h1, h2]
theorem any_map {α : Type} [DecidableEq α] {g : α → PyData} {x : α} (hg : ∀ y, PyData.eqv (g y) (g x) = decide (y = x)) : ∀ {xs : List α}, ((xs.map g).any fun z => PyData.eqv z (g x)) = decide (x ∈ xs)
  | [] => by simp
  | y :: ys => by
    rw [List.map_cons, List.any_cons, any_map hg, hg]
    by_cases h : y = x
    · simp [h]
    · have h' : ¬ x = y := fun e => h e.symm
      simp [h, h']
theorem in_words {x : Str} {j : Nat} {ws : List Str} (hx : Wd x) (h : D[j]? = some (.lst (ws.map MV.str))) (hw : ∀ w ∈ ws, Wd w) : inB (.str x) (.ref j) D = some (decide (x ∈ ws)) := by
  unfold inB
  dsimp only
  rw [h]
  dsimp only
  rw [dat_str hx, dat_words h hw]
  dsimp only
  rw [show (PyData.str x) = pdS x from rfl, any_map (g := pdS) fun y => eqv_str]
theorem in_pairs {v : MV} {p : Str × Str} {j : Nat} {vs : List MV} {ps : List (Str × Str)} (hv : PairAt D v p) (h1 : Wd p.1) (h2 : Wd p.2) (h : D[j]? = some (.lst vs)) (hp : PairsAt D vs ps) (hw : ∀ p ∈ ps, Wd p.1 ∧ Wd p.2) : inB v (.ref j) D = some (decide (p ∈ ps)) := by
  unfold inB
  dsimp only
  rw [h]
  dsimp only
  rw [dat_pair hv h1 h2, dat_pairs h hp hw]
  dsimp only
  rw [any_map (g := pdP) fun y => eqv_pair]
  exact congrArg some (decide_eq_decide.mpr Iff.rfl)
theorem ev_in {a b : MV} {c : Bool} (h : inB a b D = some c) : Ev (pIn a b D) P = P (.bl c) D := by unfold pIn; simp [h]
theorem ev_notin {a b : MV} {c : Bool} (h : inB a b D = some c) : Ev (pNotIn a b D) P = P (.bl (!c)) D := by unfold pNotIn; simp [h]
/-- what is told of the store stays where it only grows -/
theorem PairAt.mono {D' : Sto} {v : MV} {p : Str × Str} (h : PairAt D v p) (g : ∀ i o, v = .ref i → D[i]? = some o → D'[i]? = some o) : PairAt D' v p := by
  obtain ⟨i, rfl, e⟩ := h
  exact ⟨i, rfl, g i _ rfl e⟩
end
end Mp

set_option Elab.async false
set_option linter.all false
set_option maxRecDepth 10000
namespace Mp
open PySem L2

/-! ### what a piece leaves as it was: all, or all but the source -/
abbrev Sc := Option (Nat × Nat)
def Out (S : Sc) (i : Nat) : Prop := ∀ p ∈ S, i ≠ p.1 ∧ i ≠ p.2
def OkS (S : Sc) (D : Sto) : Prop := ∀ p ∈ S, SrcOk D p.1 p.2
structure Fr (S : Sc) (D D' : Sto) : Prop where
  le : D.length ≤ D'.length
  get : ∀ i, i < D.length → Out S i → D'[i]? = D[i]?
  ok : OkS S D → OkS S D'
section
variable {S : Sc} {D D1 D2 : Sto} {o : Ob} {i : Nat}
theorem Fr.refl (S : Sc) (D : Sto) : Fr S D D := ⟨Nat.le_refl _, fun _ _ _ => rfl, fun h => h⟩
theorem Fr.trans (h : Fr S D D1) (g : Fr S D1 D2) : Fr S D D2 := ⟨Nat.le_trans h.le g.le, fun i a b => (g.get i (Nat.lt_of_lt_of_le a h.le) b).trans (h.get i a b), fun k => g.ok (h.ok k)⟩
theorem Fr.snoc : Fr S D (D ++ [o]) := ⟨by simp, fun i a _ => List.getElem?_append_left a, fun k p hp => (k p hp).new⟩
theorem Fr.at (h : Fr S D D1) (e : D[i]? = some o) (u : Out S i) : D1[i]? = some o := by
  rw [h.get i (List.getElem?_eq_some_iff.mp e).1 u]
  exact e
theorem OkS.out (k : OkS S D) (h : D.length ≤ i) : Out S i := fun p hp => by
  obtain ⟨h1, h2⟩ := (k p hp).lt
  exact ⟨by omega, by omega⟩
theorem OkS.set (k : OkS S D) (u : Out S i) : OkS S (D.set i o) := fun p hp => (k p hp).set (u p hp).1 (u p hp).2
theorem OkS.snoc (k : OkS S D) : OkS S (D ++ [o]) := fun p hp => (k p hp).new
theorem Fr.setNew (h : Fr S D D1) (k : OkS S D) (hi : D.length ≤ i) : Fr S D (D1.set i o) :=
  ⟨by rw [List.length_set]; exact h.le, fun j a b => by rw [List.getElem?_set_ne (by omega)]; exact h.get j a b, fun k' => (h.ok k').set (k.out hi)⟩
theorem Fr.grow {s c : Nat} (h : Grow s c D D1) (k : SrcOk D1 s c) : Fr (some (s, c)) D D1 :=
  ⟨h.le, fun i a b => h.get i a (b (s, c) rfl).1 (b (s, c) rfl).2, fun _ p hp => by cases hp; exact k⟩
theorem Fr.only {s c : Nat} (h : Only2 s c D D1) (k : SrcOk D1 s c) : Fr (some (s, c)) D D1 := Fr.grow h.grow k
theorem out_none : Out none i := fun p hp => by cases hp
theorem ok_none : OkS none D := fun p hp => by cases hp
theorem ok_some {s c : Nat} (k : SrcOk D s c) : OkS (some (s, c)) D := fun p hp => by cases hp; exact k
theorem out_some {s c : Nat} (h1 : i ≠ s) (h2 : i ≠ c) : Out (some (s, c)) i := fun p hp => by cases hp; exact ⟨h1, h2⟩
theorem SrcOk.same {s c : Nat} (k : SrcOk D s c) (h : Fr none D D1) : SrcOk D1 s c := by
  obtain ⟨cells, l, m, t, a, z⟩ := k
  exact ⟨cells, l, m, t, ⟨a.ne, h.at a.dic out_none, h.at a.lst out_none⟩, z⟩
theorem Fr.lift (h : Fr none D D1) : Fr S D D1 := ⟨h.le, fun i a _ => h.get i a out_none, fun k p hp => (k p hp).same h⟩
theorem rdL_at {xs : List MV} (h : Fr S D D1) (u : Out S i) (e : rdL D i = some xs) : rdL D1 i = some xs := by
  unfold rdL at e ⊢
  cases q : D[i]? with
  | none => rw [q] at e; cases e
  | some o =>
    rw [h.at q u]
    rw [q] at e
    exact e
theorem rdL_lst {xs : List MV} (e : D[i]? = some (.lst xs)) : rdL D i = some xs := by unfold rdL; rw [e]
end
/-! ### a comprehension over a list, by its items one by one -/
theorem Pd.snoc {α β : Type} {F : α → β → Prop} {xs : List α} {ys : List β} {x : α} {y : β} (h : Paired F xs ys) (r : F x y) : Paired F (xs ++ [x]) (ys ++ [y]) := Pd.append h (.cons r .nil)
theorem take_snoc {α : Type} {xs : List α} {i : Nat} {x : α} (e : xs[i]? = some x) : xs.take (i + 1) = xs.take i ++ [x] := by
  rw [List.take_add_one, e]
  rfl
theorem lc_map {α β : Type} {S : Sc} {m : EM} {g : GM} {t : BM} {e : EM} {vs : List Nat} {ρ : Rho} {D : Sto} {P : MV → Sto → Prop} (Rin : MV → α → Prop) (Rel : Sto → MV → β → Prop) (f : α → Option β)
    (mono : ∀ D D' v b, Rel D v b → Fr S D D' → OkS S D → Rel D' v b) (stay : ∀ D v b L acc acc', D[L]? = some (.lst acc) → Rel D v b → Rel (D.set L (.lst acc')) v b)
    (hw : Ev (m ρ D) fun v D0 => ∃ j xs as, v = .ref j ∧ rdL D0 j = some xs ∧ Out S j ∧ Paired Rin xs as ∧ xs.length ≤ 1000000 ∧ OkS S D0 ∧
      (∀ x a D', Rin x a → x ∈ xs → Fr S D0 D' → OkS S D' → ∃ ρ1, g x (wipeM ρ vs) D' = some ρ1 ∧ wipeM ρ1 vs = wipeM ρ vs ∧ Ev (t ρ1 D') fun c D2 => Fr S D' D2 ∧ OkS S D2 ∧ c = (f a).isSome ∧
        (c = true → Ev (e ρ1 D2) fun y D3 => Fr S D2 D3 ∧ OkS S D3 ∧ ∃ b, f a = some b ∧ Rel D3 y b)) ∧
      ∀ ys D', Fr S D0 D' → OkS S D' → D'[D0.length]? = some (.lst ys) → Paired (Rel D') ys (as.filterMap f) → P (.ref D0.length) D') : Ev (eLc (wSeq m) g t e vs ρ D) P := by
  rw [ev_lcL]
  obtain ⟨v, D0, e0, j, xs, as, rfl, hj, uj, hp, hz, ok0, step, fin⟩ := hw.get
  refine ev_seqL (j := j) (xs := xs) ?_
  rw [e0, ev_ok]
  refine ⟨rfl, hj, ?_⟩
  dsimp only
  have hlt : j < D0.length := by
    unfold rdL at hj
    cases q : D0[j]? with
    | none => rw [q] at hj; cases hj
    | some o => exact (List.getElem?_eq_some_iff.mp q).1
  have pl := Pd.len hp
  refine lc_ok (fun i acc D' => Fr S D0 D' ∧ OkS S D' ∧ D0.length < D'.length ∧ Paired (Rel D') acc ((as.take i).filterMap f)) _ 0 [] _ get_new ⟨Fr.snoc, ok0.snoc, by simp, by simp; exact .nil⟩ ?_ ?_
  · rintro i acc D' hi0 hi hL ⟨fr, ok, hlen, pr⟩
    have hi' : i < xs.length := by omega
    have ex : xs[i]? = some xs[i] := by simp [hi']
    obtain ⟨a, ea, ra⟩ := Pd.get hp ex
    obtain ⟨ρ1, h1, h2, h3⟩ := step xs[i] a D' ra (List.getElem_mem hi') fr ok
    refine ⟨decide_eq_true (rdL_at fr uj hj), xs[i], D', ρ1, ?_, h1, h2, ?_⟩
    · dsimp only
      unfold seqItem
      rw [ex]
      rfl
    refine h3.imp fun c D2 ⟨f2, k2, hc, hy⟩ => ?_
    have uL : Out S D0.length := ok0.out (Nat.le_refl _)
    have et : (as.take (i + 1)).filterMap f = (as.take i).filterMap f ++ (match f a with | some b => [b] | none => []) := by
      rw [take_snoc ea, List.filterMap_append]
      congr 1
      rw [List.filterMap_cons]
      cases f a <;> rfl
    have pr2 : Paired (Rel D2) acc ((as.take i).filterMap f) := Pd.mono pr fun v b r => mono _ _ _ _ r f2 ok
    cases c with
    | false =>
      rw [if_neg (by decide)]
      have hn : f a = none := by
        cases q : f a with
        | none => rfl
        | some b => rw [q] at hc; cases hc
      refine ⟨f2.at hL uL, fr.trans f2, k2, Nat.lt_of_lt_of_le hlen f2.le, ?_⟩
      rw [et, hn, List.append_nil]
      exact pr2
    | true =>
      rw [if_pos rfl]
      refine (hy rfl).imp fun y D3 ⟨f3, k3, b, hb, rb⟩ => ?_
      have fL := (f2.trans f3).at hL uL
      have accl : acc.length ≤ i := by
        rw [Pd.len pr]
        exact Nat.le_trans (List.length_filterMap_le _ _) (by rw [List.length_take]; omega)
      have fs : Fr S D0 (D3.set D0.length (.lst (acc ++ [y]))) := ((fr.trans f2).trans f3).setNew ok0 (Nat.le_refl _)
      have ks : OkS S (D3.set D0.length (.lst (acc ++ [y]))) := k3.set uL
      refine ⟨fL, sz_lt (by omega), fs, ks, by rw [List.length_set]; exact Nat.lt_of_lt_of_le (Nat.lt_of_lt_of_le hlen f2.le) f3.le, ?_⟩
      rw [et, hb]
      exact Pd.snoc (Pd.mono pr2 fun v b r => stay _ _ _ _ _ _ fL (mono _ _ _ _ r f3 k2)) (stay _ _ _ _ _ _ fL rb)
  · rintro acc D' hL ⟨fr, ok, hlen, pr⟩
    refine ⟨decide_eq_true (rdL_at fr uj hj), fin acc D' fr ok hL ?_⟩
    rw [Nat.zero_add] at pr
    rw [List.take_of_length_le (by omega)] at pr
    exact pr
end Mp

set_option Elab.async false
set_option linter.all false
set_option maxRecDepth 10000
namespace Mp
open PySem L2

theorem PairAt.fr {S : Sc} {D D' : Sto} {v : MV} {p : Str × Str} (h : PairAt D v p) (f : Fr none D D') : PairAt D' v p := h.mono fun i o _ e => f.at e out_none
theorem PairAt.set {D : Sto} {v : MV} {p : Str × Str} {L : Nat} {acc : List MV} {o : Ob} (e : D[L]? = some (.lst acc)) (h : PairAt D v p) : PairAt (D.set L o) v p := h.mono fun i u hv hi => by
  have hne : L ≠ i := fun z => by
    subst z
    obtain ⟨j, hj, hd⟩ := h
    rw [hv] at hj
    cases hj
    rw [e] at hd
    cases hd
  rw [List.getElem?_set_ne hne]
  exact hi
theorem PairsAt.fr {D D' : Sto} {vs : List MV} {ps : List (Str × Str)} (h : PairsAt D vs ps) (f : Fr none D D') : PairsAt D' vs ps := Pd.mono h fun _ _ r => PairAt.fr (S := none) r f
theorem ev_pair0 {D : Sto} {v : MV} {p : Str × Str} {P : MV → Sto → Prop} (h : PairAt D v p) : Ev (pIx v (.int 0) D) P = P (.str p.1) D := by
  obtain ⟨i, rfl, e⟩ := h
  exact ev_ixT (r := 0) e rfl
theorem ev_pair1 {D : Sto} {v : MV} {p : Str × Str} {P : MV → Sto → Prop} (h : PairAt D v p) : Ev (pIx v (.int 1) D) P = P (.str p.2) D := by
  obtain ⟨i, rfl, e⟩ := h
  exact ev_ixT (r := 1) e rfl
theorem ev_catL {D : Sto} {i j : Nat} {xs ys : List MV} {P : MV → Sto → Prop} (h1 : D[i]? = some (.lst xs)) (h2 : D[j]? = some (.lst ys)) (hz : xs.length + ys.length ≤ sizeLine) : Ev (pAdd (.ref i) (.ref j) D) P = P (.ref D.length) (D ++ [.lst (xs ++ ys)]) := by
  unfold pAdd new
  simp [h1, h2, hz]
theorem strs_of {vs : List MV} {bs : List Str} (h : Paired (fun v b => v = MV.str b) vs bs) : vs = bs.map MV.str := by
  induction h with
  | nil => rfl
  | cons r t ih => rw [List.map_cons, ← ih, r]
def b_leads : SM :=
  sSeq (sSet 3 (eLst (aCons (eVar 1) (aNil))))
  (sSeq (sFor (wRng1 (eCall (f1 lenM) (aCons (eVar 0) (aNil)))) (gN 4) (sSet 3 (eOp pAdd (eVar 3) (eLc (wSeq (eVar 0)) (gN 5) (bAnd (bTest (eOp pIn (eOp pIx (eVar 5) (eC (.int 0))) (eVar 3))) (bTest (eOp pNotIn (eOp pIx (eVar 5) (eC (.int 1))) (eVar 3)))) (eOp pIx (eVar 5) (eC (.int 1))) [5]))))
  (sRet (eOp pIn (eVar 2) (eVar 3))))
def d_leads : List MV → Sto → Re MV := runB 6 b_leads
/-- the knots that are met after some rounds -/
def metN (ar : List (Str × Str)) (one : Str) : Nat → List Str
  | 0 => [one]
  | i + 1 => metN ar one i ++ ar.filterMap fun p => if p.1 ∈ metN ar one i ∧ ¬ p.2 ∈ metN ar one i then some p.2 else none
def leadsF (ar : List (Str × Str)) (one other : Str) : Bool := decide (other ∈ metN ar one ar.length)
theorem leads_ok {D : Sto} {a : Nat} {vs : List MV} {ar : List (Str × Str)} {one other : Str} {P : MV → Sto → Prop} (ha : D[a]? = some (.lst vs)) (hp : PairsAt D vs ar) (hw : ∀ p ∈ ar, Wd p.1 ∧ Wd p.2) (h1 : Wd one) (h2 : Wd other) (hz : vs.length ≤ 100)
    (k : ∀ D', Fr none D D' → P (.bl (leadsF ar one other)) D') : Ev (d_leads [.ref a, .str one, .str other] D) P := by
  refine ev_run ?_
  show EvS (b_leads [some (.ref a), some (.str one), some (.str other), none, none, none] D) _ _
  unfold b_leads
  rw [evS_seq, evS_set, ev_lst, ev_cons, ev_v1, ev_nil]
  refine ⟨sz_le (by simp), ?_⟩
  show EvS (sSeq _ _ [some (.ref a), some (.str one), some (.str other), some (.ref D.length), none, none] (D ++ [Ob.lst [.str one]])) _ _
  have f0 : Fr none D (D ++ [Ob.lst [.str one]]) := Fr.snoc
  rw [evS_seq, evS_for]
  refine ev_rng1 (n := vs.length) ?_ (by omega)
  rw [ev_call, ev_cons, ev_v0, ev_nil, ev_lenL (f0.at ha out_none)]
  refine ⟨rfl, ?_⟩
  dsimp only
  refine for_ok (fun i ρ D' => Fr none D D' ∧ ∃ L x y, ∃ met : List Str, met = metN ar one i ∧ ρ = [some (.ref a), some (.str one), some (.str other), some (.ref L), x, y] ∧ D'[L]? = some (.lst (met.map MV.str)) ∧ (∀ w ∈ met, Wd w) ∧ met.length ≤ 1 + i * 100) _ 0 _ _
    ⟨f0, D.length, none, none, [one], rfl, rfl, get_new, fun w hw' => by simp at hw'; subst hw'; exact h1, by simp⟩ ?_ ?_
  · rintro i ρ D1 hi0 hi ⟨fr, L, x, y, met, hmet, rfl, hL, hm, hlen⟩
    have hi' : i < vs.length := by omega
    have hi100 : i < 100 := by omega
    refine ⟨rfl, .int i, D1, [some (.ref a), some (.str one), some (.str other), some (.ref L), some (.int i), y], ?_, rfl, ?_⟩
    · show some (MV.int ((0 : Int) + (i : Nat)), D1) = _
      rw [Int.zero_add]
    rw [evS_set, ev_op, ev_v3]
    refine lc_map (S := none) (α := Str × Str) (β := Str) (fun v p => PairAt D1 v p ∧ Wd p.1 ∧ Wd p.2) (fun _ v b => v = MV.str b ∧ Wd b) (fun p => if p.1 ∈ met ∧ ¬ p.2 ∈ met then some p.2 else none) (fun _ _ _ _ h _ _ => h) (fun _ _ _ _ _ _ _ h => h) ?_
    rw [ev_v0]
    have hin : PairsAt D1 vs ar := hp.fr fr
    refine ⟨a, vs, ar, rfl, rdL_lst (fr.at ha out_none), out_none, ?_, by omega, ok_none, ?_, ?_⟩
    · refine Pd.of_get (Pd.len hin) fun j v p e1 e2 => ?_
      obtain ⟨p', e3, r⟩ := Pd.get hin e1
      rw [e2] at e3
      cases e3
      exact ⟨r, hw p (List.mem_of_getElem? e2)⟩
    · rintro v p D2 ⟨hv, w1, w2⟩ _ f2 _
      have hv2 : PairAt D2 v p := PairAt.fr (S := none) hv f2
      have hL2 := f2.at hL out_none
      refine ⟨[some (.ref a), some (.str one), some (.str other), some (.ref L), some (.int i), some v], rfl, rfl, ?_⟩
      have hin1 := in_words (x := p.1) w1 hL2 hm
      have hin2 := in_words (x := p.2) w2 hL2 hm
      rw [ev_and, ev_test, ev_op, ev_op, ev_var (i := 5) rfl, ev_c, ev_pair0 hv2, ev_v3, ev_in hin1, ev_bl]
      by_cases q1 : p.1 ∈ met
      · rw [decide_eq_true q1, if_pos rfl, ev_test, ev_op, ev_op, ev_var (i := 5) rfl, ev_c, ev_pair1 hv2, ev_v3, ev_notin hin2, ev_bl]
        by_cases q2 : p.2 ∈ met
        · rw [decide_eq_true q2, if_neg (by simp [q2])]
          exact ⟨Fr.refl _ _, ok_none, rfl, fun z => by cases z⟩
        · rw [decide_eq_false q2, if_pos ⟨q1, q2⟩]
          refine ⟨Fr.refl _ _, ok_none, rfl, fun _ => ?_⟩
          rw [ev_op, ev_var (i := 5) rfl, ev_c, ev_pair1 hv2]
          exact ⟨Fr.refl _ _, ok_none, p.2, rfl, rfl, w2⟩
      · rw [decide_eq_false q1, if_neg (by decide), if_neg (by simp [q1])]
        exact ⟨Fr.refl _ _, ok_none, rfl, fun z => by cases z⟩
    · intro ys D2 f2 _ hys hrel
      have e1 : ys = (ar.filterMap fun p => if p.1 ∈ met ∧ ¬ p.2 ∈ met then some p.2 else none).map MV.str := strs_of (Pd.mono hrel fun _ _ r => r.1)
      have hb : ∀ b ∈ (ar.filterMap fun p => if p.1 ∈ met ∧ ¬ p.2 ∈ met then some p.2 else none), Wd b := fun b hb => by
        obtain ⟨p, hp1, hp2⟩ := List.mem_filterMap.mp hb
        by_cases q : p.1 ∈ met ∧ ¬ p.2 ∈ met
        · rw [if_pos q] at hp2
          cases hp2
          exact (hw p hp1).2
        · rw [if_neg q] at hp2
          cases hp2
      have hl : (ar.filterMap fun p => if p.1 ∈ met ∧ ¬ p.2 ∈ met then some p.2 else none).length ≤ 100 := by
        refine Nat.le_trans (List.length_filterMap_le _ _) ?_
        rw [← Pd.len hp]
        exact hz
      have hnext : met ++ (ar.filterMap fun p => if p.1 ∈ met ∧ ¬ p.2 ∈ met then some p.2 else none) = metN ar one (i + 1) := by rw [hmet]; rfl
      generalize (ar.filterMap fun p => if p.1 ∈ met ∧ ¬ p.2 ∈ met then some p.2 else none) = more at e1 hb hl hnext
      subst e1
      have hm2 : met.length ≤ 10000 := by
        have : i * 100 ≤ 99 * 100 := Nat.mul_le_mul_right 100 (by omega)
        omega
      rw [ev_catL (f2.at hL out_none) hys (sz_le (by rw [List.length_map, List.length_map]; omega))]
      refine ⟨(fr.trans f2).trans Fr.snoc, D2.length, _, _, met ++ more, hnext, rfl, ?_, ?_, ?_⟩
      · rw [get_new, List.map_append]
      · intro w hw'
        rcases List.mem_append.mp hw' with q | q
        · exact hm w q
        · exact hb w q
      · rw [List.length_append, Nat.add_mul]
        omega
  · rintro ρ D1 ⟨fr, L, x, y, met, hmet, rfl, hL, hm, hlen⟩
    refine ⟨rfl, ?_⟩
    rw [evS_ret, ev_op, ev_v2, ev_v3, ev_in (in_words h2 hL hm)]
    have e : decide (other ∈ met) = leadsF ar one other := by
      unfold leadsF
      rw [hmet, Nat.zero_add, Pd.len hp]
    rw [e]
    exact k _ fr

/-! ### the pairs that a ladder makes -/
def b_fitsOf : SM :=
  sSeq (sSet 1 (eLst (aNil)))
  (sSeq (sFor (wSeq (eOp pIx (eVar 0) (eC (.str "stems")))) (gT [gN 2, gN 3]) (sSet 1 (eOp pAdd (eVar 1) (eLc (wSeq (eOp pIx (eVar 0) (eC (.str "places")))) (gN 4) (bTest (eCall d_leads (aCons (eOp pIx (eVar 0) (eC (.str "arrows"))) (aCons (eVar 3) (aCons (eOp pIx (eVar 4) (eC (.int 1))) (aNil)))))) (eTup (aCons (eVar 2) (aCons (eOp pIx (eVar 4) (eC (.int 0))) (aNil)))) [4]))))
  (sRet (eVar 1)))
def d_fitsOf : List MV → Sto → Re MV := runB 5 b_fitsOf
structure LadAt (D : Sto) (d : Nat) (ar st pl : List (Str × Str)) : Prop where
  ex : ∃ kn a b c va vb vc, D[d]? = some (.dic [(Sum.inr "knots", kn), (Sum.inr "arrows", .ref a), (Sum.inr "stems", .ref b), (Sum.inr "places", .ref c)]) ∧ D[a]? = some (.lst va) ∧ D[b]? = some (.lst vb) ∧ D[c]? = some (.lst vc) ∧ PairsAt D va ar ∧ PairsAt D vb st ∧ PairsAt D vc pl
  wa : ∀ p ∈ ar, Wd p.1 ∧ Wd p.2
  ws : ∀ p ∈ st, Wd p.1 ∧ Wd p.2
  wp : ∀ p ∈ pl, Wd p.1 ∧ Wd p.2
  za : ar.length ≤ 100
  zs : st.length ≤ 100
  zp : pl.length ≤ 100
def fitsF (ar st pl : List (Str × Str)) : List (Str × Str) := st.flatMap fun s => pl.filterMap fun p => if leadsF ar s.2 p.2 = true then some (s.1, p.1) else none
theorem flatMap_snoc {α β : Type} {f : α → List β} {l : List α} {a : α} : (l ++ [a]).flatMap f = l.flatMap f ++ f a := by simp
theorem ev_dic3 {D : Sto} {d : Nat} {a b c e v : MV} {k1 k2 k3 k4 x : Str} {P : MV → Sto → Prop} (h : D[d]? = some (.dic [(Sum.inr k1, a), (Sum.inr k2, b), (Sum.inr k3, c), (Sum.inr k4, e)])) (hl : lookM [((Sum.inr k1 : Key), a), (Sum.inr k2, b), (Sum.inr k3, c), (Sum.inr k4, e)] (Sum.inr x) = some v) : Ev (pIx (.ref d) (.str x) D) P = P v D := ev_ixd h hl
theorem fitsOf_ok {D : Sto} {d : Nat} {ar st pl : List (Str × Str)} {P : MV → Sto → Prop} (h : LadAt D d ar st pl)
    (k : ∀ L vs D', Fr none D D' → D.length ≤ L → D'[L]? = some (.lst vs) → PairsAt D' vs (fitsF ar st pl) → P (.ref L) D') : Ev (d_fitsOf [.ref d] D) P := by
  obtain ⟨⟨kn, a, b, c, va, vb, vc, hd, ha, hb, hc, pa, pb, pc⟩, wa, ws, wp, za, zs, zp⟩ := h
  refine ev_run ?_
  show EvS (b_fitsOf [some (.ref d), none, none, none, none] D) _ _
  unfold b_fitsOf
  rw [evS_seq, evS_set, ev_lst, ev_nil]
  refine ⟨sz_le (by simp), ?_⟩
  show EvS (sSeq _ _ [some (.ref d), some (.ref D.length), none, none, none] (D ++ [Ob.lst []])) _ _
  have f0 : Fr none D (D ++ [Ob.lst []]) := Fr.snoc
  rw [evS_seq, evS_for]
  refine ev_seqL (j := b) (xs := vb) ?_
  rw [ev_op, ev_v0, ev_c, ev_dic3 (f0.at hd out_none) (v := .ref b) rfl]
  refine ⟨rfl, rdL_lst (f0.at hb out_none), ?_⟩
  dsimp only
  have lb := Pd.len pb
  refine for_ok (fun i ρ D' => Fr none D D' ∧ ∃ L x y z vs, ρ = [some (.ref d), some (.ref L), x, y, z] ∧ D.length ≤ L ∧ D'[L]? = some (.lst vs) ∧ PairsAt D' vs (fitsF ar (st.take i) pl) ∧ vs.length ≤ i * 100) _ 0 _ _
    ⟨f0, D.length, none, none, none, [], rfl, Nat.le_refl _, get_new, .nil, by simp⟩ ?_ ?_
  · rintro i ρ D1 hi0 hi ⟨fr, L, x, y, z, vs, rfl, hge, hL, hv, hlen⟩
    have hi' : i < vb.length := by omega
    have ex : vb[i]? = some vb[i] := by simp [hi']
    obtain ⟨q, eq, rq⟩ := Pd.get pb ex
    have rq1 : PairAt D1 vb[i] q := PairAt.fr (S := none) rq fr
    obtain ⟨wq1, wq2⟩ := ws q (List.mem_of_getElem? eq)
    refine ⟨decide_eq_true (rdL_lst (fr.at hb out_none)), vb[i], D1, [some (.ref d), some (.ref L), some (.str q.1), some (.str q.2), z], ?_, ?_, ?_⟩
    · dsimp only
      unfold seqItem
      rw [ex]
      rfl
    · obtain ⟨j, hj, hjd⟩ := rq1
      unfold gT
      rw [hj]
      dsimp only
      have : rdT D1 j = some [.str q.1, .str q.2] := by unfold rdT; rw [hjd]
      rw [this]
      rfl
    rw [evS_set, ev_op, ev_v1]
    refine lc_map (S := none) (α := Str × Str) (β := Str × Str) (fun v p => PairAt D1 v p ∧ Wd p.1 ∧ Wd p.2) PairAt (fun p => if leadsF ar q.2 p.2 = true then some (q.1, p.1) else none) (fun _ _ _ _ h f _ => PairAt.fr (S := none) h f) (fun _ _ _ _ _ _ e h => PairAt.set e h) ?_
    rw [ev_op, ev_v0, ev_c, ev_dic3 (fr.at hd out_none) (v := .ref c) rfl]
    have pc1 : PairsAt D1 vc pl := pc.fr fr
    refine ⟨c, vc, pl, rfl, rdL_lst (fr.at hc out_none), out_none, ?_, by rw [Pd.len pc]; omega, ok_none, ?_, ?_⟩
    · refine Pd.of_get (Pd.len pc1) fun j v p e1 e2 => ?_
      obtain ⟨p', e3, r⟩ := Pd.get pc1 e1
      rw [e2] at e3
      cases e3
      exact ⟨r, wp p (List.mem_of_getElem? e2)⟩
    · rintro v p D2 ⟨hv2, w1, w2⟩ _ f2 _
      have hv3 : PairAt D2 v p := PairAt.fr (S := none) hv2 f2
      refine ⟨[some (.ref d), some (.ref L), some (.str q.1), some (.str q.2), some v], rfl, rfl, ?_⟩
      rw [ev_test, ev_call, ev_cons, ev_op, ev_v0, ev_c, ev_dic3 ((fr.trans f2).at hd out_none) (v := .ref a) rfl, ev_cons, ev_v3, ev_cons, ev_op, ev_var (i := 4) rfl, ev_c, ev_pair1 hv3, ev_nil]
      refine leads_ok ((fr.trans f2).at ha out_none) (pa.fr (fr.trans f2)) wa wq2 w2 (by rw [Pd.len pa]; exact za) fun D3 f3 => ?_
      rw [ev_bl]
      refine ⟨f3, ok_none, ?_, fun hc' => ?_⟩
      · cases hq : leadsF ar q.2 p.2 <;> simp
      · rw [ev_tup, ev_cons, ev_v2, ev_cons, ev_op, ev_var (i := 4) rfl, ev_c, ev_pair0 (PairAt.fr (S := none) hv3 f3), ev_nil]
        exact ⟨sz_le (by simp), Fr.snoc, ok_none, (q.1, p.1), by rw [if_pos hc'], _, rfl, get_new⟩
    · intro ys D2 f2 _ hys hrel
      have hl : ys.length ≤ 100 := by
        rw [Pd.len hrel]
        exact Nat.le_trans (List.length_filterMap_le _ _) zp
      have hi100 : i < 100 := by omega
      have : i * 100 ≤ 100 * 100 := Nat.mul_le_mul_right 100 (by omega)
      rw [ev_catL (f2.at hL out_none) hys (sz_le (by omega))]
      refine ⟨(fr.trans f2).trans Fr.snoc, D2.length, _, _, _, vs ++ ys, rfl, Nat.le_trans fr.le f2.le, get_new, ?_, ?_⟩
      · rw [take_snoc eq]
        unfold fitsF
        rw [flatMap_snoc]
        exact Pd.append ((hv.fr f2).fr Fr.snoc) (PairsAt.fr hrel Fr.snoc)
      · rw [List.length_append, Nat.add_mul]
        omega
  · rintro ρ D1 ⟨fr, L, x, y, z, vs, rfl, hge, hL, hv, hlen⟩
    refine ⟨decide_eq_true (rdL_lst (fr.at hb out_none)), ?_⟩
    rw [evS_ret, ev_v1]
    rw [Nat.zero_add, List.take_of_length_le (by omega)] at hv
    exact k L vs D1 fr hge hL hv
end Mp

set_option Elab.async false
set_option linter.all false
set_option maxRecDepth 10000
namespace Mp
open PySem L2

section
variable {D D' D1 : Sto} {s c : Nat}
theorem PairAt.src {v : MV} {p : Str × Str} (h : PairAt D v p) (f : Fr (some (s, c)) D D') (k : SrcOk D s c) : PairAt D' v p := h.mono fun i o hv hi => by
  obtain ⟨cells, l, m, t, a, _⟩ := k
  obtain ⟨j, hj, hd⟩ := h
  rw [hv] at hj
  cases hj
  refine f.at hi (out_some (fun z => ?_) fun z => ?_)
  · subst z
    rw [a.dic] at hd
    cases hd
  · subst z
    rw [a.lst] at hd
    cases hd
theorem PairsAt.src {vs : List MV} {ps : List (Str × Str)} (h : PairsAt D vs ps) (f : Fr (some (s, c)) D D') (k : SrcOk D s c) : PairsAt D' vs ps := Pd.mono h fun _ _ r => PairAt.src r f k
theorem PairsAt.set {vs : List MV} {ps : List (Str × Str)} {L : Nat} {acc : List MV} {o : Ob} (e : D[L]? = some (.lst acc)) (h : PairsAt D vs ps) : PairsAt (D.set L o) vs ps := Pd.mono h fun _ _ r => PairAt.set e r
theorem perm_rel {α β : Type} {F : α → β → Prop} : ∀ {xs ys : List α}, ys.Perm xs → ∀ {bs : List β}, Paired F xs bs → ∃ cs, cs.Perm bs ∧ Paired F ys cs := by
  intro xs ys h
  induction h with
  | nil => intro bs r; exact ⟨bs, List.Perm.refl _, r⟩
  | @cons x l1 l2 _ ih =>
    intro bs r
    cases r with
    | cons r t =>
      obtain ⟨cs, h1, h2⟩ := ih t
      exact ⟨_ :: cs, h1.cons _, .cons r h2⟩
  | swap x y l =>
    intro bs r
    cases r with
    | cons r t =>
      cases t with
      | cons r2 t2 => exact ⟨_, List.Perm.swap _ _ _, .cons r2 (.cons r t2)⟩
  | trans _ _ ih1 ih2 =>
    intro bs r
    obtain ⟨cs, h1, h2⟩ := ih2 r
    obtain ⟨ds, h3, h4⟩ := ih1 h2
    exact ⟨ds, h3.trans h1, h4⟩
theorem ev_rng2 {m1 m2 : EM} {ρ : Rho} {i n : Nat} {R : Wk → Sto → Prop} (h : Ev (m1 ρ D) fun v D1 => v = .int i ∧ Ev (m2 ρ D1) fun w D2 => w = .int n ∧ R ⟨n - i, fun _ => true, rngItem i⟩ D2) (hi : i < 1000000) (hn : n < 1000000) : Ev (wRng2 m1 m2 ρ D) R := by
  unfold wRng2
  rw [ev_bind]
  refine h.imp fun v D1 ⟨e, q⟩ => ?_
  subst e
  rw [ev_bind]
  refine q.imp fun w D2 ⟨e2, q2⟩ => ?_
  subst e2
  dsimp only
  rw [if_pos ⟨by omega, by omega, by omega, by omega⟩, ev_ok]
  have : ((n : Int) - (i : Int)).toNat = n - i := by omega
  rw [this]
  exact q2
theorem evS_asg {m : EM} {g : GM} {ρ : Rho} {N : Rho → Sto → Prop} {T : MV → Sto → Prop} (h : Ev (m ρ D) fun v D1 => ∃ ρ', g v ρ D1 = some ρ' ∧ N ρ' D1) : EvS (sAsg m g ρ D) N T := by
  unfold sAsg
  rw [evS_lift]
  refine h.imp fun v D1 ⟨ρ', e, q⟩ => ?_
  rw [e]
  dsimp only
  rw [evS_nx]
  exact q
theorem ev_revT {j : Nat} {xs : List MV} {P : MV → Sto → Prop} (h : D[j]? = some (.tup xs)) : Ev (pRevA (.ref j) D) P = P (.ref D.length) (D ++ [.tup xs.reverse]) := by
  unfold pRevA
  have h1 : rdL D j = none := by unfold rdL; rw [h]
  have h2 : rdT D j = some xs := by unfold rdT; rw [h]
  dsimp only
  rw [h1]
  dsimp only
  rw [h2]
  dsimp only
  unfold new
  rw [ev_ok]
theorem ev_eqI {i j : Int} {P : MV → Sto → Prop} : Ev (pEqA (.int i) (.int j) D) P = P (.bl (i == j)) D := by
  unfold pEqA
  dsimp only
  unfold pEq
  have h1 : ∀ z : Int, datD D (.int z) = some (.int z) := fun z => datD_of rdD_int (by simp [SeqAt.shaped, PyData.canLay0, PyData.depth])
  rw [h1, h1]
  dsimp only
  rw [ev_ok]
  simp [PyData.eqv]
theorem dig_wd {w : Str} {d : Nat} (h : Dig w d) (hd : d < 100) : Wd w := by
  obtain ⟨a, t, e, h1, h2, h3, h4⟩ := h
  show PyData.strOk w = true
  unfold PyData.strOk
  rw [← Array.all_toList, e]
  simp only [List.all_cons, Bool.and_eq_true, decide_eq_true_eq, List.all_eq_true]
  refine ⟨by omega, by omega, by omega, fun x hx => ?_⟩
  rw [h3 x hx]
  decide
theorem drawn_wd {ws : List Str} {sh : Nat} (h : Drawn ws sh) : ∀ w ∈ ws, Wd w := fun w hw => by
  obtain ⟨i, hi, e⟩ := List.mem_iff_getElem.mp hw
  exact dig_wd (h i w (by rw [List.getElem?_eq_getElem hi, e])) (Nat.mod_lt _ (by decide))
theorem drawn_nodup {ws : List Str} {sh : Nat} (h : Drawn ws sh) (hn : ws.length ≤ 100) : ws.Nodup := by
  refine List.pairwise_iff_getElem.mpr fun i j hi hj hij e => ?_
  have e1 : ws[i]? = some ws[i] := by simp [hi]
  have e2 : ws[j]? = some ws[i] := by rw [e]; simp [hj]
  obtain ⟨a, t, q1, _⟩ := h i _ e1
  obtain ⟨b, u, q2, _⟩ := h j _ e2
  rw [q1] at q2
  simp at q2
  omega
end
def b_ladder : SM :=
  sSeq (sAsg (eTup (aCons (eCall d_names (aCons (eVar 0) (aCons (eOp pAdd (eC (.int 1)) (eCall d_pick (aCons (eVar 0) (aCons (eVar 1) (aNil))))) (aNil)))) (aCons (eLst (aNil)) (aNil)))) (gT [gN 2, gN 3]))
  (sSeq (sFor (wRng2 (eC (.int 1)) (eCall (f1 lenM) (aCons (eVar 2) (aNil)))) (gN 4) (sIf (bTest (eOp pGt (eCall d_pick (aCons (eVar 0) (aCons (eC (.int 5)) (aNil)))) (eC (.int 0)))) (sSeq (sSet 5 (eTup (aCons (eOp pIx (eVar 2) (eVar 4)) (aCons (eOp pIx (eVar 2) (eCall d_pick (aCons (eVar 0) (aCons (eVar 4) (aNil))))) (aNil)))))
  (sDrop (eBm mAppend (eVar 3) (aCons (eIf (bTest (eOp pEqA (eCall d_pick (aCons (eVar 0) (aCons (eC (.int 2)) (aNil)))) (eC (.int 0)))) (eVar 5) (eUn pRevA (eVar 5))) (aNil))))) (sNext)))
  (sSeq (sPar 6 7 (eCall d_names (aCons (eVar 0) (aCons (eOp pAdd (eC (.int 1)) (eCall d_pick (aCons (eVar 0) (aCons (eC (.int 4)) (aNil))))) (aNil)))) (eCall d_names (aCons (eVar 0) (aCons (eOp pAdd (eC (.int 1)) (eCall d_pick (aCons (eVar 0) (aCons (eC (.int 4)) (aNil))))) (aNil)))))
  (sSeq (sSet 8 (eLc (wSeq (eVar 6)) (gN 10) (bYes) (eTup (aCons (eVar 10) (aCons (eCall d_of (aCons (eVar 0) (aCons (eVar 2) (aNil)))) (aNil)))) [10]))
  (sSeq (sSet 9 (eOp pAdd (eLst (aCons (eTup (aCons (eOp pIx (eVar 7) (eC (.int 0))) (aCons (eOp pIx (eOp pIx (eVar 8) (eC (.int 0))) (eC (.int 1))) (aNil)))) (aNil))) (eLc (wSeq (eSl (eVar 7) (oSome (eC (.int 1))) (oNone))) (gN 11) (bYes) (eTup (aCons (eVar 11) (aCons (eCall d_of (aCons (eVar 0) (aCons (eVar 2) (aNil)))) (aNil)))) [11])))
  (sSeq (sSet 9 (eCall d_mixed (aCons (eVar 0) (aCons (eVar 9) (aNil)))))
  (sRet (eDisp [(eC (.str "knots"), eVar 2), (eC (.str "arrows"), eCall d_mixed (aCons (eVar 0) (aCons (eVar 3) (aNil)))), (eC (.str "stems"), eVar 8), (eC (.str "places"), eVar 9)])))))))
def d_ladder : List MV → Sto → Re MV := runB 12 b_ladder
/-- the place of a list that is not the source's -/
structure LAt (s c : Nat) (D : Sto) (j : Nat) (xs : List MV) : Prop where
  at_ : D[j]? = some (.lst xs)
  ns : j ≠ s
  nc : j ≠ c
section
variable {s c : Nat} {D D1 D2 : Sto} {P : MV → Sto → Prop}
theorem LAt.fr {j : Nat} {xs : List MV} (h : LAt s c D j xs) (f : Fr (some (s, c)) D D1) : LAt s c D1 j xs := ⟨f.at h.at_ (out_some h.ns h.nc), h.ns, h.nc⟩
theorem strs_rel : ∀ ws : List Str, Paired (fun v w => v = MV.str w) (ws.map MV.str) ws
  | [] => .nil
  | _ :: r => .cons rfl (strs_rel r)
theorem all_some {α : Type} : ∀ ws : List α, ws.filterMap some = ws
  | [] => rfl
  | w :: r => by rw [List.filterMap_cons, all_some r]
def HomeAt (D : Sto) (v : MV) (w : Str) : Prop := ∃ p : Str × Str, PairAt D v p ∧ p.1 = w ∧ Wd p.2
theorem homes_pairs {vs : List MV} {ws : List Str} (h : Paired (HomeAt D) vs ws) : ∃ ps : List (Str × Str), PairsAt D vs ps ∧ ps.map (·.1) = ws ∧ ∀ p ∈ ps, Wd p.2 := by
  induction h with
  | nil => exact ⟨[], .nil, rfl, fun p hp => by cases hp⟩
  | cons r t ih =>
    obtain ⟨p, h1, h2, h3⟩ := r
    obtain ⟨ps, g1, g2, g3⟩ := ih
    refine ⟨p :: ps, .cons h1 g1, by rw [List.map_cons, h2, g2], fun q hq => ?_⟩
    rcases List.mem_cons.mp hq with e | m
    · rw [e]; exact h3
    · exact g3 q m
/-- words at places, each with one of the knots: what the two comprehensions of a ladder make -/
theorem homes_ok {ρ : Rho} {m : EM} {slot kn : Nat} {ws ks : List Str} (hs : ρ[0]? = some (some (.ref s))) (h2 : ρ[2]? = some (some (.ref kn))) (h10 : slot ≠ 0 ∧ slot ≠ 2) (hlen : slot < ρ.length)
    (hm : Ev (m ρ D) fun v D0 => ∃ j, v = .ref j ∧ LAt s c D0 j (ws.map MV.str) ∧ LAt s c D0 kn (ks.map MV.str) ∧ SrcOk D0 s c ∧ (∀ w ∈ ks, Wd w) ∧ 1 ≤ ks.length ∧ ks.length ≤ 100 ∧ ws.length ≤ 100 ∧
      ∀ vs ps D', Fr (some (s, c)) D0 D' → SrcOk D' s c → LAt s c D' D0.length vs → PairsAt D' vs ps → ps.map (·.1) = ws → (∀ p ∈ ps, Wd p.2) → P (.ref D0.length) D') :
    Ev (eLc (wSeq m) (gN slot) bYes (eTup (aCons (eVar slot) (aCons (eCall d_of (aCons (eVar 0) (aCons (eVar 2) aNil))) aNil))) [slot] ρ D) P := by
  refine lc_map (S := some (s, c)) (α := Str) (β := Str) (fun v w => v = MV.str w) HomeAt some (fun D D' v w h f k => ?_) (fun D v w L acc acc' e h => ?_) ?_
  · obtain ⟨p, g1, g2, g3⟩ := h
    exact ⟨p, g1.src f (k (s, c) rfl), g2, g3⟩
  · obtain ⟨p, g1, g2, g3⟩ := h
    exact ⟨p, g1.set e, g2, g3⟩
  refine hm.imp fun v D0 ⟨j, hv, l1, l2, sk, wk, k1, k2, k3, fin⟩ => ?_
  refine ⟨j, ws.map MV.str, ws, hv, rdL_lst l1.at_, out_some l1.ns l1.nc, ?_, by rw [List.length_map]; omega, ok_some sk, ?_, ?_⟩
  · exact strs_rel ws
  · rintro x w D2 rfl _ f2 ok2
    have hz : (ρ.set slot none).length = ρ.length := List.length_set
    have e0 : ((ρ.set slot none).set slot (some (MV.str w)))[0]? = some (some (.ref s)) := by
      rw [List.getElem?_set_ne h10.1, List.getElem?_set_ne h10.1]; exact hs
    have e2 : ((ρ.set slot none).set slot (some (MV.str w)))[2]? = some (some (.ref kn)) := by
      rw [List.getElem?_set_ne h10.2, List.getElem?_set_ne h10.2]; exact h2
    have es : ((ρ.set slot none).set slot (some (MV.str w)))[slot]? = some (some (.str w)) := List.getElem?_set_self (by rw [hz]; exact hlen)
    refine ⟨(ρ.set slot none).set slot (some (.str w)), rfl, ?_, ?_⟩
    · show ((ρ.set slot none).set slot (some (.str w))).set slot none = ρ.set slot none
      rw [List.set_set, List.set_set]
    generalize (ρ.set slot none).set slot (some (MV.str w)) = ρ1 at e0 e2 es
    unfold bYes
    rw [ev_ok]
    refine ⟨Fr.refl _ _, ok2, rfl, fun _ => ?_⟩
    have sk2 : SrcOk D2 s c := ok2 (s, c) rfl
    have l2' := l2.fr f2
    rw [ev_tup, ev_cons, ev_var es, ev_cons, ev_call, ev_cons, ev_var e0, ev_cons, ev_var e2, ev_nil]
    refine of_ok sk2 l2'.at_ l2'.ns l2'.nc (by rw [List.length_map]; exact k1) (by rw [List.length_map]; omega) fun v D3 hv' sk3 o3 => ?_
    obtain ⟨kw, hkw, rfl⟩ := List.mem_map.mp hv'
    rw [ev_nil]
    refine ⟨sz_le (by simp), (Fr.only o3 sk3).trans Fr.snoc, ok_some sk3.new, w, rfl, (w, kw), ⟨D3.length, rfl, get_new⟩, rfl, wk kw hkw⟩
  · intro ys D' f2 ok2 hys hrel
    rw [all_some] at hrel
    obtain ⟨ps, g1, g2, g3⟩ := homes_pairs hrel
    have hn := new_ne sk
    exact fin ys ps D' f2 (ok2 (s, c) rfl) ⟨hys, hn.1, hn.2⟩ g1 g2 g3
theorem one_plus (r : Nat) : (1 : Int) + (r : Nat) = ((1 + r : Nat) : Int) := by omega
theorem ev_revP {v : MV} {p : Str × Str} (h : PairAt D v p) : Ev (pRevA v D) P = P (.ref D.length) (D ++ [.tup [.str p.2, .str p.1]]) := by
  obtain ⟨i, rfl, e⟩ := h
  rw [ev_revT e]
  rfl
/-- the arrows: each knot but the first may have one to an earlier one, or from it -/
theorem arrows_ok {most : MV} {kn aL : Nat} {ks : List Str} {N : Rho → Sto → Prop} {T : MV → Sto → Prop} (sk : SrcOk D s c) (lk : LAt s c D kn (ks.map MV.str)) (la : LAt s c D aL []) (hk : 1 ≤ ks.length) (hk2 : ks.length ≤ 100) (wk : ∀ w ∈ ks, Wd w) (hne : kn ≠ aL)
    (fin : ∀ x y va ar D', Fr (some (s, c)) D (D'.set aL (.lst [])) → SrcOk D' s c → LAt s c D' kn (ks.map MV.str) → LAt s c D' aL va → PairsAt D' va ar → (∀ p ∈ ar, Wd p.1 ∧ Wd p.2) → ar.length ≤ 100 →
      (∀ i, i < D.length → i ≠ s → i ≠ c → i ≠ aL → D'[i]? = D[i]?) → D.length ≤ D'.length → N [some (.ref s), some most, some (.ref kn), some (.ref aL), x, y, none, none, none, none, none, none] D') :
    EvS (sFor (wRng2 (eC (.int 1)) (eCall (f1 lenM) (aCons (eVar 2) (aNil)))) (gN 4) (sIf (bTest (eOp pGt (eCall d_pick (aCons (eVar 0) (aCons (eC (.int 5)) (aNil)))) (eC (.int 0)))) (sSeq (sSet 5 (eTup (aCons (eOp pIx (eVar 2) (eVar 4)) (aCons (eOp pIx (eVar 2) (eCall d_pick (aCons (eVar 0) (aCons (eVar 4) (aNil))))) (aNil)))))
      (sDrop (eBm mAppend (eVar 3) (aCons (eIf (bTest (eOp pEqA (eCall d_pick (aCons (eVar 0) (aCons (eC (.int 2)) (aNil)))) (eC (.int 0)))) (eVar 5) (eUn pRevA (eVar 5))) (aNil))))) (sNext)) [some (.ref s), some most, some (.ref kn), some (.ref aL), none, none, none, none, none, none, none, none] D) N T := by
  rw [evS_for]
  refine ev_rng2 (i := 1) (n := ks.length) ?_ (by omega) (by omega)
  rw [ev_c]
  refine ⟨rfl, ?_⟩
  rw [ev_call, ev_cons, ev_v2, ev_nil, ev_lenL lk.at_, List.length_map]
  refine ⟨rfl, ?_⟩
  dsimp only
  refine for_ok (fun i ρ D' => (∃ x y, ρ = [some (.ref s), some most, some (.ref kn), some (.ref aL), x, y, none, none, none, none, none, none]) ∧ SrcOk D' s c ∧ LAt s c D' kn (ks.map MV.str) ∧ D.length ≤ D'.length ∧ (∀ i, i < D.length → i ≠ s → i ≠ c → i ≠ aL → D'[i]? = D[i]?) ∧
      ∃ va ar, LAt s c D' aL va ∧ PairsAt D' va ar ∧ (∀ p ∈ ar, Wd p.1 ∧ Wd p.2) ∧ va.length ≤ i) _ 0 _ _ ⟨⟨none, none, rfl⟩, sk, lk, Nat.le_refl _, fun _ _ _ _ _ => rfl, [], [], la, .nil, (fun p hp => (by cases hp)), Nat.le_refl _⟩ ?_ ?_
  · rintro i ρ D1 hi0 hi ⟨⟨x, y, rfl⟩, sk1, lk1, hle, hold, va, ar, la1, pa, wa, hl⟩
    have hi' : 1 + i < ks.length := by omega
    refine ⟨rfl, .int ((1 + i : Nat) : Int), D1, [some (.ref s), some most, some (.ref kn), some (.ref aL), some (.int ((1 + i : Nat) : Int)), y, none, none, none, none, none, none], ?_, rfl, ?_⟩
    · show some (MV.int (((1 : Nat) : Int) + (i : Nat)), D1) = _
      rw [show (((1 : Nat) : Int) + (i : Nat)) = ((1 + i : Nat) : Int) by omega]
    rw [evS_if, ev_test, ev_op, ev_call, ev_cons, ev_v0, ev_cons, ev_c, ev_nil]
    refine pick_ok (many := 5) sk1 (by omega) (by omega) fun r D2 hr sk2 o2 => ?_
    rw [ev_c, ev_gt, ev_bl]
    have f2 : Fr (some (s, c)) D1 D2 := Fr.only o2 sk2
    have la2 := la1.fr f2
    have lk2 := lk1.fr f2
    have pa2 := pa.src f2 sk1
    have old2 : ∀ i, i < D.length → i ≠ s → i ≠ c → i ≠ aL → D2[i]? = D[i]? := fun i a b d e => (o2.get i b d).trans (hold i a b d e)
    by_cases hq : (0 : Int) < (r : Int)
    · rw [decide_eq_true hq, if_pos rfl, evS_seq, evS_set, ev_tup, ev_cons, ev_op, ev_v2, ev_var (i := 4) rfl]
      have e1 : (ks.map MV.str)[1 + i]? = some (.str ks[1 + i]) := by simp [hi']
      rw [ev_ixL lk2.at_ e1, ev_cons, ev_op, ev_v2, ev_call, ev_cons, ev_v0, ev_cons, ev_var (i := 4) rfl, ev_nil]
      refine pick_ok sk2 (by omega) (by omega) fun r2 D3 hr2 sk3 o3 => ?_
      have f3 : Fr (some (s, c)) D2 D3 := Fr.only o3 sk3
      have hr2' : r2 < ks.length := by omega
      have e2 : (ks.map MV.str)[r2]? = some (.str ks[r2]) := by simp [hr2']
      rw [ev_ixL (lk2.fr f3).at_ e2, ev_nil]
      refine ⟨sz_le (by simp), ?_⟩
      show EvS (sDrop _ [some (.ref s), some most, some (.ref kn), some (.ref aL), some (.int ((1 + i : Nat) : Int)), some (.ref D3.length), none, none, none, none, none, none] (D3 ++ [Ob.tup [.str ks[1 + i], .str ks[r2]]])) _ _
      have f4 : Fr (some (s, c)) D3 (D3 ++ [Ob.tup [.str ks[1 + i], .str ks[r2]]]) := Fr.snoc
      have sk4 : SrcOk (D3 ++ [Ob.tup [.str ks[1 + i], .str ks[r2]]]) s c := sk3.new
      have hp4 : PairAt (D3 ++ [Ob.tup [.str ks[1 + i], .str ks[r2]]]) (.ref D3.length) (ks[1 + i], ks[r2]) := ⟨D3.length, rfl, get_new⟩
      have la4 := (la2.fr f3).fr f4
      have lk4 := (lk2.fr f3).fr f4
      have pa4 := (pa2.src f3 sk2).src f4 sk3
      have old4 : ∀ j, j < D.length → j ≠ s → j ≠ c → j ≠ aL → (D3 ++ [Ob.tup [.str ks[1 + i], .str ks[r2]]])[j]? = D[j]? := fun j a b d e => by
        rw [f4.get j (Nat.lt_of_lt_of_le a (by rw [o3.len, o2.len]; exact hle)) (out_some b d), o3.get j b d]
        exact old2 j a b d e
      have hle4 : D.length ≤ (D3 ++ [Ob.tup [.str ks[1 + i], .str ks[r2]]]).length := by rw [List.length_append, o3.len, o2.len]; omega
      generalize D3.length = T3 at hp4
      generalize (D3 ++ [Ob.tup [MV.str ks[1 + i], MV.str ks[r2]]]) = D4 at f4 sk4 hp4 la4 lk4 pa4 old4 hle4
      have wk1 : Wd ks[1 + i] := wk _ (List.getElem_mem hi')
      have wk2 : Wd ks[r2] := wk _ (List.getElem_mem hr2')
      rw [evS_drop]
      unfold eBm
      have ht : eBm.tyM D4 (.ref aL) = true := by unfold eBm.tyM; simp [la4.at_]
      rw [ev_bind, ev_v3, if_pos ht, ev_bind, ev_cons, ev_eif, ev_test, ev_op, ev_call, ev_cons, ev_v0, ev_cons, ev_c, ev_nil]
      refine pick_ok (many := 2) sk4 (by omega) (by omega) fun r3 D5 hr3 sk5 o5 => ?_
      have f5 : Fr (some (s, c)) D4 D5 := Fr.only o5 sk5
      rw [ev_c, ev_eqI, ev_bl]
      have endd : ∀ (v : MV) (q : Str × Str) (D6 : Sto), Fr (some (s, c)) D5 D6 → SrcOk D6 s c → PairAt D6 v q → Wd q.1 ∧ Wd q.2 → (∀ i, i < D5.length → i ≠ s → i ≠ c → D6[i]? = D5[i]?) → Ev (mAppend (.ref aL) [v] D6) fun _ D7 =>
          (∃ x y, [some (.ref s), some most, some (.ref kn), some (.ref aL), some (.int ((1 + i : Nat) : Int)), some (.ref T3), none, none, none, none, none, none] = [some (.ref s), some most, some (.ref kn), some (.ref aL), x, y, none, none, none, none, none, none]) ∧ SrcOk D7 s c ∧ LAt s c D7 kn (ks.map MV.str) ∧ D.length ≤ D7.length ∧ (∀ i, i < D.length → i ≠ s → i ≠ c → i ≠ aL → D7[i]? = D[i]?) ∧
            ∃ va ar, LAt s c D7 aL va ∧ PairsAt D7 va ar ∧ (∀ p ∈ ar, Wd p.1 ∧ Wd p.2) ∧ va.length ≤ i + 1 := by
        intro v q D6 f6 sk6 hv6 wq h6
        have la6 := (la4.fr f5).fr f6
        have lk6 := (lk4.fr f5).fr f6
        have pa6 := (pa4.src f5 sk4).src f6 sk5
        rw [ev_appendL la6.at_ (sz_lt (by omega))]
        refine ⟨⟨_, _, rfl⟩, sk6.set la6.ns la6.nc, ⟨by rw [List.getElem?_set_ne (Ne.symm hne)]; exact lk6.at_, lk6.ns, lk6.nc⟩, ?_, ?_, va ++ [v], ar ++ [q], ⟨?_, la6.ns, la6.nc⟩, ?_, ?_, ?_⟩
        · rw [List.length_set]
          exact Nat.le_trans hle4 (Nat.le_trans f5.le f6.le)
        · intro j a b d e
          rw [List.getElem?_set_ne (Ne.symm e), h6 j (Nat.lt_of_lt_of_le a (Nat.le_trans hle4 f5.le)) b d, o5.get j b d]
          exact old4 j a b d e
        · rw [List.getElem?_set_self (List.getElem?_eq_some_iff.mp la6.at_).1]
        · exact Pd.snoc (pa6.set la6.at_) (hv6.set la6.at_)
        · intro p hp
          rcases List.mem_append.mp hp with m | m
          · exact wa p m
          · rw [List.mem_singleton.mp m]; exact wq
        · rw [List.length_append, List.length_singleton]; omega
      have hp5 := hp4.src f5 sk4
      cases h0 : ((r3 : Int) == 0) with
      | true =>
        rw [if_pos rfl, ev_var (i := 5) rfl, ev_nil]
        exact endd _ _ D5 (Fr.refl _ _) sk5 hp5 ⟨wk1, wk2⟩ fun _ _ _ _ => rfl
      | false =>
        rw [if_neg (by decide), ev_un, ev_var (i := 5) rfl, ev_revP hp5, ev_nil]
        exact endd _ (ks[r2], ks[1 + i]) _ Fr.snoc sk5.new ⟨D5.length, rfl, get_new⟩ ⟨wk2, wk1⟩ fun j a _ _ => List.getElem?_append_left a
    · rw [decide_eq_false hq, if_neg (by decide), evS_next]
      exact ⟨⟨_, _, rfl⟩, sk2, lk2, by rw [o2.len]; exact hle, old2, va, ar, la2, pa2, wa, by omega⟩
  · rintro ρ D1 ⟨⟨x, y, rfl⟩, sk1, lk1, hle, hold, va, ar, la1, pa, wa, hl⟩
    refine ⟨rfl, fin x y va ar D1 ?_ sk1 lk1 la1 pa wa (by rw [← Pd.len pa]; omega) hold hle⟩
    refine ⟨by rw [List.length_set]; exact hle, fun j a b => ?_, fun _ p hp => by cases hp; exact sk1.set la1.ns la1.nc⟩
    by_cases q : j = aL
    · subst q
      rw [List.getElem?_set_self (List.getElem?_eq_some_iff.mp la1.at_).1]
      exact la.at_.symm
    · rw [List.getElem?_set_ne (Ne.symm q)]
      exact hold j a (b (s, c) rfl).1 (b (s, c) rfl).2 q
end
end Mp

set_option Elab.async false
set_option linter.all false
set_option maxRecDepth 10000
namespace Mp
open PySem L2

section
variable {s c : Nat} {D D1 D2 : Sto} {P : MV → Sto → Prop}
theorem LAt.only {j : Nat} {xs : List MV} (h : LAt s c D j xs) (o : Only2 s c D D1) : LAt s c D1 j xs := ⟨(o.get j h.ns h.nc).trans h.at_, h.ns, h.nc⟩
theorem LAt.grow {j : Nat} {xs : List MV} (h : LAt s c D j xs) (o : Grow s c D D1) : LAt s c D1 j xs := ⟨o.at h.at_ h.ns h.nc, h.ns, h.nc⟩
theorem LAt.snoc {j : Nat} {xs : List MV} {o : Ob} (h : LAt s c D j xs) : LAt s c (D ++ [o]) j xs := ⟨get_old h.at_, h.ns, h.nc⟩
theorem LAt.lt {j : Nat} {xs : List MV} (h : LAt s c D j xs) : j < D.length := (List.getElem?_eq_some_iff.mp h.at_).1
/-- drawn words at a place -/
structure NAt (s c : Nat) (D : Sto) (j : Nat) (ws : List Str) : Prop where
  l : LAt s c D j (ws.map MV.str)
  dr : ∃ sh, Drawn ws sh
  lo : 1 ≤ ws.length
  hi : ws.length ≤ 100
theorem NAt.fr {j : Nat} {ws : List Str} (h : NAt s c D j ws) (f : Fr (some (s, c)) D D1) : NAt s c D1 j ws := ⟨h.l.fr f, h.dr, h.lo, h.hi⟩
theorem NAt.wd {j : Nat} {ws : List Str} (h : NAt s c D j ws) : ∀ w ∈ ws, Wd w := let ⟨_, d⟩ := h.dr; drawn_wd d
theorem NAt.nd {j : Nat} {ws : List Str} (h : NAt s c D j ws) : ws.Nodup := let ⟨_, d⟩ := h.dr; drawn_nodup d h.hi
theorem NAt.dig {j : Nat} {ws : List Str} (h : NAt s c D j ws) : ∀ w ∈ ws, ∃ x, x < 100 ∧ Dig w x := fun w hw => by
  obtain ⟨sh, d⟩ := h.dr
  obtain ⟨i, hi, e⟩ := List.mem_iff_getElem.mp hw
  exact ⟨_, Nat.mod_lt _ (by decide), d i w (by rw [List.getElem?_eq_getElem hi, e])⟩
/-- names(source, 1 + pick(source, n)) -/
theorem names1_ok {ρ : Rho} {e : EM} {n : Nat} (hs : ρ[0]? = some (some (.ref s))) (he : ∀ D Q, Ev (e ρ D) Q = Q (.int (n : Nat)) D) (h1 : 1 ≤ n) (h2 : n ≤ 50) (sk : SrcOk D s c)
    (k : ∀ L ws D', NAt s c D' L ws → SrcOk D' s c → Fr (some (s, c)) D D' → D.length ≤ L → P (.ref L) D') :
    Ev (eCall d_names (aCons (eVar 0) (aCons (eOp pAdd (eC (.int 1)) (eCall d_pick (aCons (eVar 0) (aCons e (aNil))))) (aNil))) ρ D) P := by
  rw [ev_call, ev_cons, ev_var hs, ev_cons, ev_op, ev_c, ev_call, ev_cons, ev_var hs, ev_cons, he, ev_nil]
  refine pick_ok sk (by omega) (by omega) fun r D1 hr sk1 o1 => ?_
  rw [ev_add, ev_nil, one_plus]
  refine names_ok sk1 (by omega) fun L ws sh D2 hge hL hl hd sk2 g2 => ?_
  have n1 : L ≠ s ∧ L ≠ c := by
    obtain ⟨a, b⟩ := sk1.lt
    exact ⟨by omega, by omega⟩
  exact k L ws D2 ⟨⟨hL, n1.1, n1.2⟩, ⟨sh, hd⟩, by omega, by omega⟩ sk2 ((Fr.only o1 sk1).trans (Fr.grow g2 sk2)) (by rw [← o1.len]; exact hge)
theorem ladder_ok {most : Nat} (h1 : 1 ≤ most) (h2 : most ≤ 50) (sk : SrcOk D s c)
    (k : ∀ d ar st pl D', Fr (some (s, c)) D D' → SrcOk D' s c → LadAt D' d ar st pl → D.length ≤ d → (st.map (·.1)).Nodup → (pl.map (·.1)).Nodup → (∀ w ∈ st.map (·.1), ∃ x, x < 100 ∧ Dig w x) → (∀ w ∈ pl.map (·.1), ∃ x, x < 100 ∧ Dig w x) → P (.ref d) D') : Ev (d_ladder [.ref s, .int most] D) P := by
  refine ev_run ?_
  show EvS (b_ladder [some (.ref s), some (.int most), none, none, none, none, none, none, none, none, none, none] D) _ _
  unfold b_ladder
  rw [evS_seq]
  refine evS_asg ?_
  rw [ev_tup, ev_cons]
  refine names1_ok (s := s) (c := c) rfl (fun D Q => ev_v1) h1 h2 sk fun kn ks D1 nk sk1 f1 gk => ?_
  rw [ev_cons, ev_lst, ev_nil]
  refine ⟨sz_le (by simp), ?_⟩
  rw [ev_nil]
  refine ⟨sz_le (by simp), [some (.ref s), some (.int most), some (.ref kn), some (.ref D1.length), none, none, none, none, none, none, none, none], ?_, ?_⟩
  · unfold gT
    dsimp only
    have e : rdT ((D1 ++ [Ob.lst []]) ++ [Ob.tup [.ref kn, .ref D1.length]]) (D1 ++ [Ob.lst []]).length = some [.ref kn, .ref D1.length] := by unfold rdT; rw [get_new]
    rw [e]
    rfl
  have nn := new_ne sk1
  have f2 : Fr (some (s, c)) D1 ((D1 ++ [Ob.lst []]) ++ [Ob.tup [.ref kn, .ref D1.length]]) := Fr.snoc.trans Fr.snoc
  have sk2 : SrcOk ((D1 ++ [Ob.lst []]) ++ [Ob.tup [.ref kn, .ref D1.length]]) s c := sk1.new.new
  have la : LAt s c ((D1 ++ [Ob.lst []]) ++ [Ob.tup [.ref kn, .ref D1.length]]) D1.length [] := ⟨get_old get_new, nn.1, nn.2⟩
  have nk2 := nk.fr f2
  have hkl : kn < D1.length := nk.l.lt
  have gD : D.length ≤ D1.length := f1.le
  have f02 := f1.trans f2
  generalize D1.length = aL at la hkl gD f2 sk2 nk2 f02
  generalize ((D1 ++ [Ob.lst []]) ++ [Ob.tup [.ref kn, .ref aL]]) = D2 at f2 sk2 la nk2 f02
  rw [evS_seq]
  refine arrows_ok sk2 nk2.l la nk2.lo nk2.hi nk2.wd (by omega) fun x y va ar D3 f3 sk3 lk3 la3 pa3 wa3 za3 old3 le3 => ?_
  have nk3 : NAt s c D3 kn ks := ⟨lk3, nk2.dr, nk2.lo, nk2.hi⟩
  have f03 : Fr (some (s, c)) D D3 := ⟨Nat.le_trans f02.le le3, fun i a b => by
    rw [old3 i (Nat.lt_of_lt_of_le a f02.le) (b (s, c) rfl).1 (b (s, c) rfl).2 (by omega)]
    exact f02.get i a b, fun _ p hp => by cases hp; exact sk3⟩
  -- stems and places
  rw [evS_seq, evS_par]
  refine names1_ok (s := s) (c := c) rfl (fun D Q => by rw [ev_c]; rfl) (n := 4) (by omega) (by omega) sk3 fun jS ss D4 nS sk4 f4 gS => ?_
  refine names1_ok (s := s) (c := c) rfl (fun D Q => by rw [ev_c]; rfl) (n := 4) (by omega) (by omega) sk4 fun jP pp D5 nP sk5 f5 gP => ?_
  show EvS (sSeq _ _ [some (.ref s), some (.int most), some (.ref kn), some (.ref aL), x, y, some (.ref jS), some (.ref jP), none, none, none, none] D5) _ _
  have nS5 := nS.fr f5
  have nk5 := (nk3.fr f4).fr f5
  have la5 := (la3.fr f4).fr f5
  have pa5 := (pa3.src f4 sk3).src f5 sk4
  have f05 := (f03.trans f4).trans f5
  rw [evS_seq, evS_set]
  refine homes_ok (s := s) (c := c) (ws := ss) (ks := ks) rfl rfl ⟨by decide, by decide⟩ (by simp) ?_
  rw [ev_var (i := 6) rfl]
  refine ⟨jS, rfl, nS5.l, nk5.l, sk5, nk5.wd, nk5.lo, nk5.hi, nS5.hi, fun vS st D6 f6 sk6 lS pS eS wS => ?_⟩
  show EvS (sSeq _ _ [some (.ref s), some (.int most), some (.ref kn), some (.ref aL), x, y, some (.ref jS), some (.ref jP), some (.ref D5.length), none, none, none] D6) _ _
  have nP6 := nP.fr f6
  have nk6 := nk5.fr f6
  have la6 := la5.fr f6
  have pa6 := pa5.src f6 sk5
  have f06 := f05.trans f6
  have gST : D.length ≤ D5.length := f05.le
  generalize D5.length = jT at lS gST
  -- the first place has the first stem's home
  have hst1 : 1 ≤ st.length := by
    have := congrArg List.length eS
    rw [List.length_map] at this
    have := nS5.lo
    omega
  obtain ⟨p0, st', rfl⟩ : ∃ p0 st', st = p0 :: st' := by
    cases st with
    | nil => simp at hst1
    | cons p r => exact ⟨p, r, rfl⟩
  obtain ⟨w0, pp', rfl⟩ : ∃ w0 pp', pp = w0 :: pp' := by
    cases pp with
    | nil => have := nP.lo; simp at this
    | cons p r => exact ⟨p, r, rfl⟩
  obtain ⟨v0, vS', rfl⟩ : ∃ v0 vS', vS = v0 :: vS' := by
    cases pS with
    | cons r t => exact ⟨_, _, rfl⟩
  have pv0 : PairAt D6 v0 p0 := by
    cases pS with
    | cons r t => exact r
  rw [evS_seq, evS_set, ev_op, ev_lst, ev_cons, ev_tup, ev_cons, ev_op, ev_var (i := 7) rfl, ev_c]
  rw [show (MV.int 0) = MV.int ((0 : Nat) : Int) from rfl, ev_ixL nP6.l.at_ (r := 0) rfl, ev_cons, ev_op, ev_op, ev_var (i := 8) rfl, ev_c, ev_ixL lS.at_ (r := 0) rfl, ev_c, ev_pair1 pv0, ev_nil]
  refine ⟨sz_le (by simp), ?_⟩
  rw [ev_nil]
  refine ⟨sz_le (by simp), ?_⟩
  have sk7 : SrcOk ((D6 ++ [Ob.tup [.str w0, .str p0.2]]) ++ [Ob.lst [.ref D6.length]]) s c := sk6.new.new
  have f7 : Fr (some (s, c)) D6 ((D6 ++ [Ob.tup [.str w0, .str p0.2]]) ++ [Ob.lst [.ref D6.length]]) := Fr.snoc.trans Fr.snoc
  have pF : PairAt ((D6 ++ [Ob.tup [.str w0, .str p0.2]]) ++ [Ob.lst [.ref D6.length]]) (.ref D6.length) (w0, p0.2) := ⟨D6.length, rfl, get_old get_new⟩
  have nn7 := new_ne (sk6.new (o := Ob.tup [.str w0, .str p0.2]))
  have lF : LAt s c ((D6 ++ [Ob.tup [.str w0, .str p0.2]]) ++ [Ob.lst [.ref D6.length]]) (D6 ++ [Ob.tup [.str w0, .str p0.2]]).length [.ref D6.length] := ⟨get_new, nn7.1, nn7.2⟩
  generalize (D6 ++ [Ob.tup [.str w0, .str p0.2]]).length = jF at lF
  generalize D6.length = tF at pF lF sk7 f7
  generalize ((D6 ++ [Ob.tup [.str w0, .str p0.2]]) ++ [Ob.lst [.ref tF]]) = D7 at pF lF sk7 f7
  have nP7 := nP6.fr f7
  have nk7 := nk6.fr f7
  refine homes_ok (s := s) (c := c) (ws := pp') (ks := ks) rfl rfl ⟨by decide, by decide⟩ (by simp) ?_
  unfold eSl oSome oNone
  rw [ev_bind, ev_var (i := 7) rfl, ev_bind, ev_bind, ev_c]
  unfold intOf
  rw [ev_ok, ev_bind, ev_ok]
  unfold pSl
  dsimp only
  rw [nP7.l.at_]
  dsimp only
  unfold new
  rw [ev_ok]
  have hcut : cutM ((w0 :: pp').map MV.str) (some 1) none = pp'.map MV.str := by
    unfold cutM
    have e1 : HT.sIx ((w0 :: pp').map MV.str).length 0 (some 1) = 1 := by
      have := HT.sIx_nat ((w0 :: pp').map MV.str).length 0 1
      rw [show ((1 : Nat) : Int) = 1 from rfl] at this
      rw [this]
      simp
    rw [e1, HT.sIx_none]
    simp
    rw [List.take_of_length_le (by simp)]
  rw [hcut]
  have nn8 := new_ne sk7
  refine ⟨D7.length, rfl, ⟨get_new, nn8.1, nn8.2⟩, (nk7.l).snoc, sk7.new, nk7.wd, nk7.lo, nk7.hi, by have := nP7.hi; simp at this; omega, fun vP pl' D8 f8 sk8 lP pP eP wP => ?_⟩
  have f78 : Fr (some (s, c)) D7 D8 := Fr.snoc.trans f8
  have lF8 := lF.fr f78
  have pF8 := pF.src f78 sk7
  rw [ev_catL lF8.at_ lP.at_ (sz_le (by rw [Pd.len pP]; have := congrArg List.length eP; rw [List.length_map] at this; have := nP7.hi; simp at this ⊢; omega))]
  have hpl' : pl'.length ≤ 100 := by
    have := congrArg List.length eP
    rw [List.length_map] at this
    have := nP7.hi
    simp at this
    omega
  show EvS (sSeq _ _ [some (.ref s), some (.int most), some (.ref kn), some (.ref aL), x, y, some (.ref jS), some (.ref jP), some (.ref jT), some (.ref D8.length), none, none] (D8 ++ [Ob.lst ([MV.ref tF] ++ vP)])) _ _
  have nn9 := new_ne sk8
  have f9 : Fr (some (s, c)) D8 (D8 ++ [Ob.lst ([MV.ref tF] ++ vP)]) := Fr.snoc
  have sk9 : SrcOk (D8 ++ [Ob.lst ([MV.ref tF] ++ vP)]) s c := sk8.new
  have lC : LAt s c (D8 ++ [Ob.lst ([MV.ref tF] ++ vP)]) D8.length ([MV.ref tF] ++ vP) := ⟨get_new, nn9.1, nn9.2⟩
  have pC : PairsAt (D8 ++ [Ob.lst ([MV.ref tF] ++ vP)]) ([MV.ref tF] ++ vP) ((w0, p0.2) :: pl') := .cons (pF8.src f9 sk8) (pP.src f9 sk8)
  have f69 : Fr (some (s, c)) D6 (D8 ++ [Ob.lst ([MV.ref tF] ++ vP)]) := (f7.trans f78).trans f9
  generalize D8.length = jC at lC
  generalize (D8 ++ [Ob.lst ([MV.ref tF] ++ vP)]) = D9 at sk9 lC pC f69
  have lS9 := lS.fr f69
  have pS9 := pS.src f69 sk6
  have la9 := la6.fr f69
  have pa9 := pa6.src f69 sk6
  have f09 := f06.trans f69
  rw [evS_seq, evS_set, ev_call, ev_cons, ev_v0, ev_cons, ev_var (i := 9) rfl, ev_nil]
  refine mixed_ok sk9 lC.at_ lC.ns lC.nc (by rw [Pd.len pC]; simp; omega) fun L ys D10 hge hperm hL sk10 g10 => ?_
  obtain ⟨pl, hpm, hpl⟩ := perm_rel hperm pC
  have f10 : Fr (some (s, c)) D9 D10 := Fr.grow g10 sk10
  have hpl10 := PairsAt.src hpl f10 sk9
  have lS10 := lS9.fr f10
  have pS10 := pS9.src f10 sk9
  have la10 := la9.fr f10
  have pa10 := pa9.src f10 sk9
  have f010 := f09.trans f10
  have hLs : L ≠ s ∧ L ≠ c := by
    obtain ⟨a, b⟩ := sk9.lt
    exact ⟨by omega, by omega⟩
  show EvS (sRet _ [some (.ref s), some (.int most), some (.ref kn), some (.ref aL), x, y, some (.ref jS), some (.ref jP), some (.ref jT), some (.ref L), none, none] D10) _ _
  rw [evS_ret]
  refine ev_disp ?_
  have fd : Fr (some (s, c)) D10 (D10 ++ [Ob.dic []]) := Fr.snoc
  have nnd := new_ne sk10
  have gd : (D10 ++ [Ob.dic []])[D10.length]? = some (.dic []) := get_new
  have la11 := la10.fr fd
  have sk11 : SrcOk (D10 ++ [Ob.dic []]) s c := sk10.new
  have hdl : (D10 ++ [Ob.dic []]).length = D10.length + 1 := by simp
  rw [ev_prs, ev_c, ev_v2, ev_prs, ev_c, ev_call, ev_cons, ev_v0, ev_cons, ev_v3, ev_nil]
  refine mixed_ok sk11 la11.at_ la11.ns la11.nc (by rw [Pd.len pa3]; omega) fun LA ysA D11 hgeA hpermA hLA sk12 gA => ?_
  obtain ⟨ar', hpmA, hplA⟩ := perm_rel hpermA (pa10.src fd sk10)
  have fA : Fr (some (s, c)) (D10 ++ [Ob.dic []]) D11 := Fr.grow gA sk12
  have hplA11 := PairsAt.src hplA fA sk11
  have gd11 : D11[D10.length]? = some (.dic []) := fA.at gd (out_some nnd.1 nnd.2)
  have hL11 : D11[L]? = some (.lst ys) := (fd.trans fA).at hL (out_some hLs.1 hLs.2)
  have lS11 := lS10.fr (fd.trans fA)
  have pS11 := pS10.src (fd.trans fA) sk10
  have hpl11 := hpl10.src (fd.trans fA) sk10
  rw [ev_prs, ev_c, ev_var (i := 8) rfl, ev_prs, ev_c, ev_var (i := 9) rfl, ev_prs0]
  refine ⟨gd11, _, rfl, (by show 4 ≤ 15; omega), ?_⟩
  have hLlt : L < D10.length := (List.getElem?_eq_some_iff.mp hL).1
  have hTlt : jT < D10.length := lS10.lt
  have ePl : (pl.map (·.1)).Perm (w0 :: pp') := by
    have := hpm.map (·.1)
    simpa [eP] using this
  have setD : ∀ {vs : List MV} {ps : List (Str × Str)} {o : Ob}, PairsAt D11 vs ps → PairsAt (D11.set D10.length o) vs ps := fun {vs ps o} h => Pd.mono h fun v p r => r.mono fun i u hv hi => by
    have hne : D10.length ≠ i := fun z => by
      subst z
      obtain ⟨j, hj, hd⟩ := r
      rw [hv] at hj
      cases hj
      rw [gd11] at hd
      cases hd
    rw [List.getElem?_set_ne hne]
    exact hi
  have arS : ∀ p ∈ ar', Wd p.1 ∧ Wd p.2 := fun p hp => wa3 p (hpmA.mem_iff.mp hp)
  refine k D10.length ar' (p0 :: st') pl _ ((f010.trans fd).trans fA |>.setNew (ok_some sk) f010.le) (sk12.set nnd.1 nnd.2) ⟨⟨.ref kn, LA, jT, L, ysA, _, ys, ?_, ?_, ?_, ?_, setD hplA11, setD pS11, setD hpl11⟩, arS, ?_, ?_, ?_, ?_, ?_⟩ f010.le ?_ ?_ ?_ ?_
  · rw [List.getElem?_set_self (List.getElem?_eq_some_iff.mp gd11).1]
    rfl
  · rw [List.getElem?_set_ne (by omega)]
    exact hLA
  · rw [List.getElem?_set_ne (by omega)]
    exact lS11.at_
  · rw [List.getElem?_set_ne (by omega)]
    exact hL11
  · intro p hp
    refine ⟨nS5.wd _ ?_, wS p hp⟩
    rw [← eS]
    exact List.mem_map_of_mem hp
  · intro p hp
    have hm := hpm.mem_iff.mp hp
    refine ⟨nP6.wd _ ?_, ?_⟩
    · have : p.1 ∈ pl.map (·.1) := List.mem_map_of_mem hp
      exact ePl.mem_iff.mp this
    · rcases List.mem_cons.mp hm with e | m
      · rw [e]; exact wS p0 List.mem_cons_self
      · exact wP p m
  · rw [hpmA.length_eq]; exact za3
  · have := congrArg List.length eS
    rw [List.length_map] at this
    rw [this]; exact nS5.hi
  · rw [hpm.length_eq]
    have := congrArg List.length eP
    rw [List.length_map] at this
    have := nP6.hi
    simp at this ⊢
    omega
  · rw [eS]; exact nS5.nd
  · exact ePl.nodup_iff.mpr nP6.nd
  · rw [eS]; exact nS5.dig
  · intro w hw
    exact nP6.dig w (ePl.mem_iff.mp hw)
end
end Mp

set_option Elab.async false
set_option linter.all false
set_option maxRecDepth 10000
namespace Mp
open PySem L2

/-- a comprehension whose test may draw: some of the items, in their order -/
theorem lc_sub {α : Type} {S : Sc} {m : EM} {g : GM} {t : BM} {e : EM} {vs : List Nat} {ρ : Rho} {D : Sto} {P : MV → Sto → Prop} (Rin : MV → α → Prop) (Rel : Sto → MV → α → Prop)
    (mono : ∀ D D' v b, Rel D v b → Fr S D D' → OkS S D → Rel D' v b) (stay : ∀ D v b L acc acc', D[L]? = some (.lst acc) → Rel D v b → Rel (D.set L (.lst acc')) v b)
    (hw : Ev (m ρ D) fun v D0 => ∃ j xs as, v = .ref j ∧ rdL D0 j = some xs ∧ Out S j ∧ Paired Rin xs as ∧ xs.length ≤ 1000000 ∧ OkS S D0 ∧
      (∀ x a D', Rin x a → x ∈ xs → Fr S D0 D' → OkS S D' → ∃ ρ1, g x (wipeM ρ vs) D' = some ρ1 ∧ wipeM ρ1 vs = wipeM ρ vs ∧ Ev (t ρ1 D') fun c D2 => Fr S D' D2 ∧ OkS S D2 ∧
        (c = true → Ev (e ρ1 D2) fun y D3 => Fr S D2 D3 ∧ OkS S D3 ∧ Rel D3 y a)) ∧
      ∀ ys bs D', Fr S D0 D' → OkS S D' → D'[D0.length]? = some (.lst ys) → bs.Sublist as → Paired (Rel D') ys bs → P (.ref D0.length) D') : Ev (eLc (wSeq m) g t e vs ρ D) P := by
  rw [ev_lcL]
  obtain ⟨v, D0, e0, j, xs, as, rfl, hj, uj, hp, hz, ok0, step, fin⟩ := hw.get
  refine ev_seqL (j := j) (xs := xs) ?_
  rw [e0, ev_ok]
  refine ⟨rfl, hj, ?_⟩
  dsimp only
  have pl := Pd.len hp
  refine lc_ok (fun i acc D' => Fr S D0 D' ∧ OkS S D' ∧ D0.length < D'.length ∧ ∃ bs : List α, bs.Sublist (as.take i) ∧ Paired (Rel D') acc bs) _ 0 [] _ get_new ⟨Fr.snoc, ok0.snoc, by simp, [], List.nil_sublist _, .nil⟩ ?_ ?_
  · rintro i acc D' hi0 hi hL ⟨fr, ok, hlen, bs, hbs, pr⟩
    have hi' : i < xs.length := by omega
    have ex : xs[i]? = some xs[i] := by simp [hi']
    obtain ⟨a, ea, ra⟩ := Pd.get hp ex
    obtain ⟨ρ1, h1, h2, h3⟩ := step xs[i] a D' ra (List.getElem_mem hi') fr ok
    refine ⟨decide_eq_true (rdL_at fr uj hj), xs[i], D', ρ1, ?_, h1, h2, ?_⟩
    · dsimp only
      unfold seqItem
      rw [ex]
      rfl
    refine h3.imp fun c D2 ⟨f2, k2, hy⟩ => ?_
    have uL : Out S D0.length := ok0.out (Nat.le_refl _)
    have pr2 : Paired (Rel D2) acc bs := Pd.mono pr fun v b r => mono _ _ _ _ r f2 ok
    cases c with
    | false =>
      rw [if_neg (by decide)]
      refine ⟨f2.at hL uL, fr.trans f2, k2, Nat.lt_of_lt_of_le hlen f2.le, bs, ?_, pr2⟩
      rw [take_snoc ea]
      exact hbs.trans (List.sublist_append_left _ _)
    | true =>
      rw [if_pos rfl]
      refine (hy rfl).imp fun y D3 ⟨f3, k3, rb⟩ => ?_
      have fL := (f2.trans f3).at hL uL
      have accl : acc.length ≤ i := by
        rw [Pd.len pr]
        exact Nat.le_trans hbs.length_le (by rw [List.length_take]; omega)
      refine ⟨fL, sz_lt (by omega), ((fr.trans f2).trans f3).setNew ok0 (Nat.le_refl _), k3.set uL, by rw [List.length_set]; exact Nat.lt_of_lt_of_le (Nat.lt_of_lt_of_le hlen f2.le) f3.le, bs ++ [a], ?_, ?_⟩
      · rw [take_snoc ea]
        exact hbs.append (List.Sublist.refl _)
      · exact Pd.snoc (Pd.mono pr2 fun v b r => stay _ _ _ _ _ _ fL (mono _ _ _ _ r f3 k2)) (stay _ _ _ _ _ _ fL rb)
  · rintro acc D' hL ⟨fr, ok, hlen, bs, hbs, pr⟩
    rw [Nat.zero_add, List.take_of_length_le (by omega)] at hbs
    exact ⟨decide_eq_true (rdL_at fr uj hj), fin acc bs D' fr ok hL hbs pr⟩

/-! ### tables as they are drawn -/
/-- a word by the document's form -/
def IsW (w : Str) : Prop := ∃ a r, w.cps.toList = a :: r ∧ 97 ≤ a ∧ a ≤ 122 ∧ r.length ≤ 11 ∧ ∀ x ∈ r, (97 ≤ x ∧ x ≤ 122) ∨ (48 ≤ x ∧ x ≤ 57)
theorem isW_dig {w : Str} {d : Nat} (h : Dig w d) (hd : d < 100) : IsW w := by
  obtain ⟨a, t, e, h1, h2, h3, h4⟩ := h
  refine ⟨a, _, e, h1, h2, by simp; omega, fun x hx => ?_⟩
  rcases List.mem_cons.mp hx with q | hx
  · omega
  · rcases List.mem_cons.mp hx with q | hx
    · omega
    · have := h3 x hx
      omega
theorem isW_wd {w : Str} (h : IsW w) : Wd w := by
  obtain ⟨a, r, e, h1, h2, h3, h4⟩ := h
  show PyData.strOk w = true
  unfold PyData.strOk
  rw [← Array.all_toList, e]
  simp only [List.all_cons, Bool.and_eq_true, decide_eq_true_eq, List.all_eq_true]
  refine ⟨by omega, fun x hx => ?_⟩
  have := h4 x hx
  omega
structure Good (ss pp : List Str) (ff : List (Str × Str)) : Prop where
  sw : ∀ w ∈ ss, IsW w
  pw : ∀ w ∈ pp, IsW w
  sn : ss.Nodup
  pn : pp.Nodup
  fn : ff.Nodup
  fi : ∀ p ∈ ff, p.1 ∈ ss ∧ p.2 ∈ pp
  sz : ss.length ≤ 100
  pz : pp.length ≤ 100
  fz : ff.length ≤ 10000
/-- the dict that tells a table -/
structure TabAt (D : Sto) (t : Nat) (ss pp : List Str) (ff : List (Str × Str)) : Prop where
  ex : ∃ a b f vf, D[t]? = some (.dic [(Sum.inr "stems", .ref a), (Sum.inr "places", .ref b), (Sum.inr "fits", .ref f)]) ∧ D[a]? = some (.lst (ss.map MV.str)) ∧ D[b]? = some (.lst (pp.map MV.str)) ∧ D[f]? = some (.lst vf) ∧ PairsAt D vf ff
  good : Good ss pp ff
theorem fitsF_mem {ar st pl : List (Str × Str)} {p : Str × Str} (h : p ∈ fitsF ar st pl) : p.1 ∈ st.map (·.1) ∧ p.2 ∈ pl.map (·.1) := by
  unfold fitsF at h
  obtain ⟨s, hs, h2⟩ := List.mem_flatMap.mp h
  obtain ⟨q, hq, h3⟩ := List.mem_filterMap.mp h2
  by_cases c : leadsF ar s.2 q.2 = true
  · rw [if_pos c] at h3
    cases h3
    exact ⟨List.mem_map.mpr ⟨s, hs, rfl⟩, List.mem_map.mpr ⟨q, hq, rfl⟩⟩
  · rw [if_neg c] at h3
    cases h3
theorem row_nodup {a : Str} {c : Str × Str → Bool} : ∀ {pl : List (Str × Str)}, (pl.map (·.1)).Nodup → (pl.filterMap fun p => if c p = true then some (a, p.1) else none).Nodup
  | [], _ => List.nodup_nil
  | p :: r, h => by
    rw [List.map_cons] at h
    obtain ⟨h1, h2⟩ := List.nodup_cons.mp h
    rw [List.filterMap_cons]
    by_cases q : c p = true
    · rw [if_pos q]
      refine List.nodup_cons.mpr ⟨fun m => ?_, row_nodup h2⟩
      obtain ⟨z, hz, e⟩ := List.mem_filterMap.mp m
      by_cases q2 : c z = true
      · rw [if_pos q2] at e
        have : z.1 = p.1 := by
          have := Option.some.inj e
          exact (Prod.mk.inj this).2
        exact h1 (List.mem_map.mpr ⟨z, hz, this⟩)
      · rw [if_neg q2] at e
        cases e
    · rw [if_neg q]
      exact row_nodup h2
theorem fitsF_nodup {ar pl : List (Str × Str)} (hp : (pl.map (·.1)).Nodup) : ∀ {st : List (Str × Str)}, (st.map (·.1)).Nodup → (fitsF ar st pl).Nodup
  | [], _ => List.nodup_nil
  | s :: r, h => by
    rw [List.map_cons] at h
    obtain ⟨h1, h2⟩ := List.nodup_cons.mp h
    show ((s :: r).flatMap _).Nodup
    rw [List.flatMap_cons]
    refine List.nodup_append.mpr ⟨row_nodup (c := fun p => leadsF ar s.2 p.2) hp, fitsF_nodup hp h2, fun x hx y hy e => ?_⟩
    subst e
    obtain ⟨z, hz, e⟩ := List.mem_filterMap.mp hx
    have hx1 : x.1 = s.1 := by
      by_cases q : leadsF ar s.2 z.2 = true
      · rw [if_pos q] at e
        rw [← Option.some.inj e]
      · rw [if_neg q] at e
        cases e
    exact h1 (hx1 ▸ (fitsF_mem (ar := ar) (pl := pl) hy).1)
end Mp

set_option Elab.async false
set_option linter.all false
set_option maxRecDepth 10000
namespace Mp
open PySem L2

section
variable {s c : Nat} {D D1 D2 : Sto} {P : MV → Sto → Prop}
theorem fitsF_len {ar pl : List (Str × Str)} : ∀ {st : List (Str × Str)}, (fitsF ar st pl).length ≤ st.length * pl.length
  | [] => by simp [fitsF]
  | x :: r => by
    show ((x :: r).flatMap _).length ≤ _
    rw [List.flatMap_cons, List.length_append, List.length_cons, Nat.add_mul, Nat.one_mul, Nat.add_comm]
    exact Nat.add_le_add fitsF_len (List.length_filterMap_le _ _)
theorem Good.perm {ss pp : List Str} {ff gg : List (Str × Str)} (h : Good ss pp ff) (p : gg.Perm ff) : Good ss pp gg :=
  ⟨h.sw, h.pw, h.sn, h.pn, p.nodup_iff.mpr h.fn, fun q hq => h.fi q (p.mem_iff.mp hq), h.sz, h.pz, by rw [p.length_eq]; exact h.fz⟩
/-- [one[0] for one in ..] -/
theorem firsts_ok {ρ : Rho} {m : EM} (hlen : 4 < ρ.length)
    (hm : Ev (m ρ D) fun v D0 => ∃ j vs ps, v = .ref j ∧ D0[j]? = some (.lst vs) ∧ PairsAt D0 vs ps ∧ ps.length ≤ 100 ∧ ∀ D', Fr none D0 D' → D'[D0.length]? = some (.lst ((ps.map (·.1)).map MV.str)) → P (.ref D0.length) D') :
    Ev (eLc (wSeq m) (gN 4) bYes (eOp pIx (eVar 4) (eC (.int 0))) [4] ρ D) P := by
  obtain ⟨v, D0, e0, j, vs, ps, rfl, hj, hp, hz, fin⟩ := hm.get
  refine lc_map (S := none) (α := Str × Str) (β := Str) (fun v p => PairAt D0 v p) (fun _ v b => v = MV.str b) (fun p => some p.1) (fun _ _ _ _ h _ _ => h) (fun _ _ _ _ _ _ _ h => h) ?_
  rw [e0, ev_ok]
  refine ⟨j, vs, ps, rfl, rdL_lst hj, out_none, hp, by rw [Pd.len hp]; omega, ok_none, ?_, ?_⟩
  · rintro x p D' hx _ f _
    have es : ((ρ.set 4 none).set 4 (some x))[4]? = some (some x) := List.getElem?_set_self (by rw [List.length_set]; exact hlen)
    refine ⟨(ρ.set 4 none).set 4 (some x), rfl, ?_, ?_⟩
    · show ((ρ.set 4 none).set 4 (some x)).set 4 none = ρ.set 4 none
      rw [List.set_set, List.set_set]
    unfold bYes
    rw [ev_ok]
    refine ⟨Fr.refl _ _, ok_none, rfl, fun _ => ?_⟩
    rw [ev_op, ev_var es, ev_c, ev_pair0 (PairAt.fr (S := none) hx f)]
    exact ⟨Fr.refl _ _, ok_none, p.1, rfl, rfl⟩
  · intro ys D' f _ hy hrel
    have e : ps.filterMap (fun p => some p.1) = ps.map (·.1) := by
      clear hrel hp fin hz
      induction ps with
      | nil => rfl
      | cons p r ih => rw [List.filterMap_cons, List.map_cons, ih]
    rw [e] at hrel
    have e2 := strs_of hrel
    subst e2
    exact fin D' f hy
/-- a told table whose lists are not the source's -/
structure TabO (s c : Nat) (D : Sto) (t : Nat) (ss pp : List Str) (ff : List (Str × Str)) : Prop where
  tab : TabAt D t ss pp ff
  away : t ≠ s ∧ t ≠ c ∧ ∃ a b f, D[t]? = some (.dic [(Sum.inr "stems", .ref a), (Sum.inr "places", .ref b), (Sum.inr "fits", .ref f)]) ∧ a ≠ s ∧ a ≠ c ∧ b ≠ s ∧ b ≠ c
/-- the dict of a table is laid, its pairs in a drawn order -/
theorem tabEnd_ok {ρ : Rho} {a b f : Nat} {vf : List MV} {ss pp : List Str} {ff : List (Str × Str)} (h0 : ρ[0]? = some (some (.ref s))) (h5 : ρ[5]? = some (some (.ref a))) (h6 : ρ[6]? = some (some (.ref b))) (h3 : ρ[3]? = some (some (.ref f)))
    (sk : SrcOk D s c) (la : LAt s c D a (ss.map MV.str)) (lb : LAt s c D b (pp.map MV.str)) (lf : LAt s c D f vf) (pf : PairsAt D vf ff) (g : Good ss pp ff)
    (k : ∀ t gg D', Fr (some (s, c)) D D' → SrcOk D' s c → D.length ≤ t → TabO s c D' t ss pp gg → gg.Perm ff → P (.ref t) D') :
    Ev (eDisp [(eC (.str "stems"), eVar 5), (eC (.str "places"), eVar 6), (eC (.str "fits"), eCall d_mixed (aCons (eVar 0) (aCons (eVar 3) (aNil))))] ρ D) P := by
  refine ev_disp ?_
  have fd : Fr (some (s, c)) D (D ++ [Ob.dic []]) := Fr.snoc
  have nn := new_ne sk
  have lf1 := lf.fr fd
  rw [ev_prs, ev_c, ev_var h5, ev_prs, ev_c, ev_var h6, ev_prs, ev_c, ev_call, ev_cons, ev_var h0, ev_cons, ev_var h3, ev_nil]
  refine mixed_ok sk.new lf1.at_ lf1.ns lf1.nc (by rw [Pd.len pf]; have := g.fz; omega) fun L ys D1 hge hperm hL sk1 g1 => ?_
  have f1 : Fr (some (s, c)) (D ++ [Ob.dic []]) D1 := Fr.grow g1 sk1
  obtain ⟨gg, hg, hr⟩ := perm_rel hperm (pf.src fd sk)
  have hr1 := PairsAt.src hr f1 sk.new
  have gd : D1[D.length]? = some (.dic []) := f1.at get_new (out_some nn.1 nn.2)
  have hge' : D.length + 1 ≤ L := by simpa using hge
  have la1 := (la.fr fd).fr f1
  have lb1 := (lb.fr fd).fr f1
  have ha : a < D.length := la.lt
  have hb : b < D.length := lb.lt
  rw [ev_prs0]
  refine ⟨gd, _, rfl, (by show 3 ≤ 15; omega), ?_⟩
  refine k D.length gg _ ((fd.trans f1).setNew (ok_some sk) (Nat.le_refl _)) (sk1.set nn.1 nn.2) (Nat.le_refl _) ⟨⟨⟨a, b, L, ys, ?_, ?_, ?_, ?_, ?_⟩, g.perm hg⟩, nn.1, nn.2, a, b, L, ?_, la.ns, la.nc, lb.ns, lb.nc⟩ hg
  rotate_right
  · rw [List.getElem?_set_self (List.getElem?_eq_some_iff.mp gd).1]
    rfl
  · rw [List.getElem?_set_self (List.getElem?_eq_some_iff.mp gd).1]
    rfl
  · rw [List.getElem?_set_ne (by omega)]
    exact la1.at_
  · rw [List.getElem?_set_ne (by omega)]
    exact lb1.at_
  · rw [List.getElem?_set_ne (by omega)]
    exact hL
  · exact Pd.mono hr1 fun v p r => r.mono fun i u hv hi => by
      have hne : D.length ≠ i := fun z => by
        subst z
        obtain ⟨j, hj, hd⟩ := r
        rw [hv] at hj
        cases hj
        rw [gd] at hd
        cases hd
      rw [List.getElem?_set_ne hne]
      exact hi
end
end Mp

set_option Elab.async false
set_option linter.all false
set_option maxRecDepth 10000
namespace Mp
open PySem L2

def b_madeA : SM := sSeq (sSet 2 (eCall d_ladder (aCons (eVar 0) (aCons (eC (.int 6)) (aNil)))))
  (sSeq (sSet 3 (eCall d_fitsOf (aCons (eVar 2) (aNil))))
  (sSeq (sPar 5 6 (eLc (wSeq (eOp pIx (eVar 2) (eC (.str "stems")))) (gN 4) (bYes) (eOp pIx (eVar 4) (eC (.int 0))) [4]) (eLc (wSeq (eOp pIx (eVar 2) (eC (.str "places")))) (gN 4) (bYes) (eOp pIx (eVar 4) (eC (.int 0))) [4]))
  (sRet (eDisp [(eC (.str "stems"), eVar 5), (eC (.str "places"), eVar 6), (eC (.str "fits"), eCall d_mixed (aCons (eVar 0) (aCons (eVar 3) (aNil))))]))))
def b_madeB : SM := sSeq (sSet 7 (eLst (aCons (eC (.str "a")) (aCons (eC (.str "b")) (aCons (eC (.str "root")) (aCons (eC (.str "table")) (aCons (eC (.str "tables")) (aCons (eC (.str "abcdefghijkl")) (aCons (eC (.str "z0")) (aCons (eC (.str "alpha1")) (aCons (eC (.str "alpha2")) (aCons (eC (.str "alpha12")) (aNil)))))))))))))
  (sSeq (sPar 4 8 (eCall d_mixed (aCons (eVar 0) (aCons (eVar 7) (aNil)))) (eCall d_mixed (aCons (eVar 0) (aCons (eVar 7) (aNil)))))
  (sSeq (sIf (bTest (eOp pEqA (eCall d_pick (aCons (eVar 0) (aCons (eC (.int 2)) (aNil)))) (eC (.int 0)))) (sPar 4 8 (eCall d_names (aCons (eVar 0) (aCons (eC (.int 8)) (aNil)))) (eCall d_names (aCons (eVar 0) (aCons (eC (.int 8)) (aNil))))) (sNext))
  (sSeq (sPar 5 6 (eSl (eVar 4) (oNone) (oSome (eCall d_pick (aCons (eVar 0) (aCons (eOp pAdd (eVar 1) (eC (.int 1))) (aNil)))))) (eSl (eVar 8) (oNone) (oSome (eCall d_pick (aCons (eVar 0) (aCons (eOp pAdd (eVar 1) (eC (.int 1))) (aNil)))))))
  (sSeq (sAsg (eTup (aCons (eCall d_of (aCons (eVar 0) (aCons (eLst (aCons (eLst (aCons (eC (.int 0)) (aCons (eC (.int 1)) (aNil)))) (aCons (eLst (aCons (eC (.int 0)) (aCons (eC (.int 0)) (aCons (eC (.int 1)) (aNil))))) (aCons (eLst (aCons (eC (.int 0)) (aCons (eC (.int 1)) (aCons (eC (.int 1)) (aCons (eC (.int 1)) (aNil)))))) (aNil))))) (aNil)))) (aCons (eLst (aNil)) (aNil)))) (gT [gN 9, gN 3]))
  (sSeq (sFor (wSeq (eVar 5)) (gN 10) (sSet 3 (eOp pAdd (eVar 3) (eLc (wSeq (eVar 6)) (gN 11) (bTest (eOp pEqA (eCall d_of (aCons (eVar 0) (aCons (eVar 9) (aNil)))) (eC (.int 1)))) (eTup (aCons (eVar 10) (aCons (eVar 11) (aNil)))) [11]))))
  (sRet (eDisp [(eC (.str "stems"), eVar 5), (eC (.str "places"), eVar 6), (eC (.str "fits"), eCall d_mixed (aCons (eVar 0) (aCons (eVar 3) (aNil))))])))))))
def b_made : SM :=
  sSeq (sIf (bTest (eOp pEqA (eCall d_pick (aCons (eVar 0) (aCons (eC (.int 3)) (aNil)))) (eC (.int 0)))) b_madeA (sNext)) b_madeB
def d_made : List MV → Sto → Re MV := runB 12 b_made
section
variable {s c : Nat} {D D1 D2 : Sto} {P : MV → Sto → Prop}
theorem madeA_ok {most : MV} {N : Rho → Sto → Prop} (sk : SrcOk D s c) (k : ∀ t ss pp ff D', Fr (some (s, c)) D D' → SrcOk D' s c → D.length ≤ t → TabO s c D' t ss pp ff → P (.ref t) D') :
    EvS (b_madeA [some (.ref s), some most, none, none, none, none, none, none, none, none, none, none] D) N P := by
  unfold b_madeA
  rw [evS_seq, evS_set, ev_call, ev_cons, ev_v0, ev_cons, ev_c, ev_nil]
  refine ladder_ok (most := 6) (by omega) (by omega) sk fun d ar st pl D1 f1 sk1 lad gd nst npl dst dpl => ?_
  show EvS (sSeq _ _ [some (.ref s), some most, some (.ref d), none, none, none, none, none, none, none, none, none] D1) _ _
  rw [evS_seq, evS_set, ev_call, ev_cons, ev_v2, ev_nil]
  refine fitsOf_ok lad fun L vs D2 f2 gL hL hv => ?_
  show EvS (sSeq _ _ [some (.ref s), some most, some (.ref d), some (.ref L), none, none, none, none, none, none, none, none] D2) _ _
  obtain ⟨⟨kn, a, b, e, va, vb, vc, hd, ha, hb, hc, pa, pb, pc⟩, wa, ws, wp, za, zs, zp⟩ := lad
  have sk2 : SrcOk D2 s c := sk1.same f2
  rw [evS_seq, evS_par]
  refine firsts_ok (by simp) ?_
  rw [ev_op, ev_v2, ev_c, ev_dic3 (f2.at hd out_none) (v := .ref b) rfl]
  refine ⟨b, vb, st, rfl, f2.at hb out_none, pb.fr f2, zs, fun D3 f3 h3 => ?_⟩
  refine firsts_ok (by simp) ?_
  have f23 := f2.trans f3
  rw [ev_op, ev_v2, ev_c, ev_dic3 (f23.at hd out_none) (v := .ref e) rfl]
  refine ⟨e, vc, pl, rfl, f23.at hc out_none, pc.fr f23, zp, fun D4 f4 h4 => ?_⟩
  show EvS (sRet _ [some (.ref s), some most, some (.ref d), some (.ref L), none, some (.ref D2.length), some (.ref D3.length), none, none, none, none, none] D4) _ _
  rw [evS_ret]
  have f24 := f3.trans f4
  have sk4 : SrcOk D4 s c := sk2.same f24
  have out2 : ∀ j, D2.length ≤ j → j ≠ s ∧ j ≠ c := fun j h => by
    obtain ⟨x, y⟩ := sk2.lt
    exact ⟨by omega, by omega⟩
  have outL : L ≠ s ∧ L ≠ c := by
    obtain ⟨x, y⟩ := sk1.lt
    exact ⟨by omega, by omega⟩
  have g : Good (st.map (·.1)) (pl.map (·.1)) (fitsF ar st pl) := ⟨fun w hw => let ⟨x, hx, q⟩ := dst w hw; isW_dig q hx, fun w hw => let ⟨x, hx, q⟩ := dpl w hw; isW_dig q hx, nst, npl, fitsF_nodup npl nst, fun p hp => fitsF_mem hp, by rw [List.length_map]; exact zs, by rw [List.length_map]; exact zp,
    Nat.le_trans fitsF_len (Nat.mul_le_mul zs zp)⟩
  refine tabEnd_ok (s := s) (c := c) rfl rfl rfl rfl sk4 ⟨f4.at h3 out_none, (out2 _ (Nat.le_refl _)).1, (out2 _ (Nat.le_refl _)).2⟩ ⟨h4, (out2 _ f3.le).1, (out2 _ f3.le).2⟩ ⟨f24.at hL out_none, outL.1, outL.2⟩ (hv.fr f24) g fun t gg D5 f5 sk5 gt tab _ => ?_
  have ff : Fr (some (s, c)) D1 D4 := Fr.lift (f2.trans f24)
  exact k t _ _ gg D5 ((f1.trans ff).trans f5) sk5 (Nat.le_trans (f1.trans ff).le gt) tab
/-- a list of words by the form, all different -/
structure WAt (s c : Nat) (D : Sto) (j : Nat) (ws : List Str) : Prop where
  l : LAt s c D j (ws.map MV.str)
  w : ∀ w ∈ ws, IsW w
  nd : ws.Nodup
  z : ws.length ≤ 100
theorem WAt.fr {j : Nat} {ws : List Str} (h : WAt s c D j ws) (f : Fr (some (s, c)) D D1) : WAt s c D1 j ws := ⟨h.l.fr f, h.w, h.nd, h.z⟩
def tenW : List Str := ["a", "b", "root", "table", "tables", "abcdefghijkl", "z0", "alpha1", "alpha2", "alpha12"]
def isWB (w : Str) : Bool := match w.cps.toList with
  | [] => false
  | a :: r => decide (97 ≤ a) && decide (a ≤ 122) && decide (r.length ≤ 11) && r.all fun x => (decide (97 ≤ x) && decide (x ≤ 122)) || (decide (48 ≤ x) && decide (x ≤ 57))
theorem isWB_ok {w : Str} (h : isWB w = true) : IsW w := by
  unfold isWB at h
  cases e : w.cps.toList with
  | nil => rw [e] at h; cases h
  | cons a r =>
    rw [e] at h
    simp only [Bool.and_eq_true, decide_eq_true_eq, List.all_eq_true, Bool.or_eq_true] at h
    exact ⟨a, r, e, h.1.1.1, h.1.1.2, h.1.2, h.2⟩
theorem tenW_ok : (tenW.all isWB) = true := by decide +kernel
theorem tenW_nd : tenW.Nodup := by decide +kernel
theorem perm_strs {ys : List MV} {ws : List Str} (h : ys.Perm (ws.map MV.str)) : ∃ us : List Str, us.Perm ws ∧ ys = us.map MV.str := by
  obtain ⟨us, h1, h2⟩ := perm_rel h (strs_rel ws)
  exact ⟨us, h1, strs_of h2⟩
theorem cut_take {ws : List Str} {r : Nat} : cutM (ws.map MV.str) none (some ((r : Nat) : Int)) = (ws.take r).map MV.str := by
  unfold cutM
  rw [HT.sIx_none, HT.sIx_nat]
  rw [List.drop_zero, Nat.sub_zero, List.length_map, ← List.map_take]
  congr 1
  by_cases q : r ≤ ws.length
  · rw [Nat.min_eq_left q]
  · rw [Nat.min_eq_right (by omega), List.take_of_length_le (Nat.le_refl _), List.take_of_length_le (by omega)]
theorem wAt_take {j r : Nat} {ws : List Str} {D : Sto} (h : WAt s c D j ws) (sk : SrcOk D s c) : WAt s c (D ++ [Ob.lst ((ws.take r).map MV.str)]) D.length (ws.take r) :=
  ⟨⟨get_new, (new_ne sk).1, (new_ne sk).2⟩, fun w hw => h.w w (List.mem_of_mem_take hw), h.nd.sublist (List.take_sublist _ _), Nat.le_trans (by rw [List.length_take]; exact Nat.min_le_right _ _) h.z⟩
/-- xs[:pick(source, most + 1)] -/
theorem some_ok {ρ : Rho} {slot j most : Nat} {ws : List Str} (h0 : ρ[0]? = some (some (.ref s))) (h1 : ρ[1]? = some (some (.int most))) (hs : ρ[slot]? = some (some (.ref j))) (hm : most ≤ 50) (sk : SrcOk D s c) (hw : WAt s c D j ws)
    (k : ∀ L us D', WAt s c D' L us → SrcOk D' s c → Fr (some (s, c)) D D' → D.length ≤ L → P (.ref L) D') :
    Ev (eSl (eVar slot) oNone (oSome (eCall d_pick (aCons (eVar 0) (aCons (eOp pAdd (eVar 1) (eC (.int 1))) (aNil))))) ρ D) P := by
  unfold eSl oSome oNone
  rw [ev_bind, ev_var hs, ev_bind, ev_ok, ev_bind, ev_bind, ev_call, ev_cons, ev_var h0, ev_cons, ev_op, ev_var h1, ev_c, ev_add, ev_nil]
  refine pick_ok sk (by omega) (by omega) fun r D1 hr sk1 o1 => ?_
  have f1 : Fr (some (s, c)) D D1 := Fr.only o1 sk1
  have hw1 := hw.fr f1
  unfold intOf
  rw [ev_ok]
  unfold pSl
  dsimp only
  rw [hw1.l.at_]
  dsimp only
  unfold new
  rw [ev_ok, cut_take]
  exact k D1.length (ws.take r) _ (wAt_take hw1 sk1) sk1.new (f1.trans Fr.snoc) f1.le
/-- the first part of the other way: two lists of words -/
theorem twoW_ok {most : MV} {N : Rho → Sto → Prop} {T : MV → Sto → Prop} (sk : SrcOk D s c)
    (k : ∀ a b us ws j D', Fr (some (s, c)) D D' → SrcOk D' s c → WAt s c D' a us → WAt s c D' b ws → N [some (.ref s), some most, none, none, some (.ref a), none, none, some (.ref j), some (.ref b), none, none, none] D') :
    EvS (sSet 7 (eLst (aCons (eC (.str "a")) (aCons (eC (.str "b")) (aCons (eC (.str "root")) (aCons (eC (.str "table")) (aCons (eC (.str "tables")) (aCons (eC (.str "abcdefghijkl")) (aCons (eC (.str "z0")) (aCons (eC (.str "alpha1")) (aCons (eC (.str "alpha2")) (aCons (eC (.str "alpha12")) (aNil)))))))))))) [some (.ref s), some most, none, none, none, none, none, none, none, none, none, none] D) (fun ρ1 D1 => EvS (sPar 4 8 (eCall d_mixed (aCons (eVar 0) (aCons (eVar 7) (aNil)))) (eCall d_mixed (aCons (eVar 0) (aCons (eVar 7) (aNil)))) ρ1 D1) (fun ρ2 D2 =>
      EvS (sIf (bTest (eOp pEqA (eCall d_pick (aCons (eVar 0) (aCons (eC (.int 2)) (aNil)))) (eC (.int 0)))) (sPar 4 8 (eCall d_names (aCons (eVar 0) (aCons (eC (.int 8)) (aNil)))) (eCall d_names (aCons (eVar 0) (aCons (eC (.int 8)) (aNil))))) (sNext) ρ2 D2) N T) T) T := by
  rw [evS_set, ev_lst]
  simp only [ev_cons, ev_c, ev_nil]
  refine ⟨sz_le (by simp), ?_⟩
  have nn := new_ne sk
  have f1 : Fr (some (s, c)) D (D ++ [Ob.lst (tenW.map MV.str)]) := Fr.snoc
  have sk1 : SrcOk (D ++ [Ob.lst (tenW.map MV.str)]) s c := sk.new
  have w1 : WAt s c (D ++ [Ob.lst (tenW.map MV.str)]) D.length tenW := ⟨⟨get_new, nn.1, nn.2⟩, fun w hw => isWB_ok (List.all_eq_true.mp tenW_ok w hw), tenW_nd, by decide⟩
  show EvS (sPar 4 8 _ _ [some (.ref s), some most, none, none, none, none, none, some (.ref D.length), none, none, none, none] (D ++ [Ob.lst (tenW.map MV.str)])) _ T
  generalize D.length = j at w1
  generalize (D ++ [Ob.lst (tenW.map MV.str)]) = D1 at f1 sk1 w1
  rw [evS_par, ev_call, ev_cons, ev_v0, ev_cons, ev_var (i := 7) rfl, ev_nil]
  refine mixed_ok sk1 w1.l.at_ w1.l.ns w1.l.nc (by simp [tenW]) fun a ya D2 ga pa ha sk2 g2 => ?_
  obtain ⟨ua, pa', rfl⟩ := perm_strs pa
  have f2 : Fr (some (s, c)) D1 D2 := Fr.grow g2 sk2
  have oa : a ≠ s ∧ a ≠ c := by
    obtain ⟨x, y⟩ := sk1.lt
    exact ⟨by omega, by omega⟩
  have wa2 : WAt s c D2 a ua := ⟨⟨ha, oa.1, oa.2⟩, fun w hw => w1.w w (pa'.mem_iff.mp hw), pa'.nodup_iff.mpr w1.nd, by rw [pa'.length_eq]; exact w1.z⟩
  have w2 := w1.fr f2
  rw [ev_call, ev_cons, ev_v0, ev_cons, ev_var (i := 7) rfl, ev_nil]
  refine mixed_ok sk2 w2.l.at_ w2.l.ns w2.l.nc (by simp [tenW]) fun b yb D3 gb pb hb sk3 g3 => ?_
  obtain ⟨ub, pb', rfl⟩ := perm_strs pb
  have f3 : Fr (some (s, c)) D2 D3 := Fr.grow g3 sk3
  have ob : b ≠ s ∧ b ≠ c := by
    obtain ⟨x, y⟩ := sk2.lt
    exact ⟨by omega, by omega⟩
  have wb3 : WAt s c D3 b ub := ⟨⟨hb, ob.1, ob.2⟩, fun w hw => w1.w w (pb'.mem_iff.mp hw), pb'.nodup_iff.mpr w1.nd, by rw [pb'.length_eq]; exact w1.z⟩
  have wa3 := wa2.fr f3
  have f03 := (f1.trans f2).trans f3
  show EvS (sIf _ _ _ [some (.ref s), some most, none, none, some (.ref a), none, none, some (.ref j), some (.ref b), none, none, none] D3) _ _
  rw [evS_if, ev_test, ev_op, ev_call, ev_cons, ev_v0, ev_cons, ev_c, ev_nil]
  refine pick_ok (many := 2) sk3 (by omega) (by omega) fun r D4 hr sk4 o4 => ?_
  have f4 : Fr (some (s, c)) D3 D4 := Fr.only o4 sk4
  rw [ev_c, ev_eqI, ev_bl]
  cases (r : Int) == 0 with
  | false =>
    rw [if_neg (by decide), evS_next]
    exact k a b ua ub j D4 (f03.trans f4) sk4 (wa3.fr f4) (wb3.fr f4)
  | true =>
    rw [if_pos rfl, evS_par, ev_call, ev_cons, ev_v0, ev_cons, ev_c, ev_nil]
    refine names_ok (n := 8) sk4 (by omega) fun a2 ws sh D5 g5 h5 l5 d5 sk5 gr5 => ?_
    have f5 : Fr (some (s, c)) D4 D5 := Fr.grow gr5 sk5
    rw [ev_call, ev_cons, ev_v0, ev_cons, ev_c, ev_nil]
    refine names_ok (n := 8) sk5 (by omega) fun b2 vs sh2 D6 g6 h6 l6 d6 sk6 gr6 => ?_
    have f6 : Fr (some (s, c)) D5 D6 := Fr.grow gr6 sk6
    have mk : ∀ {D : Sto} {L : Nat} {ws : List Str} {sh : Nat} {D0 : Sto}, SrcOk D0 s c → D0.length ≤ L → D[L]? = some (.lst (ws.map MV.str)) → ws.length = 8 → Drawn ws sh → WAt s c D L ws := fun {D L ws sh D0} k0 hg h l d => by
      obtain ⟨x, y⟩ := k0.lt
      refine ⟨⟨h, by omega, by omega⟩, fun w hw => ?_, drawn_nodup d (by omega), by omega⟩
      obtain ⟨i, hi, e⟩ := List.mem_iff_getElem.mp hw
      exact isW_dig (d i w (by rw [List.getElem?_eq_getElem hi, e])) (Nat.mod_lt _ (by decide))
    exact k a2 b2 ws vs j D6 (((f03.trans f4).trans f5).trans f6) sk6 ((mk sk4 g5 h5 l5 d5).fr f6) (mk sk5 g6 h6 l6 d6)
end
end Mp

set_option Elab.async false
set_option linter.all false
set_option maxRecDepth 10000
namespace Mp
open PySem L2

section
variable {s c : Nat} {D D1 D2 : Sto} {P : MV → Sto → Prop}
/-- one of three lists of ints -/
structure IAt (s c : Nat) (D : Sto) (j : Nat) : Prop where
  ex : ∃ ns : List Int, LAt s c D j (ns.map MV.int) ∧ 1 ≤ ns.length ∧ ns.length ≤ 100
theorem IAt.fr {j : Nat} (h : IAt s c D j) (f : Fr (some (s, c)) D D1) : IAt s c D1 j := let ⟨ns, l, a, b⟩ := h.ex; ⟨ns, l.fr f, a, b⟩
theorem thick_ok {ρ : Rho} (h0 : ρ[0]? = some (some (.ref s))) (sk : SrcOk D s c) (k : ∀ j D', IAt s c D' j → SrcOk D' s c → Fr (some (s, c)) D D' → P (.ref j) D') :
    Ev (eCall d_of (aCons (eVar 0) (aCons (eLst (aCons (eLst (aCons (eC (.int 0)) (aCons (eC (.int 1)) (aNil)))) (aCons (eLst (aCons (eC (.int 0)) (aCons (eC (.int 0)) (aCons (eC (.int 1)) (aNil))))) (aCons (eLst (aCons (eC (.int 0)) (aCons (eC (.int 1)) (aCons (eC (.int 1)) (aCons (eC (.int 1)) (aNil)))))) (aNil))))) (aNil))) ρ D) P := by
  rw [ev_call, ev_cons, ev_var h0]
  simp only [ev_cons, ev_lst, ev_c, ev_nil]
  refine ⟨sz_le (by simp), sz_le (by simp), sz_le (by simp), sz_le (by simp), ?_⟩
  have n1 := new_ne sk
  have k1 := sk.new (o := Ob.lst ([0, 1].map MV.int))
  have n2 := new_ne k1
  have k2 := k1.new (o := Ob.lst ([0, 0, 1].map MV.int))
  have n3 := new_ne k2
  have k3 := k2.new (o := Ob.lst ([0, 1, 1, 1].map MV.int))
  have n4 := new_ne k3
  have i1 : IAt s c (D ++ [Ob.lst ([0, 1].map MV.int)]) D.length := ⟨[0, 1], ⟨get_new, n1.1, n1.2⟩, by simp, by simp⟩
  have i2 : IAt s c ((D ++ [Ob.lst ([0, 1].map MV.int)]) ++ [Ob.lst ([0, 0, 1].map MV.int)]) (D ++ [Ob.lst ([0, 1].map MV.int)]).length := ⟨[0, 0, 1], ⟨get_new, n2.1, n2.2⟩, by simp, by simp⟩
  have i3 : IAt s c (((D ++ [Ob.lst ([0, 1].map MV.int)]) ++ [Ob.lst ([0, 0, 1].map MV.int)]) ++ [Ob.lst ([0, 1, 1, 1].map MV.int)]) ((D ++ [Ob.lst ([0, 1].map MV.int)]) ++ [Ob.lst ([0, 0, 1].map MV.int)]).length := ⟨[0, 1, 1, 1], ⟨get_new, n3.1, n3.2⟩, by simp, by simp⟩
  show Ev (d_of [.ref s, .ref (((D ++ [Ob.lst ([0, 1].map MV.int)]) ++ [Ob.lst ([0, 0, 1].map MV.int)]) ++ [Ob.lst ([0, 1, 1, 1].map MV.int)]).length] ((((D ++ [Ob.lst ([0, 1].map MV.int)]) ++ [Ob.lst ([0, 0, 1].map MV.int)]) ++ [Ob.lst ([0, 1, 1, 1].map MV.int)]) ++ [Ob.lst [.ref D.length, .ref (D ++ [Ob.lst ([0, 1].map MV.int)]).length, .ref ((D ++ [Ob.lst ([0, 1].map MV.int)]) ++ [Ob.lst ([0, 0, 1].map MV.int)]).length]])) P
  have fA : Fr (some (s, c)) (D ++ [Ob.lst ([0, 1].map MV.int)]) ((D ++ [Ob.lst ([0, 1].map MV.int)]) ++ [Ob.lst ([0, 0, 1].map MV.int)]) := Fr.snoc
  have fB : Fr (some (s, c)) ((D ++ [Ob.lst ([0, 1].map MV.int)]) ++ [Ob.lst ([0, 0, 1].map MV.int)]) (((D ++ [Ob.lst ([0, 1].map MV.int)]) ++ [Ob.lst ([0, 0, 1].map MV.int)]) ++ [Ob.lst ([0, 1, 1, 1].map MV.int)]) := Fr.snoc
  have f0 : Fr (some (s, c)) D (D ++ [Ob.lst ([0, 1].map MV.int)]) := Fr.snoc
  have j1 := (i1.fr fA).fr fB
  have j2 := i2.fr fB
  have f03 := (f0.trans fA).trans fB
  generalize D.length = a1 at j1
  generalize (D ++ [Ob.lst ([0, 1].map MV.int)]).length = a2 at j2
  generalize ((D ++ [Ob.lst ([0, 1].map MV.int)]) ++ [Ob.lst ([0, 0, 1].map MV.int)]).length = a3 at i3
  generalize (((D ++ [Ob.lst ([0, 1].map MV.int)]) ++ [Ob.lst ([0, 0, 1].map MV.int)]) ++ [Ob.lst ([0, 1, 1, 1].map MV.int)]) = D3 at j1 j2 i3 k3 n4 f03
  have f4 : Fr (some (s, c)) D3 (D3 ++ [Ob.lst [.ref a1, .ref a2, .ref a3]]) := Fr.snoc
  refine of_ok k3.new get_new n4.1 n4.2 (by simp) (by simp) fun v D4 hv sk4 o4 => ?_
  have f5 : Fr (some (s, c)) (D3 ++ [Ob.lst [.ref a1, .ref a2, .ref a3]]) D4 := Fr.only o4 sk4
  have ff := (f03.trans f4).trans f5
  simp at hv
  rcases hv with rfl | rfl | rfl
  · exact k _ D4 ((j1.fr f4).fr f5) sk4 ff
  · exact k _ D4 ((j2.fr f4).fr f5) sk4 ff
  · exact k _ D4 ((i3.fr f4).fr f5) sk4 ff
/-- the pairs, by drawing -/
theorem drawFits_ok {most : MV} {w4 : Option MV} {a b th : Nat} {o2 o7 o8 : Option MV} {us ws : List Str} {fL : Nat} {N : Rho → Sto → Prop} {T : MV → Sto → Prop} (sk : SrcOk D s c) (ha : WAt s c D a us) (hb : WAt s c D b ws) (ht : IAt s c D th) (hf : LAt s c D fL [])
    (k : ∀ L vs ff x y D', Fr (some (s, c)) D D' → SrcOk D' s c → LAt s c D' L vs → PairsAt D' vs ff → ff.Nodup → (∀ p ∈ ff, p.1 ∈ us ∧ p.2 ∈ ws) → ff.length ≤ 10000 → N [some (.ref s), some most, o2, some (.ref L), w4, some (.ref a), some (.ref b), o7, o8, some (.ref th), x, y] D') :
    EvS (sFor (wSeq (eVar 5)) (gN 10) (sSet 3 (eOp pAdd (eVar 3) (eLc (wSeq (eVar 6)) (gN 11) (bTest (eOp pEqA (eCall d_of (aCons (eVar 0) (aCons (eVar 9) (aNil)))) (eC (.int 1)))) (eTup (aCons (eVar 10) (aCons (eVar 11) (aNil)))) [11])))
      [some (.ref s), some most, o2, some (.ref fL), w4, some (.ref a), some (.ref b), o7, o8, some (.ref th), none, none] D) N T := by
  rw [evS_for]
  refine ev_seqL (j := a) (xs := us.map MV.str) ?_
  rw [ev_var (i := 5) rfl]
  refine ⟨rfl, rdL_lst ha.l.at_, ?_⟩
  dsimp only
  refine for_ok (fun i ρ D' => Fr (some (s, c)) D D' ∧ SrcOk D' s c ∧ ∃ L x y vs ff, ρ = [some (.ref s), some most, o2, some (.ref L), w4, some (.ref a), some (.ref b), o7, o8, some (.ref th), x, y] ∧ LAt s c D' L vs ∧ PairsAt D' vs ff ∧ ff.Nodup ∧ (∀ p ∈ ff, p.1 ∈ us.take i ∧ p.2 ∈ ws) ∧ ff.length ≤ i * 100) _ 0 _ _
    ⟨Fr.refl _ _, sk, fL, none, none, [], [], rfl, hf, .nil, List.nodup_nil, (fun p hp => (by cases hp)), by simp⟩ ?_ ?_
  · rintro i ρ D1 hi0 hi ⟨fr, sk1, L, x, y, vs, ff, rfl, hL, pv, nd, mem, hl⟩
    have hi' : i < us.length := by simpa using hi
    have ha1 := ha.fr fr
    have hb1 := hb.fr fr
    refine ⟨decide_eq_true (rdL_lst ha1.l.at_), .str us[i], D1, [some (.ref s), some most, o2, some (.ref L), w4, some (.ref a), some (.ref b), o7, o8, some (.ref th), some (.str us[i]), y], ?_, rfl, ?_⟩
    · dsimp only
      unfold seqItem
      simp [hi']
    rw [evS_set, ev_op, ev_v3]
    refine lc_sub (S := some (s, c)) (α := Str) (fun v w => v = MV.str w) (fun D v w => PairAt D v (us[i], w)) (fun _ _ _ _ h f k => h.src f (k (s, c) rfl)) (fun _ _ _ _ _ _ e h => h.set e) ?_
    rw [ev_var (i := 6) rfl]
    refine ⟨b, ws.map MV.str, ws, rfl, rdL_lst hb1.l.at_, out_some hb1.l.ns hb1.l.nc, strs_rel ws, by rw [List.length_map]; have := hb.z; omega, ok_some sk1, ?_, ?_⟩
    · rintro v w D2 rfl _ f2 k2
      have sk2 : SrcOk D2 s c := k2 (s, c) rfl
      refine ⟨[some (.ref s), some most, o2, some (.ref L), w4, some (.ref a), some (.ref b), o7, o8, some (.ref th), some (.str us[i]), some (.str w)], rfl, rfl, ?_⟩
      obtain ⟨ns, ln, n1, n2⟩ := ((ht.fr fr).fr f2).ex
      rw [ev_test, ev_op, ev_call, ev_cons, ev_v0, ev_cons, ev_var (i := 9) rfl, ev_nil]
      refine of_ok sk2 ln.at_ ln.ns ln.nc (by rw [List.length_map]; exact n1) (by rw [List.length_map]; omega) fun v D3 hv sk3 o3 => ?_
      obtain ⟨z, _, rfl⟩ := List.mem_map.mp hv
      rw [ev_c, ev_eqI, ev_bl]
      refine ⟨Fr.only o3 sk3, ok_some sk3, fun _ => ?_⟩
      rw [ev_tup, ev_cons, ev_var (i := 10) rfl, ev_cons, ev_var (i := 11) rfl, ev_nil]
      exact ⟨sz_le (by simp), Fr.snoc, ok_some sk3.new, D3.length, rfl, get_new⟩
    · intro ys bs D2 f2 k2 hys hbs hrel
      have sk2 : SrcOk D2 s c := k2 (s, c) rfl
      have n1 := new_ne sk1
      have hL2 := hL.fr f2
      have bl : bs.length ≤ 100 := Nat.le_trans hbs.length_le hb.z
      have hi100 : i * 100 ≤ 100 * 100 := Nat.mul_le_mul_right 100 (by have := ha.z; omega)
      have hp2 : PairsAt D2 ys (bs.map fun w => (us[i], w)) := by
        clear hbs bl hys
        induction hrel with
        | nil => exact .nil
        | cons r t ih => exact .cons r ih
      rw [ev_catL hL2.at_ hys (sz_le (by rw [Pd.len pv, Pd.len hrel]; omega))]
      have n2 := new_ne sk2
      refine ⟨(fr.trans f2).trans Fr.snoc, sk2.new, D2.length, _, _, vs ++ ys, ff ++ bs.map fun w => (us[i], w), rfl, ⟨get_new, n2.1, n2.2⟩, Pd.append ((pv.src f2 sk1).src Fr.snoc sk2) (PairsAt.src hp2 Fr.snoc sk2), ?_, ?_, ?_⟩
      · refine List.nodup_append.mpr ⟨nd, ?_, fun p hp q hq e => ?_⟩
        · have bnd : bs.Nodup := hb.nd.sublist hbs
          clear hrel hp2 bl hbs hys
          induction bs with
          | nil => exact List.nodup_nil
          | cons w r ih =>
            obtain ⟨g1, g2⟩ := List.nodup_cons.mp bnd
            rw [List.map_cons]
            refine List.nodup_cons.mpr ⟨fun m => ?_, ih g2⟩
            obtain ⟨z, hz, e⟩ := List.mem_map.mp m
            have : z = w := (Prod.mk.inj e).2
            exact g1 (this ▸ hz)
        · subst e
          obtain ⟨w, _, e⟩ := List.mem_map.mp hq
          have h1 := (mem p hp).1
          rw [← e] at h1
          have hnd := ha.nd
          have : us[i] ∉ us.take i := fun hm => by
            obtain ⟨j, hj, ej⟩ := List.mem_iff_getElem.mp hm
            rw [List.length_take] at hj
            rw [List.getElem_take] at ej
            exact List.pairwise_iff_getElem.mp hnd j i (by omega) hi' (by omega) ej
          exact this h1
      · intro p hp
        rcases List.mem_append.mp hp with m | m
        · refine ⟨?_, (mem p m).2⟩
          rw [take_snoc (by simp [hi'] : us[i]? = some us[i])]
          exact List.mem_append_left _ (mem p m).1
        · obtain ⟨w, hw, rfl⟩ := List.mem_map.mp m
          refine ⟨?_, hbs.subset hw⟩
          rw [take_snoc (by simp [hi'] : us[i]? = some us[i])]
          exact List.mem_append_right _ List.mem_cons_self
      · rw [List.length_append, List.length_map, Nat.add_mul]
        omega
  · rintro ρ D1 ⟨fr, sk1, L, x, y, vs, ff, rfl, hL, pv, nd, mem, hl⟩
    refine ⟨decide_eq_true (rdL_lst (ha.fr fr).l.at_), ?_⟩
    have e : 0 + (us.map MV.str).length = us.length := by simp
    rw [e] at mem hl
    refine k L vs ff x y D1 fr sk1 hL pv nd (fun p hp => ⟨?_, (mem p hp).2⟩) (Nat.le_trans hl (Nat.mul_le_mul_right 100 ha.z))
    have := (mem p hp).1
    rwa [List.take_of_length_le (Nat.le_refl _)] at this
/-- a drawn table -/
theorem made_ok {most : Nat} (h2 : most ≤ 50) (sk : SrcOk D s c) (k : ∀ t ss pp ff D', Fr (some (s, c)) D D' → SrcOk D' s c → D.length ≤ t → TabO s c D' t ss pp ff → P (.ref t) D') : Ev (d_made [.ref s, .int most] D) P := by
  refine ev_run ?_
  show EvS (b_made [some (.ref s), some (.int most), none, none, none, none, none, none, none, none, none, none] D) _ _
  unfold b_made
  rw [evS_seq, evS_if, ev_test, ev_op, ev_call, ev_cons, ev_v0, ev_cons, ev_c, ev_nil]
  refine pick_ok (many := 3) sk (by omega) (by omega) fun r D1 hr sk1 o1 => ?_
  have f1 : Fr (some (s, c)) D D1 := Fr.only o1 sk1
  rw [ev_c, ev_eqI, ev_bl]
  cases (r : Int) == 0 with
  | true =>
    rw [if_pos rfl]
    exact madeA_ok sk1 fun t ss pp ff D' f sk' gt tab => k t ss pp ff D' (f1.trans f) sk' (Nat.le_trans f1.le gt) tab
  | false =>
    rw [if_neg (by decide), evS_next]
    unfold b_madeB
    rw [evS_seq]
    simp only [evS_seq]
    refine twoW_ok (T := P) sk1 fun a b us ws j D2 f2 sk2 wa wb => ?_
    rw [evS_par]
    refine some_ok (s := s) (c := c) (slot := 4) rfl rfl rfl h2 sk2 wa fun aS us' D3 waS sk3 f3 g3 => ?_
    have wb3 := wb.fr f3
    refine some_ok (s := s) (c := c) (slot := 8) rfl rfl rfl h2 sk3 wb3 fun bS ws' D4 wbS sk4 f4 g4 => ?_
    have waS4 := waS.fr f4
    refine evS_asg ?_
    rw [ev_tup, ev_cons]
    refine thick_ok (s := s) (c := c) rfl sk4 fun th D5 ith sk5 f5 => ?_
    rw [ev_cons, ev_lst, ev_nil]
    refine ⟨sz_le (by simp), ?_⟩
    rw [ev_nil]
    refine ⟨sz_le (by simp), [some (.ref s), some (.int most), none, some (.ref D5.length), some (.ref a), some (.ref aS), some (.ref bS), some (.ref j), some (.ref b), some (.ref th), none, none], ?_, ?_⟩
    · unfold gT
      dsimp only
      have e : rdT ((D5 ++ [Ob.lst []]) ++ [Ob.tup [.ref th, .ref D5.length]]) (D5 ++ [Ob.lst []]).length = some [.ref th, .ref D5.length] := by unfold rdT; rw [get_new]
      rw [e]
      rfl
    have n5 := new_ne sk5
    have f6 : Fr (some (s, c)) D5 ((D5 ++ [Ob.lst []]) ++ [Ob.tup [.ref th, .ref D5.length]]) := Fr.snoc.trans Fr.snoc
    have sk6 : SrcOk ((D5 ++ [Ob.lst []]) ++ [Ob.tup [.ref th, .ref D5.length]]) s c := sk5.new.new
    have lF : LAt s c ((D5 ++ [Ob.lst []]) ++ [Ob.tup [.ref th, .ref D5.length]]) D5.length [] := ⟨get_old get_new, n5.1, n5.2⟩
    have waF := (waS4.fr f5).fr f6
    have wbF := (wbS.fr f5).fr f6
    have ithF := ith.fr f6
    have f06 := ((((f1.trans f2).trans f3).trans f4).trans f5).trans f6
    refine drawFits_ok sk6 waF wbF ithF lF fun L vs ff x y D7 f7 sk7 lL pv nd mem hl => ?_
    rw [evS_ret]
    have wa7 := waF.fr f7
    have wb7 := wbF.fr f7
    refine tabEnd_ok (s := s) (c := c) rfl rfl rfl rfl sk7 wa7.l wb7.l lL pv ⟨wa7.w, wb7.w, wa7.nd, wb7.nd, nd, mem, wa7.z, wb7.z, hl⟩ fun t gg D8 f8 sk8 gt tab _ => ?_
    exact k t _ _ gg D8 ((f06.trans f7).trans f8) sk8 (Nat.le_trans (f06.trans f7).le gt) tab
end
end Mp

set_option Elab.async false
set_option linter.all false
set_option maxRecDepth 10000
namespace Mp
open PySem L2

section
variable {ρ : Rho} {D : Sto} {P : MV → Sto → Prop}
theorem ev_isi {tab : List (Tk × Bool)} {m : EM} : Ev (eIsi tab m ρ D) P = Ev (m ρ D) fun v D1 => ∃ w, ((tkOf D1 v).bind fun t => (tab.lookup t).map .bl) = some w ∧ P w D1 := by
  unfold eIsi
  rw [ev_bind]
  simp only [ev_ok?]
theorem ev_eor {a b : EM} : Ev (eOr a b ρ D) P = Ev (a ρ D) fun x D1 => Ev (boolOf x D1) fun c D2 => if c = true then P (.bl true) D2 else Ev (b ρ D2) P := by
  unfold eOr
  simp only [ev_bind]
  congr 1
  funext x D1
  congr 1
  funext c D2
  cases c
  · rfl
  · simp
theorem ev_eand {a b : EM} : Ev (eAnd a b ρ D) P = Ev (a ρ D) fun x D1 => Ev (boolOf x D1) fun c D2 => if c = true then Ev (b ρ D2) P else P (.bl false) D2 := by
  unfold eAnd
  simp only [ev_bind]
  congr 1
  funext x D1
  congr 1
  funext c D2
  cases c
  · simp
  · rfl
theorem ev_isN {v : MV} : Ev (pIsN v D) P = P (.bl (decide (v = .non))) D := by unfold pIsN; rw [ev_ok]
theorem ev_notN {v : MV} : Ev (pNotN v D) P = P (.bl (!decide (v = .non))) D := by unfold pNotN; rw [ev_ok]
theorem letter_in : ∀ r : Fin 26, (97 + r.val) ∈ ("abcdefghijklmnopqrstuvwxyz" : Str).cps.toList := by decide +kernel
theorem digit_in : ∀ r : Fin 10, (48 + r.val) ∈ ("0123456789" : Str).cps.toList := by decide +kernel
theorem in_sign {a : Nat} {y : Str} : inB (.str ⟨#[a]⟩) (.str y) D = some (decide (a ∈ y.cps.toList)) := rfl
theorem letter_of {a : Nat} (h1 : 97 ≤ a) (h2 : a ≤ 122) : a ∈ ("abcdefghijklmnopqrstuvwxyz" : Str).cps.toList := by
  have := letter_in ⟨a - 97, by omega⟩
  have e : 97 + (a - 97) = a := by omega
  rw [e] at this
  exact this
theorem digit_of {a : Nat} (h1 : 48 ≤ a) (h2 : a ≤ 57) : a ∈ ("0123456789" : Str).cps.toList := by
  have := digit_in ⟨a - 48, by omega⟩
  have e : 48 + (a - 48) = a := by omega
  rw [e] at this
  exact this
abbrev tStr : List (Tk × Bool) := [(.b "str", true), (.b "list", false), (.b "tuple", false), (.b "int", false), (.b "bool", false), (.b "dict", false), (.b "NoneType", false), (.own "Table", false)]
abbrev tSeq : List (Tk × Bool) := [(.b "str", false), (.b "list", true), (.b "tuple", true), (.b "int", false), (.b "bool", false), (.b "dict", false), (.b "NoneType", false), (.own "Table", false)]
abbrev tTup : List (Tk × Bool) := [(.b "str", false), (.b "list", false), (.b "tuple", true), (.b "int", false), (.b "bool", false), (.b "dict", false), (.b "NoneType", false), (.own "Table", false)]
end
def b_isWord : SM :=
  sSeq (sIf (bOr (bNot (bTest (eIsi tStr (eVar 0)))) (bOr (bTest (eOp pLt (eCall (f1 lenM) (aCons (eVar 0) (aNil))) (eC (.int 1)))) (bTest (eOp pGt (eCall (f1 lenM) (aCons (eVar 0) (aNil))) (eC (.int 12)))))) (sRet (eC (.bl false))) (sNext))
  (sSeq (sIf (bTest (eOp pNotIn (eOp pIx (eVar 0) (eC (.int 0))) (eC (.str "abcdefghijklmnopqrstuvwxyz")))) (sRet (eC (.bl false))) (sNext))
  (sRet (eCall (f1 allM) (aCons (eLc (wSeq (eVar 0)) (gN 1) (bYes) (eOr (eOp pIn (eVar 1) (eC (.str "abcdefghijklmnopqrstuvwxyz"))) (eOp pIn (eVar 1) (eC (.str "0123456789")))) [1]) (aNil)))))
def d_isWord : List MV → Sto → Re MV := runB 2 b_isWord
theorem blsM_true : ∀ n : Nat, blsM (List.replicate n (MV.bl true)) = some (List.replicate n true)
  | 0 => rfl
  | n + 1 => by
    rw [List.replicate_succ]
    unfold blsM
    rw [blsM_true n]
    rfl
theorem isWord_ok {D : Sto} {w : Str} {P : MV → Sto → Prop} (h : IsW w) (k : ∀ D', Fr none D D' → P (.bl true) D') : Ev (d_isWord [.str w] D) P := by
  obtain ⟨a, r, e, h1, h2, h3, h4⟩ := h
  have hsz : w.cps.size = r.length + 1 := by rw [← Array.length_toList, e]; rfl
  have hlen : w.length = r.length + 1 := hsz
  refine ev_run ?_
  show EvS (b_isWord [some (.str w), none] D) _ _
  unfold b_isWord
  have hl : lenM (.str w) D = some (.int ((r.length + 1 : Nat) : Int)) := by
    unfold lenM
    dsimp only
    rw [if_pos (sz_le (by omega)), hlen]
  rw [evS_seq, evS_if, ev_or, ev_not, ev_test, ev_isi, ev_v0]
  refine ⟨.bl true, rfl, ?_⟩
  rw [ev_bl]
  show Ev (bOr _ _ _ D) _
  rw [ev_or, ev_test, ev_op, ev_call, ev_cons, ev_v0, ev_nil, ev_f1]
  refine ⟨_, hl, ?_⟩
  rw [ev_c, ev_lt, ev_bl, decide_eq_false (by omega), if_neg (by decide), ev_test, ev_op, ev_call, ev_cons, ev_v0, ev_nil, ev_f1]
  refine ⟨_, hl, ?_⟩
  rw [ev_c, ev_gt, ev_bl, decide_eq_false (by omega), if_neg (by decide), evS_next, evS_seq, evS_if, ev_test, ev_op, ev_op, ev_v0, ev_c]
  have hix : ixAt (.str w) (.int 0) D = some (.str ⟨#[a]⟩) := by
    unfold ixAt
    dsimp only
    rw [if_pos (sz_le (by omega)), e]
    have e0 : atI (a :: r) 0 = some a := by
      unfold atI
      have : ixN (a :: r).length 0 = some 0 := ixN_of (n := (a :: r).length) (r := 0) (by simp)
      rw [this]
      rfl
    rw [e0]
    rfl
  unfold pIx
  rw [hix, ev_ok?]
  refine ⟨_, rfl, ?_⟩
  rw [ev_c, ev_notin in_sign, decide_eq_true (letter_of h1 h2), ev_bl, if_neg (by decide), evS_next, evS_ret, ev_call, ev_cons, ev_lcL]
  unfold wSeq
  rw [ev_bind, ev_v0]
  dsimp only
  rw [ev_ok]
  dsimp only
  refine lc_ok (fun i acc D' => acc = List.replicate i (MV.bl true) ∧ Fr none D D') _ 0 [] _ get_new ⟨rfl, Fr.snoc⟩ ?_ ?_
  · rintro i acc D' hi0 hi hL ⟨rfl, fr⟩
    have hi' : i < w.cps.size := by omega
    have hi2 : i < (a :: r).length := by rw [← e, Array.length_toList]; exact hi'
    obtain ⟨x, hx, hok⟩ : ∃ x, w.cps[i]? = some x ∧ ((97 ≤ x ∧ x ≤ 122) ∨ (48 ≤ x ∧ x ≤ 57)) := by
      refine ⟨(a :: r)[i], ?_, ?_⟩
      · rw [← Array.getElem?_toList, e]
        simp [hi2]
      · cases i with
        | zero => exact .inl ⟨h1, h2⟩
        | succ j => exact h4 _ (by simp)
    refine ⟨rfl, .str ⟨#[x]⟩, D', [some (.str w), some (.str ⟨#[x]⟩)], ?_, rfl, rfl, ?_⟩
    · dsimp only
      rw [hx]
      rfl
    have fin : D'[D.length]? = some (.lst (List.replicate i (MV.bl true))) ∧ (List.replicate i (MV.bl true)).length < sizeLine ∧ List.replicate i (MV.bl true) ++ [MV.bl true] = List.replicate (i + 1) (MV.bl true) ∧ Fr none D (D'.set D.length (.lst (List.replicate i (MV.bl true) ++ [MV.bl true]))) :=
      ⟨hL, sz_lt (by rw [List.length_replicate]; omega), List.replicate_succ'.symm, fr.setNew ok_none (Nat.le_refl _)⟩
    unfold bYes
    rw [ev_ok, if_pos rfl, ev_eor, ev_op, ev_v1, ev_c, ev_in in_sign, ev_bl]
    by_cases q : x ∈ ("abcdefghijklmnopqrstuvwxyz" : Str).cps.toList
    · rw [decide_eq_true q, if_pos rfl]
      exact fin
    · rw [decide_eq_false q, if_neg (by decide), ev_op, ev_v1, ev_c, ev_in in_sign]
      have hd : x ∈ ("0123456789" : Str).cps.toList := by
        rcases hok with ⟨u, v⟩ | ⟨u, v⟩
        · exact absurd (letter_of u v) q
        · exact digit_of u v
      rw [decide_eq_true hd]
      exact fin
  · rintro acc D' hL ⟨rfl, fr⟩
    refine ⟨rfl, ?_⟩
    rw [ev_nil, ev_f1]
    refine ⟨.bl true, ?_, k D' fr⟩
    unfold allM
    dsimp only
    rw [rdL_lst hL]
    show (blsM _).map _ = _
    rw [blsM_true]
    simp
end Mp

set_option Elab.async false
set_option linter.all false
set_option maxRecDepth 10000
namespace Mp
open PySem L2

section
variable {κ : Type} [DecidableEq κ]
theorem put_new {kvs : List (κ × MV)} {k : κ} {v : MV} (h : k ∉ kvs.map (·.1)) : putM kvs k v = kvs ++ [(k, v)] := by
  unfold putM
  have : kvs.any (fun kv => decide (kv.1 = k)) = false := by
    rw [List.any_eq_false]
    intro p hp
    simp only [decide_eq_true_eq]
    exact fun e => h (List.mem_map.mpr ⟨p, hp, e⟩)
  rw [this]
  rfl
theorem look_in {kvs : List (κ × MV)} {k : κ} : (lookM kvs k).isSome = decide (k ∈ kvs.map (·.1)) := by
  induction kvs with
  | nil => rfl
  | cons p r ih =>
    unfold lookM at ih ⊢
    by_cases q : p.1 = k
    · rw [List.find?_cons_of_pos (by simp [q])]
      simp [q]
    · rw [List.find?_cons_of_neg (by simp [q]), ih]
      have q' : ¬ k = p.1 := fun e => q e.symm
      simp [q']
theorem look_no {kvs : List (κ × MV)} {k : κ} (h : k ∉ kvs.map (·.1)) : (lookM kvs k).isSome = false := by
  rw [look_in]
  exact decide_eq_false h
end
section
variable {D : Sto} {P : MV → Sto → Prop}
theorem in_dic {w : Str} {m : Nat} {kvs : List (Key × MV)} (h : D[m]? = some (.dic kvs)) : inB (.str w) (.ref m) D = some (lookM kvs (Sum.inr w)).isSome := by
  unfold inB
  dsimp only
  rw [h]
  rfl
theorem put_dic {w : Str} {m : Nat} {v : MV} {kvs : List (Key × MV)} (h : D[m]? = some (.dic kvs)) (hn : (Sum.inr w : Key) ∉ kvs.map (·.1)) (hz : kvs.length < sizeLine) : dPut D (.ref m) (.str w) v = some (D.set m (.dic (kvs ++ [(Sum.inr w, v)]))) := by
  unfold dPut
  dsimp only
  rw [h]
  show (if kvs.length < sizeLine then some (D.set m (.dic (putM kvs (Sum.inr w) v))) else none) = _
  rw [if_pos hz, put_new hn]
def keysOf (ws : List Str) : List Key := ws.map Sum.inr
theorem key_mem {w : Str} {ws : List Str} : (Sum.inr w : Key) ∈ keysOf ws ↔ w ∈ ws := by
  unfold keysOf
  constructor
  · intro h
    obtain ⟨u, hu, e⟩ := List.mem_map.mp h
    cases e
    exact hu
  · exact fun h => List.mem_map.mpr ⟨w, h, rfl⟩
theorem ev_enum {ρ : Rho} {m : EM} {j : Nat} {xs : List MV} {R : Wk → Sto → Prop} (h : Ev (m ρ D) fun v D1 => v = .ref j ∧ rdL D1 j = some xs ∧ R ⟨xs.length, fun D => decide (rdL D j = some xs), pairItem (fun k => some (.int (k : Nat))) (fun k => xs[k]?)⟩ D1) : Ev (wEnum m ρ D) R := by
  unfold wEnum
  rw [ev_bind]
  refine h.imp fun v D1 ⟨e, q1, q2⟩ => ?_
  subst e
  dsimp only
  rw [q1]
  dsimp only
  rw [ev_ok]
  exact q2
theorem not_take {α : Type} {l : List α} {i : Nat} (hn : l.Nodup) (hi : i < l.length) : l[i] ∉ l.take i := fun hm => by
  obtain ⟨j, hj, e⟩ := List.mem_iff_getElem.mp hm
  rw [List.length_take] at hj
  rw [List.getElem_take] at e
  exact List.pairwise_iff_getElem.mp hn j i (by omega) hi (by omega) e
end
def b_wrongWord : SM :=
  sSeq (sSet 1 (eDNewK))
  (sSeq (sFor (wEnum (eVar 0)) (gT [gN 2, gN 3]) (sSeq (sIf (bOr (bNot (bTest (eCall d_isWord (aCons (eVar 3) (aNil))))) (bTest (eOp pIn (eVar 3) (eVar 1)))) (sRet (eVar 2)) (sNext))
  (sDPutM (eVar 1) (eVar 3) (eC (.bl true)))))
  (sRet (eC .non)))
def d_wrongWord : List MV → Sto → Re MV := runB 4 b_wrongWord
theorem wrongWord_ok {D : Sto} {j : Nat} {ws : List Str} {P : MV → Sto → Prop} (hj : D[j]? = some (.lst (ws.map MV.str))) (hw : ∀ w ∈ ws, IsW w) (hn : ws.Nodup) (hz : ws.length ≤ 100) (k : ∀ D', Fr none D D' → P .non D') : Ev (d_wrongWord [.ref j] D) P := by
  refine ev_run ?_
  show EvS (b_wrongWord [some (.ref j), none, none, none] D) _ _
  unfold b_wrongWord
  rw [evS_seq, evS_set]
  unfold eDNewK new
  rw [ev_ok]
  show EvS (sSeq _ _ [some (.ref j), some (.ref D.length), none, none] (D ++ [Ob.dic []])) _ _
  have f0 : Fr none D (D ++ [Ob.dic []]) := Fr.snoc
  rw [evS_seq, evS_for]
  refine ev_enum (j := j) (xs := ws.map MV.str) ?_
  rw [ev_v0]
  refine ⟨rfl, rdL_lst (f0.at hj out_none), ?_⟩
  dsimp only
  refine for_ok (fun i ρ D' => Fr none D D' ∧ ∃ x y kvs, ρ = [some (.ref j), some (.ref D.length), x, y] ∧ D'[D.length]? = some (.dic kvs) ∧ kvs.map (·.1) = keysOf (ws.take i) ∧ kvs.length ≤ i) _ 0 _ _ ⟨f0, none, none, [], rfl, get_new, rfl, Nat.le_refl _⟩ ?_ ?_
  · rintro i ρ D1 hi0 hi ⟨fr, x, y, kvs, rfl, hm, hk, hl⟩
    have hi' : i < ws.length := by simpa using hi
    have f1 : Fr none D1 (D1 ++ [Ob.tup [.int (i : Nat), .str ws[i]]]) := Fr.snoc
    refine ⟨decide_eq_true (rdL_lst (fr.at hj out_none)), .ref D1.length, D1 ++ [Ob.tup [.int (i : Nat), .str ws[i]]], [some (.ref j), some (.ref D.length), some (.int (i : Nat)), some (.str ws[i])], ?_, ?_, ?_⟩
    · dsimp only
      unfold pairItem
      have : (ws.map MV.str)[i]? = some (.str ws[i]) := by simp [hi']
      dsimp only
      rw [this]
    · unfold gT
      dsimp only
      have e : rdT (D1 ++ [Ob.tup [.int (i : Nat), .str ws[i]]]) D1.length = some [.int (i : Nat), .str ws[i]] := by unfold rdT; rw [get_new]
      rw [e]
      rfl
    rw [evS_seq, evS_if, ev_or, ev_not, ev_test, ev_call, ev_cons, ev_v3, ev_nil]
    refine isWord_ok (hw _ (List.getElem_mem hi')) fun D2 f2 => ?_
    rw [ev_bl]
    have hm2 : D2[D.length]? = some (.dic kvs) := (f1.trans f2).at hm out_none
    have hnk : (Sum.inr ws[i] : Key) ∉ kvs.map (·.1) := by
      rw [hk, key_mem]
      exact not_take hn hi'
    show Ev (bTest _ _ D2) _
    rw [ev_test, ev_op, ev_v3, ev_v1, ev_in (in_dic hm2), ev_bl, look_no hnk, if_neg (by decide), evS_next, evS_dput, ev_c, ev_v1, ev_v3]
    refine ⟨_, put_dic hm2 hnk (sz_lt (by omega)), ?_⟩
    refine ⟨((fr.trans f1).trans f2).setNew ok_none (Nat.le_refl _), _, _, _, rfl, List.getElem?_set_self (List.getElem?_eq_some_iff.mp hm2).1, ?_, ?_⟩
    · rw [List.map_append, hk, take_snoc (by simp [hi'] : ws[i]? = some ws[i])]
      unfold keysOf
      rw [List.map_append]
      rfl
    · rw [List.length_append, List.length_singleton]; omega
  · rintro ρ D1 ⟨fr, x, y, kvs, rfl, hm, hk, hl⟩
    refine ⟨decide_eq_true (rdL_lst (fr.at hj out_none)), ?_⟩
    rw [evS_ret, ev_c]
    exact k D1 fr
def b_isList : SM := sRet (eIsi tSeq (eVar 0))
def d_isList : List MV → Sto → Re MV := runB 1 b_isList
theorem isList_ok {D : Sto} {j : Nat} {xs : List MV} {P : MV → Sto → Prop} (hj : D[j]? = some (.lst xs)) (k : P (.bl true) D) : Ev (d_isList [.ref j] D) P := by
  refine ev_run ?_
  show EvS (b_isList [some (.ref j)] D) _ _
  unfold b_isList
  rw [evS_ret, ev_isi, ev_v0]
  refine ⟨.bl true, ?_, k⟩
  unfold tkOf
  dsimp only
  rw [hj]
  rfl
def b_wrongWordList : SM :=
  sSeq (sIf (bNot (bTest (eCall d_isList (aCons (eVar 0) (aNil))))) (sRet (eTup (aCons (eVar 1) (aNil)))) (sNext))
  (sSeq (sSet 2 (eCall d_wrongWord (aCons (eVar 0) (aNil))))
  (sSeq (sIf (bTest (eUn pIsN (eVar 2))) (sRet (eC .non)) (sNext))
  (sRet (eTup (aCons (eVar 1) (aCons (eVar 2) (aNil)))))))
def d_wrongWordList : List MV → Sto → Re MV := runB 3 b_wrongWordList
theorem wrongWordList_ok {D : Sto} {j : Nat} {n : MV} {ws : List Str} {P : MV → Sto → Prop} (hj : D[j]? = some (.lst (ws.map MV.str))) (hw : ∀ w ∈ ws, IsW w) (hn : ws.Nodup) (hz : ws.length ≤ 100) (k : ∀ D', Fr none D D' → P .non D') : Ev (d_wrongWordList [.ref j, n] D) P := by
  refine ev_run ?_
  show EvS (b_wrongWordList [some (.ref j), some n, none] D) _ _
  unfold b_wrongWordList
  rw [evS_seq, evS_if, ev_not, ev_test, ev_call, ev_cons, ev_v0, ev_nil]
  refine isList_ok hj ?_
  rw [ev_bl]
  show EvS (sNext _ D) _ _
  rw [evS_next, evS_seq, evS_set, ev_call, ev_cons, ev_v0, ev_nil]
  refine wrongWord_ok hj hw hn hz fun D1 f1 => ?_
  show EvS (sSeq _ _ [some (.ref j), some n, some .non] D1) _ _
  rw [evS_seq, evS_if, ev_test, ev_un, ev_v2, ev_isN, ev_bl]
  show EvS (sRet (eC .non) _ D1) _ _
  rw [evS_ret, ev_c]
  exact k D1 f1
end Mp

set_option Elab.async false
set_option linter.all false
set_option maxRecDepth 10000
namespace Mp
open PySem L2

def keyP (p : Str × Str) : List Key := [Sum.inr p.1, Sum.inr p.2]
section
variable {D : Sto} {P : MV → Sto → Prop}
theorem tkey_pair {v : MV} {p : Str × Str} (h : PairAt D v p) : tkeyOf D v = some (keyP p) := by
  obtain ⟨i, rfl, e⟩ := h
  unfold tkeyOf
  dsimp only
  rw [e]
  rfl
theorem in_dit {v : MV} {p : Str × Str} {m : Nat} {kvs : List (List Key × MV)} (hv : PairAt D v p) (h : D[m]? = some (.dit kvs)) : inB v (.ref m) D = some (lookM kvs (keyP p)).isSome := by
  unfold inB
  dsimp only
  rw [h]
  dsimp only
  rw [tkey_pair hv]
  rfl
theorem put_dit {v w : MV} {p : Str × Str} {m : Nat} {kvs : List (List Key × MV)} (hv : PairAt D v p) (h : D[m]? = some (.dit kvs)) (hn : keyP p ∉ kvs.map (·.1)) (hz : kvs.length < sizeLine) : dPut D (.ref m) v w = some (D.set m (.dit (kvs ++ [(keyP p, w)]))) := by
  unfold dPut
  dsimp only
  rw [h]
  dsimp only
  rw [tkey_pair hv]
  show (if kvs.length < sizeLine then some (D.set m (.dit (putM kvs (keyP p) w))) else none) = _
  rw [if_pos hz, put_new hn]
theorem keyP_mem {p : Str × Str} {ps : List (Str × Str)} : keyP p ∈ ps.map keyP ↔ p ∈ ps := by
  constructor
  · intro h
    obtain ⟨q, hq, e⟩ := List.mem_map.mp h
    have h1 : q.1 = p.1 := by
      have := (List.cons.inj e).1
      exact Sum.inr.inj this
    have h2 : q.2 = p.2 := by
      have := (List.cons.inj (List.cons.inj e).2).1
      exact Sum.inr.inj this
    have : q = p := Prod.ext h1 h2
    exact this ▸ hq
  · exact fun h => List.mem_map.mpr ⟨p, h, rfl⟩
end
def b_isTupOf : SM := sRet (eAnd (eIsi tTup (eVar 0)) (eOp pEqA (eCall (f1 lenM) (aCons (eVar 0) (aNil))) (eVar 1)))
def d_isTupOf : List MV → Sto → Re MV := runB 2 b_isTupOf
theorem isTupOf_ok {D : Sto} {v : MV} {p : Str × Str} {P : MV → Sto → Prop} (h : PairAt D v p) (k : P (.bl true) D) : Ev (d_isTupOf [v, .int 2] D) P := by
  obtain ⟨i, rfl, e⟩ := h
  refine ev_run ?_
  show EvS (b_isTupOf [some (.ref i), some (.int 2)] D) _ _
  unfold b_isTupOf
  rw [evS_ret, ev_eand, ev_isi, ev_v0]
  refine ⟨.bl true, ?_, ?_⟩
  · unfold tkOf
    dsimp only
    rw [e]
    rfl
  rw [ev_bl, if_pos rfl, ev_op, ev_call, ev_cons, ev_v0, ev_nil, ev_f1]
  refine ⟨.int 2, ?_, ?_⟩
  · unfold lenM
    dsimp only
    rw [e]
    rfl
  rw [ev_v1, ev_eqI]
  exact k
def b_wrongFits : SM :=
  sSeq (sIf (bNot (bTest (eCall d_isList (aCons (eVar 2) (aNil))))) (sRet (eTup (aCons (eC (.int 2)) (aNil)))) (sNext))
  (sSeq (sSet 3 (eDNewT))
  (sSeq (sFor (wEnum (eVar 2)) (gT [gN 4, gN 5]) (sSeq (sIf (bNot (bTest (eCall d_isTupOf (aCons (eVar 5) (aCons (eC (.int 2)) (aNil)))))) (sRet (eTup (aCons (eC (.int 2)) (aCons (eVar 4) (aNil))))) (sNext))
  (sSeq (sIf (bTest (eOp pNotIn (eOp pIx (eVar 5) (eC (.int 0))) (eVar 0))) (sRet (eTup (aCons (eC (.int 2)) (aCons (eVar 4) (aCons (eC (.int 0)) (aNil)))))) (sNext))
  (sSeq (sIf (bTest (eOp pNotIn (eOp pIx (eVar 5) (eC (.int 1))) (eVar 1))) (sRet (eTup (aCons (eC (.int 2)) (aCons (eVar 4) (aCons (eC (.int 1)) (aNil)))))) (sNext))
  (sSeq (sIf (bTest (eOp pIn (eVar 5) (eVar 3))) (sRet (eTup (aCons (eC (.int 2)) (aCons (eVar 4) (aNil))))) (sNext))
  (sDPutM (eVar 3) (eVar 5) (eC (.bl true))))))))
  (sRet (eC .non))))
def d_wrongFits : List MV → Sto → Re MV := runB 6 b_wrongFits
theorem wrongFits_ok {D : Sto} {a b f : Nat} {vf : List MV} {ss pp : List Str} {ff : List (Str × Str)} {P : MV → Sto → Prop} (ha : D[a]? = some (.lst (ss.map MV.str))) (hb : D[b]? = some (.lst (pp.map MV.str))) (hf : D[f]? = some (.lst vf)) (pf : PairsAt D vf ff) (g : Good ss pp ff)
    (k : ∀ D', Fr none D D' → P .non D') : Ev (d_wrongFits [.ref a, .ref b, .ref f] D) P := by
  refine ev_run ?_
  show EvS (b_wrongFits [some (.ref a), some (.ref b), some (.ref f), none, none, none] D) _ _
  unfold b_wrongFits
  rw [evS_seq, evS_if, ev_not, ev_test, ev_call, ev_cons, ev_v2, ev_nil]
  refine isList_ok hf ?_
  rw [ev_bl]
  show EvS (sNext _ D) _ _
  rw [evS_next, evS_seq, evS_set]
  unfold eDNewT new
  rw [ev_ok]
  show EvS (sSeq _ _ [some (.ref a), some (.ref b), some (.ref f), some (.ref D.length), none, none] (D ++ [Ob.dit []])) _ _
  have f0 : Fr none D (D ++ [Ob.dit []]) := Fr.snoc
  rw [evS_seq, evS_for]
  refine ev_enum (j := f) (xs := vf) ?_
  rw [ev_v2]
  refine ⟨rfl, rdL_lst (f0.at hf out_none), ?_⟩
  dsimp only
  have lf := Pd.len pf
  refine for_ok (fun i ρ D' => Fr none D D' ∧ ∃ x y kvs, ρ = [some (.ref a), some (.ref b), some (.ref f), some (.ref D.length), x, y] ∧ D'[D.length]? = some (.dit kvs) ∧ kvs.map (·.1) = (ff.take i).map keyP ∧ kvs.length ≤ i) _ 0 _ _ ⟨f0, none, none, [], rfl, get_new, rfl, Nat.le_refl _⟩ ?_ ?_
  · rintro i ρ D1 hi0 hi ⟨fr, x, y, kvs, rfl, hm, hk, hl⟩
    have hi' : i < vf.length := by omega
    have hi2 : i < ff.length := by omega
    have ev : vf[i]? = some vf[i] := by simp [hi']
    obtain ⟨p, ep, rp⟩ := Pd.get pf ev
    have epp : ff[i] = p := by
      rw [List.getElem?_eq_getElem hi2] at ep
      exact Option.some.inj ep
    have f1 : Fr none D1 (D1 ++ [Ob.tup [.int (i : Nat), vf[i]]]) := Fr.snoc
    have fr1 := fr.trans f1
    refine ⟨decide_eq_true (rdL_lst (fr.at hf out_none)), .ref D1.length, D1 ++ [Ob.tup [.int (i : Nat), vf[i]]], [some (.ref a), some (.ref b), some (.ref f), some (.ref D.length), some (.int (i : Nat)), some vf[i]], ?_, ?_, ?_⟩
    · dsimp only
      unfold pairItem
      dsimp only
      rw [ev]
    · unfold gT
      dsimp only
      have e : rdT (D1 ++ [Ob.tup [.int (i : Nat), vf[i]]]) D1.length = some [.int (i : Nat), vf[i]] := by unfold rdT; rw [get_new]
      rw [e]
      rfl
    have hv : PairAt (D1 ++ [Ob.tup [.int (i : Nat), vf[i]]]) vf[i] p := PairAt.fr (S := none) rp fr1
    have hm1 := f1.at hm out_none
    have ha1 := fr1.at ha out_none
    have hb1 := fr1.at hb out_none
    generalize (D1 ++ [Ob.tup [.int ((i : Nat) : Int), vf[i]]]) = D2 at f1 fr1 hv hm1 ha1 hb1
    have hp : p ∈ ff := by rw [← epp]; exact List.getElem_mem hi2
    obtain ⟨m1, m2⟩ := g.fi p hp
    have w1 := isW_wd (g.sw _ m1)
    have w2 := isW_wd (g.pw _ m2)
    have hin1 := in_words (D := D2) w1 ha1 fun w hw => isW_wd (g.sw w hw)
    have hin2 := in_words (D := D2) w2 hb1 fun w hw => isW_wd (g.pw w hw)
    rw [evS_seq, evS_if, ev_not, ev_test, ev_call, ev_cons, ev_var (i := 5) rfl, ev_cons, ev_c, ev_nil]
    refine isTupOf_ok hv ?_
    rw [ev_bl]
    show EvS (sNext _ D2) _ _
    rw [evS_next, evS_seq, evS_if, ev_test, ev_op, ev_op, ev_var (i := 5) rfl, ev_c, ev_pair0 hv, ev_v0, ev_notin hin1, decide_eq_true m1, ev_bl]
    show EvS (sNext _ D2) _ _
    rw [evS_next, evS_seq, evS_if, ev_test, ev_op, ev_op, ev_var (i := 5) rfl, ev_c, ev_pair1 hv, ev_v1, ev_notin hin2, decide_eq_true m2, ev_bl]
    show EvS (sNext _ D2) _ _
    have hnk : keyP p ∉ kvs.map (·.1) := by
      rw [hk, keyP_mem, ← epp]
      exact not_take g.fn hi2
    rw [evS_next, evS_seq, evS_if, ev_test, ev_op, ev_var (i := 5) rfl, ev_v3, ev_in (in_dit hv hm1), look_no hnk, ev_bl, if_neg (by decide), evS_next, evS_dput, ev_c, ev_v3, ev_var (i := 5) rfl]
    have hz := g.fz
    refine ⟨_, put_dit hv hm1 hnk (sz_lt (by omega)), ?_⟩
    refine ⟨fr1.setNew ok_none (Nat.le_refl _), _, _, _, rfl, List.getElem?_set_self (List.getElem?_eq_some_iff.mp hm1).1, ?_, ?_⟩
    · rw [List.map_append, hk, take_snoc ep, List.map_append]
      rfl
    · rw [List.length_append, List.length_singleton]; omega
  · rintro ρ D1 ⟨fr, x, y, kvs, rfl, hm, hk, hl⟩
    refine ⟨decide_eq_true (rdL_lst (fr.at hf out_none)), ?_⟩
    rw [evS_ret, ev_c]
    exact k D1 fr
def b_wrongTable : SM :=
  sSeq (sSet 3 (eCall d_wrongWordList (aCons (eVar 0) (aCons (eC (.int 0)) (aNil)))))
  (sSeq (sIf (bTest (eUn pIsN (eVar 3))) (sSet 3 (eCall d_wrongWordList (aCons (eVar 1) (aCons (eC (.int 1)) (aNil))))) (sNext))
  (sSeq (sIf (bTest (eUn pIsN (eVar 3))) (sSet 3 (eCall d_wrongFits (aCons (eVar 0) (aCons (eVar 1) (aCons (eVar 2) (aNil)))))) (sNext))
  (sRet (eVar 3))))
def d_wrongTable : List MV → Sto → Re MV := runB 4 b_wrongTable
theorem wrongTable_ok {D : Sto} {a b f : Nat} {vf : List MV} {ss pp : List Str} {ff : List (Str × Str)} {P : MV → Sto → Prop} (ha : D[a]? = some (.lst (ss.map MV.str))) (hb : D[b]? = some (.lst (pp.map MV.str))) (hf : D[f]? = some (.lst vf)) (pf : PairsAt D vf ff) (g : Good ss pp ff)
    (k : ∀ D', Fr none D D' → P .non D') : Ev (d_wrongTable [.ref a, .ref b, .ref f] D) P := by
  refine ev_run ?_
  show EvS (b_wrongTable [some (.ref a), some (.ref b), some (.ref f), none] D) _ _
  unfold b_wrongTable
  rw [evS_seq, evS_set, ev_call, ev_cons, ev_v0, ev_cons, ev_c, ev_nil]
  refine wrongWordList_ok ha g.sw g.sn g.sz fun D1 f1 => ?_
  show EvS (sSeq _ _ [some (.ref a), some (.ref b), some (.ref f), some .non] D1) _ _
  rw [evS_seq, evS_if, ev_test, ev_un, ev_v3, ev_isN, ev_bl]
  show EvS (sSet 3 _ _ D1) _ _
  rw [evS_set, ev_call, ev_cons, ev_v1, ev_cons, ev_c, ev_nil]
  refine wrongWordList_ok (f1.at hb out_none) g.pw g.pn g.pz fun D2 f2 => ?_
  have f12 := f1.trans f2
  show EvS (sSeq _ _ [some (.ref a), some (.ref b), some (.ref f), some .non] D2) _ _
  rw [evS_seq, evS_if, ev_test, ev_un, ev_v3, ev_isN, ev_bl]
  show EvS (sSet 3 _ _ D2) _ _
  rw [evS_set, ev_call, ev_cons, ev_v0, ev_cons, ev_v1, ev_cons, ev_v2, ev_nil]
  refine wrongFits_ok (f12.at ha out_none) (f12.at hb out_none) (f12.at hf out_none) (pf.fr f12) g fun D3 f3 => ?_
  show EvS (sRet (eVar 3) [some (.ref a), some (.ref b), some (.ref f), some .non] D3) _ _
  rw [evS_ret, ev_v3]
  exact k D3 (f12.trans f3)
end Mp

set_option Elab.async false
set_option linter.all false
set_option maxRecDepth 10000
namespace Mp
open PySem L2

/-! ### dicts by turns -/
theorem dc_ok {wk : Wk} {g : GM} {t : BM} {ek ev : EM} {ρ : Rho} {vs : List Nat} {L : Nat} {P : MV → Sto → Prop} (I : Nat → List (Key × MV) → Sto → Prop) :
    ∀ (k i : Nat) (acc : List (Key × MV)) (D : Sto), D[L]? = some (.dic acc) → I i acc D → (∀ j acc D, i ≤ j → j < i + k → D[L]? = some (.dic acc) → I j acc D → wk.chk D = true ∧ ∃ v D1 ρ1, wk.item j D = some (v, D1) ∧ g v (wipeM ρ vs) D1 = some ρ1 ∧ wipeM ρ1 vs = wipeM ρ vs ∧
        Ev (t ρ1 D1) fun c D2 => c = true ∧ Ev (ek ρ1 D2) fun y D3 => Ev (ev ρ1 D3) fun z D4 => D4[L]? = some (.dic acc) ∧ acc.length < sizeLine ∧ ∃ q, keyOf y = some q ∧ q ∉ acc.map (·.1) ∧ I (j + 1) (acc ++ [(q, z)]) (D4.set L (.dic (acc ++ [(q, z)])))) →
      (∀ acc D, D[L]? = some (.dic acc) → I (i + k) acc D → wk.chk D = true ∧ P (.ref L) D) → Ev (dcGo wk g t ek ev ρ vs L k i D) P
  | 0, i, acc, D, hl, h, _, hn => by
    obtain ⟨h1, h2⟩ := hn acc D hl h
    unfold dcGo
    rw [h1, if_pos rfl, ev_ok]
    exact h2
  | k + 1, i, acc, D, hl, h, hs, hn => by
    obtain ⟨h1, v, D1, ρ1, h2, h3, h4, h5⟩ := hs i acc D (Nat.le_refl _) (by omega) hl h
    unfold dcGo
    rw [h1, if_pos rfl, h2]
    dsimp only
    rw [h3]
    dsimp only
    rw [if_pos h4]
    obtain ⟨c, D2, e1, rfl, q⟩ := h5.get
    rw [e1]
    obtain ⟨y, D3, e2, q2⟩ := q.get
    dsimp only
    rw [e2]
    obtain ⟨z, D4, e3, g1, g2, kq, g3, g4, g5⟩ := q2.get
    dsimp only
    rw [e3]
    dsimp only
    rw [g1]
    dsimp only
    rw [g3]
    dsimp only
    rw [if_pos g2, put_new g4]
    exact dc_ok I k (i + 1) _ _ (List.getElem?_set_self (List.getElem?_eq_some_iff.mp g1).1) g5 (fun j acc D a b => hs j acc D (by omega) (by omega)) (fun acc D a b => hn acc D a (by rw [show i + (k + 1) = i + 1 + k by omega]; exact b))
theorem ev_dc {w : WM} {g : GM} {t : BM} {ek ev : EM} {vs : List Nat} {ρ : Rho} {D : Sto} {P : MV → Sto → Prop} : Ev (eDc w g t ek ev vs ρ D) P = Ev (w ρ D) fun wk D1 => Ev (dcGo wk g t ek ev ρ vs D1.length wk.n 0 (D1 ++ [.dic []])) P := by
  unfold eDc
  rw [ev_bind]
/-! ### the number of each word -/
def numD : List Str → Nat → List (Key × MV)
  | [], _ => []
  | w :: r, n => (Sum.inr w, .int (n : Nat)) :: numD r (n + 1)
theorem numD_snoc : ∀ (ws : List Str) (w : Str) (n : Nat), numD (ws ++ [w]) n = numD ws n ++ [(Sum.inr w, .int ((n + ws.length : Nat) : Int))]
  | [], w, n => rfl
  | x :: r, w, n => by
    show (_ :: numD (r ++ [w]) (n + 1)) = _
    rw [numD_snoc r w (n + 1)]
    show _ = _ :: (numD r (n + 1) ++ _)
    rw [List.length_cons, show n + 1 + r.length = n + (r.length + 1) by omega]
theorem numD_keys : ∀ (ws : List Str) (n : Nat), (numD ws n).map (·.1) = keysOf ws
  | [], _ => rfl
  | x :: r, n => by
    show _ :: (numD r (n + 1)).map _ = _
    rw [numD_keys r (n + 1)]
    rfl
theorem numD_len : ∀ (ws : List Str) (n : Nat), (numD ws n).length = ws.length
  | [], _ => rfl
  | x :: r, n => by
    show (numD r (n + 1)).length + 1 = _
    rw [numD_len r (n + 1)]
    rfl
theorem numD_look : ∀ {ws : List Str} {n i : Nat} (hi : i < ws.length), ws.Nodup → lookM (numD ws n) (Sum.inr ws[i]) = some (.int ((n + i : Nat) : Int))
  | x :: r, n, 0, hi, h => by
    unfold numD lookM
    rw [List.find?_cons_of_pos (by simp)]
    rfl
  | x :: r, n, i + 1, hi, h => by
    obtain ⟨h1, h2⟩ := List.nodup_cons.mp h
    have hi' : i < r.length := by simpa using hi
    have ih := numD_look (n := n + 1) hi' h2
    unfold numD
    unfold lookM at ih ⊢
    rw [List.find?_cons_of_neg]
    · show _ = some (MV.int ((n + (i + 1) : Nat) : Int))
      rw [show n + (i + 1) = n + 1 + i by omega]
      exact ih
    · simp only [decide_eq_true_eq]
      intro e
      have e2 : x = r[i] := Sum.inr.inj e
      exact h1 (e2 ▸ List.getElem_mem hi')
theorem numbers_ok {ρ : Rho} {m : EM} {slot j : Nat} {ws : List Str} {D : Sto} {P : MV → Sto → Prop} (hs : slot = 7 ∨ slot = 8) (hlen : ρ.length = 10) (hm : ∀ D Q, Ev (m ρ D) Q = Q (.ref j) D) (hj : D[j]? = some (.lst (ws.map MV.str))) (hn : ws.Nodup) (hz : ws.length ≤ 100)
    (k : ∀ D', Fr none D D' → D'[D.length]? = some (.dic (numD ws 0)) → P (.ref D.length) D') :
    Ev (eDc (wEnum m) (gT [gN 6, gN slot]) bYes (eVar slot) (eVar 6) [6, slot] ρ D) P := by
  rw [ev_dc]
  refine ev_enum (j := j) (xs := ws.map MV.str) ?_
  rw [hm]
  refine ⟨rfl, rdL_lst hj, ?_⟩
  dsimp only
  refine dc_ok (fun i acc D' => Fr none D D' ∧ acc = numD (ws.take i) 0) _ 0 [] _ get_new ⟨Fr.snoc, rfl⟩ ?_ ?_
  · rintro i acc D1 hi0 hi hL ⟨fr, rfl⟩
    have hi' : i < ws.length := by simpa using hi
    have f1 : Fr none D1 (D1 ++ [Ob.tup [.int (i : Nat), .str ws[i]]]) := Fr.snoc
    refine ⟨decide_eq_true (rdL_lst (fr.at hj out_none)), .ref D1.length, D1 ++ [Ob.tup [.int (i : Nat), .str ws[i]]], (((((ρ.set slot none).set 6 none).set 6 (some (.int (i : Nat)))).set slot (some (.str ws[i])))), ?_, ?_, ?_, ?_⟩
    · dsimp only
      unfold pairItem
      have : (ws.map MV.str)[i]? = some (.str ws[i]) := by simp [hi']
      dsimp only
      rw [this]
    · unfold gT
      dsimp only
      have e : rdT (D1 ++ [Ob.tup [.int (i : Nat), .str ws[i]]]) D1.length = some [.int (i : Nat), .str ws[i]] := by unfold rdT; rw [get_new]
      rw [e]
      rfl
    · show (((((ρ.set slot none).set 6 none).set 6 (some (MV.int (i : Nat)))).set slot (some (MV.str ws[i]))).set slot none).set 6 none = (ρ.set slot none).set 6 none
      rcases hs with rfl | rfl
      · refine List.ext_getElem? fun n => ?_
        simp only [List.getElem?_set]
        split <;> split <;> simp_all
      · refine List.ext_getElem? fun n => ?_
        simp only [List.getElem?_set]
        split <;> split <;> simp_all
    have es : (((((ρ.set slot none).set 6 none).set 6 (some (MV.int (i : Nat)))).set slot (some (MV.str ws[i]))))[slot]? = some (some (.str ws[i])) := List.getElem?_set_self (by simp; rcases hs with rfl | rfl <;> omega)
    have e6 : (((((ρ.set slot none).set 6 none).set 6 (some (MV.int (i : Nat)))).set slot (some (MV.str ws[i]))))[6]? = some (some (.int (i : Nat))) := by
      rw [List.getElem?_set_ne (by rcases hs with rfl | rfl <;> omega)]
      exact List.getElem?_set_self (by simp; omega)
    unfold bYes
    rw [ev_ok]
    refine ⟨rfl, ?_⟩
    rw [ev_var es, ev_var e6]
    refine ⟨f1.at hL out_none, sz_lt (by rw [numD_len, List.length_take]; omega), _, rfl, ?_, (fr.trans f1).setNew ok_none (Nat.le_refl _), ?_⟩
    · rw [numD_keys, key_mem]
      exact not_take hn hi'
    · rw [take_snoc (by simp [hi'] : ws[i]? = some ws[i]), numD_snoc]
      have : (ws.take i).length = i := by rw [List.length_take]; omega
      rw [this, Nat.zero_add]
  · rintro acc D1 hL ⟨fr, rfl⟩
    refine ⟨decide_eq_true (rdL_lst (fr.at hj out_none)), k D1 fr ?_⟩
    rw [hL, List.take_of_length_le (by simp)]
end Mp

set_option Elab.async false
set_option linter.all false
set_option maxRecDepth 10000
namespace Mp
open PySem L2

def ixF (ss pp : List Str) (p : Str × Str) : Int × Int := ((ss.idxOf p.1 : Nat), (pp.idxOf p.2 : Nat))
def ltF (ss pp : List Str) (p q : Str × Str) : Bool := SrtO.lexB (ixF ss pp p) (ixF ss pp q)
def ordF (ss pp : List Str) (ff : List (Str × Str)) : List (Str × Str) := isort (ltF ss pp) ff
def IPair (D : Sto) (v : MV) (q : Int × Int) : Prop := ∃ i, v = .ref i ∧ D[i]? = some (.tup [.int q.1, .int q.2])
section
variable {D D' : Sto} {P : MV → Sto → Prop}
theorem IPair.mono {v : MV} {q : Int × Int} (h : IPair D v q) (f : Fr none D D') : IPair D' v q := let ⟨i, e, g⟩ := h; ⟨i, e, f.at g out_none⟩
theorem IPair.set {v : MV} {q : Int × Int} {L : Nat} {acc : List MV} {o : Ob} (e : D[L]? = some (.lst acc)) (h : IPair D v q) : IPair (D.set L o) v q := by
  obtain ⟨i, hv, g⟩ := h
  refine ⟨i, hv, ?_⟩
  have : L ≠ i := fun z => by
    subst z
    rw [e] at g
    cases g
  rw [List.getElem?_set_ne this]
  exact g
theorem IPair.key {v : MV} {q : Int × Int} (h : IPair D v q) : ipOf D v = some q := by
  obtain ⟨i, rfl, g⟩ := h
  unfold ipOf
  dsimp only
  rw [g]
theorem ev_i0 {v : MV} {q : Int × Int} (h : IPair D v q) : Ev (pIx v (.int 0) D) P = P (.int q.1) D := by
  obtain ⟨i, rfl, e⟩ := h
  exact ev_ixT (r := 0) e rfl
theorem ev_i1 {v : MV} {q : Int × Int} (h : IPair D v q) : Ev (pIx v (.int 1) D) P = P (.int q.2) D := by
  obtain ⟨i, rfl, e⟩ := h
  exact ev_ixT (r := 1) e rfl
theorem idx_lt {ws : List Str} {w : Str} (h : w ∈ ws) : ws.idxOf w < ws.length := List.idxOf_lt_length_of_mem h
theorem idx_get {ws : List Str} {w : Str} (h : w ∈ ws) : ws[ws.idxOf w]? = some w := by
  rw [List.getElem?_eq_getElem (idx_lt h), List.getElem_idxOf]
theorem ev_num {m : Nat} {ws : List Str} {w : Str} (h : D[m]? = some (.dic (numD ws 0))) (hw : w ∈ ws) (hn : ws.Nodup) : Ev (pIx (.ref m) (.str w) D) P = P (.int (ws.idxOf w : Nat)) D := by
  have := numD_look (n := 0) (idx_lt hw) hn
  rw [List.getElem_idxOf, Nat.zero_add] at this
  exact ev_ixd h this
theorem sorted_run {j : Nat} {xs : List MV} {ss pp : List Str} {ff : List (Str × Str)} (hj : D[j]? = some (.lst xs)) (hp : Paired (fun v p => IPair D v (ixF ss pp p)) xs ff) :
    ∃ ys, bSorted [.ref j] D = .ok (.ref D.length) (D ++ [.lst ys]) ∧ Paired (fun v p => IPair D v (ixF ss pp p)) ys (ordF ss pp ff) := by
  have all : (xs.all fun x => (ipOf D x).isSome) = true := by
    rw [List.all_eq_true]
    intro x hx
    obtain ⟨i, hi, e⟩ := List.mem_iff_getElem.mp hx
    obtain ⟨p, _, r⟩ := Pd.get hp (i := i) (x := x) (by rw [List.getElem?_eq_getElem hi, e])
    rw [r.key]
    rfl
  refine ⟨isort (fun x y => SrtO.lexB (ipK D x) (ipK D y)) xs, ?_, ?_⟩
  · unfold bSorted
    dsimp only
    rw [rdL_lst hj]
    dsimp only
    rw [if_pos all]
    rfl
  · refine isort_rel (fun a b a' b' _ _ _ _ f f' => ?_) hp
    show SrtO.lexB _ _ = SrtO.lexB _ _
    unfold ipK
    rw [f.key, f'.key]
    rfl
theorem ordF_perm {ss pp : List Str} {ff : List (Str × Str)} : (ordF ss pp ff).Perm ff := isort_perm _ _
end
def b_order : SM :=
  sSeq (sSet 3 (eDc (wEnum (eVar 0)) (gT [gN 6, gN 7]) (bYes) (eVar 7) (eVar 6) [6, 7]))
  (sSeq (sSet 4 (eDc (wEnum (eVar 1)) (gT [gN 6, gN 8]) (bYes) (eVar 8) (eVar 6) [6, 8]))
  (sSeq (sSet 5 (eCall bSorted (aCons (eLc (wSeq (eVar 2)) (gT [gN 7, gN 8]) (bYes) (eTup (aCons (eOp pIx (eVar 3) (eVar 7)) (aCons (eOp pIx (eVar 4) (eVar 8)) (aNil)))) [7, 8]) (aNil))))
  (sRet (eLc (wSeq (eVar 5)) (gN 9) (bYes) (eTup (aCons (eOp pIx (eVar 0) (eOp pIx (eVar 9) (eC (.int 0)))) (aCons (eOp pIx (eVar 1) (eOp pIx (eVar 9) (eC (.int 1)))) (aNil)))) [9]))))
def d_order : List MV → Sto → Re MV := runB 10 b_order
theorem order_ok {D : Sto} {a b f : Nat} {vf : List MV} {ss pp : List Str} {ff : List (Str × Str)} {P : MV → Sto → Prop} (ha : D[a]? = some (.lst (ss.map MV.str))) (hb : D[b]? = some (.lst (pp.map MV.str))) (hf : D[f]? = some (.lst vf)) (pf : PairsAt D vf ff) (g : Good ss pp ff)
    (k : ∀ L vs D', Fr none D D' → D.length ≤ L → D'[L]? = some (.lst vs) → PairsAt D' vs (ordF ss pp ff) → P (.ref L) D') : Ev (d_order [.ref a, .ref b, .ref f] D) P := by
  refine ev_run ?_
  show EvS (b_order [some (.ref a), some (.ref b), some (.ref f), none, none, none, none, none, none, none] D) _ _
  unfold b_order
  rw [evS_seq, evS_set]
  refine numbers_ok (.inl rfl) rfl (fun D Q => ev_v0) ha g.sn g.sz fun D1 f1 h1 => ?_
  show EvS (sSeq _ _ [some (.ref a), some (.ref b), some (.ref f), some (.ref D.length), none, none, none, none, none, none] D1) _ _
  rw [evS_seq, evS_set]
  refine numbers_ok (.inr rfl) rfl (fun D Q => ev_v1) (f1.at hb out_none) g.pn g.pz fun D2 f2 h2 => ?_
  show EvS (sSeq _ _ [some (.ref a), some (.ref b), some (.ref f), some (.ref D.length), some (.ref D1.length), none, none, none, none, none] D2) _ _
  have f12 := f1.trans f2
  have h1' := f2.at h1 out_none
  generalize D.length = sN at h1 h1'
  generalize D1.length = pN at h2
  rw [evS_seq, evS_set, ev_call, ev_cons]
  refine lc_map (S := none) (α := Str × Str) (β := Str × Str) (fun v p => PairAt D2 v p ∧ p ∈ ff) (fun D v p => IPair D v (ixF ss pp p)) some (fun _ _ _ _ h f _ => h.mono f) (fun _ _ _ _ _ _ e h => h.set e) ?_
  rw [ev_v2]
  have pf2 := pf.fr f12
  refine ⟨f, vf, ff, rfl, rdL_lst (f12.at hf out_none), out_none, ?_, by rw [Pd.len pf]; have := g.fz; omega, ok_none, ?_, ?_⟩
  · refine Pd.of_get (Pd.len pf2) fun j v p e1 e2 => ?_
    obtain ⟨p', e3, r⟩ := Pd.get pf2 e1
    rw [e2] at e3
    cases e3
    exact ⟨r, List.mem_of_getElem? e2⟩
  · rintro v p D3 ⟨hv, hp⟩ _ f3 _
    have hv3 : PairAt D3 v p := PairAt.fr (S := none) hv f3
    obtain ⟨m1, m2⟩ := g.fi p hp
    refine ⟨[some (.ref a), some (.ref b), some (.ref f), some (.ref sN), some (.ref pN), none, none, some (.str p.1), some (.str p.2), none], ?_, rfl, ?_⟩
    · obtain ⟨i, rfl, e⟩ := hv3
      unfold gT
      dsimp only
      have : rdT D3 i = some [.str p.1, .str p.2] := by unfold rdT; rw [e]
      rw [this]
      rfl
    unfold bYes
    rw [ev_ok]
    refine ⟨Fr.refl _ _, ok_none, rfl, fun _ => ?_⟩
    rw [ev_tup, ev_cons, ev_op, ev_v3, ev_var (i := 7) rfl, ev_num (f3.at h1' out_none) m1 g.sn, ev_cons, ev_op, ev_var (i := 4) rfl, ev_var (i := 8) rfl, ev_num (f3.at h2 out_none) m2 g.pn, ev_nil]
    exact ⟨sz_le (by simp), Fr.snoc, ok_none, p, rfl, D3.length, rfl, get_new⟩
  · intro ys D3 f3 _ hys hrel
    rw [all_some] at hrel
    rw [ev_nil]
    obtain ⟨zs, e1, hz⟩ := sorted_run hys hrel
    rw [e1, ev_ok]
    show EvS (sRet _ [some (.ref a), some (.ref b), some (.ref f), some (.ref sN), some (.ref pN), some (.ref D3.length), none, none, none, none] (D3 ++ [Ob.lst zs])) _ _
    have f4 : Fr none D3 (D3 ++ [Ob.lst zs]) := Fr.snoc
    have f04 := (f12.trans f3).trans f4
    have hz4 : Paired (fun v p => IPair (D3 ++ [Ob.lst zs]) v (ixF ss pp p) ∧ p ∈ ff) zs (ordF ss pp ff) := by
      refine Pd.of_get (Pd.len hz) fun j v p e1 e2 => ?_
      obtain ⟨p', e3, r⟩ := Pd.get hz e1
      rw [e2] at e3
      cases e3
      exact ⟨r.mono f4, ordF_perm.mem_iff.mp (List.mem_of_getElem? e2)⟩
    have hl : (D3 ++ [Ob.lst zs])[D3.length]? = some (.lst zs) := get_new
    generalize D3.length = rL at hl
    generalize (D3 ++ [Ob.lst zs]) = D4 at f4 f04 hz4 hl
    rw [evS_ret]
    refine lc_map (S := none) (α := Str × Str) (β := Str × Str) (fun v p => IPair D4 v (ixF ss pp p) ∧ p ∈ ff) PairAt some (fun _ _ _ _ h f _ => PairAt.fr (S := none) h f) (fun _ _ _ _ _ _ e h => PairAt.set e h) ?_
    rw [ev_var (i := 5) rfl]
    refine ⟨rL, zs, ordF ss pp ff, rfl, rdL_lst hl, out_none, hz4, by rw [Pd.len hz, (ordF_perm (ss := ss) (pp := pp) (ff := ff)).length_eq]; have := g.fz; omega, ok_none, ?_, ?_⟩
    · rintro v p D5 ⟨hv, hp⟩ _ f5 _
      have hv5 := hv.mono f5
      obtain ⟨m1, m2⟩ := g.fi p hp
      refine ⟨[some (.ref a), some (.ref b), some (.ref f), some (.ref sN), some (.ref pN), some (.ref rL), none, none, none, some v], rfl, rfl, ?_⟩
      unfold bYes
      rw [ev_ok]
      refine ⟨Fr.refl _ _, ok_none, rfl, fun _ => ?_⟩
      have fa := (f04.trans f5)
      have e1 : (ss.map MV.str)[ss.idxOf p.1]? = some (.str p.1) := by rw [List.getElem?_map, idx_get m1]; rfl
      have e2 : (pp.map MV.str)[pp.idxOf p.2]? = some (.str p.2) := by rw [List.getElem?_map, idx_get m2]; rfl
      rw [ev_tup, ev_cons, ev_op, ev_v0, ev_op, ev_var (i := 9) rfl, ev_c, ev_i0 hv5]
      rw [show (ixF ss pp p).1 = ((ss.idxOf p.1 : Nat) : Int) from rfl, ev_ixL (fa.at ha out_none) e1, ev_cons, ev_op, ev_v1, ev_op, ev_var (i := 9) rfl, ev_c, ev_i1 hv5]
      rw [show (ixF ss pp p).2 = ((pp.idxOf p.2 : Nat) : Int) from rfl, ev_ixL (fa.at hb out_none) e2, ev_nil]
      exact ⟨sz_le (by simp), Fr.snoc, ok_none, p, rfl, D5.length, rfl, get_new⟩
    · intro vs D5 f5 _ hvs hrel5
      rw [all_some] at hrel5
      exact k D4.length vs D5 (f04.trans f5) f04.le hvs hrel5
end Mp

set_option Elab.async false
set_option linter.all false
set_option maxRecDepth 10000
namespace Mp
open PySem L2

def byD : List Str → List Nat → List (Key × MV)
  | w :: ws, l :: ls => (Sum.inr w, .ref l) :: byD ws ls
  | _, _ => []
theorem byD_snoc : ∀ {ws : List Str} {ls : List Nat} {w : Str} {l : Nat}, ws.length = ls.length → byD (ws ++ [w]) (ls ++ [l]) = byD ws ls ++ [(Sum.inr w, .ref l)]
  | [], [], w, l, _ => rfl
  | x :: ws, y :: ls, w, l, h => by
    show _ :: byD (ws ++ [w]) (ls ++ [l]) = _
    rw [byD_snoc (by simpa using h)]
    rfl
  | [], _ :: _, _, _, h => by simp at h
  | _ :: _, [], _, _, h => by simp at h
theorem byD_keys : ∀ {ws : List Str} {ls : List Nat}, ws.length = ls.length → (byD ws ls).map (·.1) = keysOf ws
  | [], [], _ => rfl
  | x :: ws, y :: ls, h => by
    show _ :: (byD ws ls).map _ = _
    rw [byD_keys (by simpa using h)]
    rfl
  | [], _ :: _, h => by simp at h
  | _ :: _, [], h => by simp at h
theorem byD_len : ∀ {ws : List Str} {ls : List Nat}, ws.length = ls.length → (byD ws ls).length = ws.length
  | [], [], _ => rfl
  | x :: ws, y :: ls, h => by
    show (byD ws ls).length + 1 = _
    rw [byD_len (by simpa using h)]
    rfl
  | [], _ :: _, h => by simp at h
  | _ :: _, [], h => by simp at h
theorem byD_look : ∀ {ws : List Str} {ls : List Nat} {i : Nat} {w : Str} {l : Nat}, ws[i]? = some w → ls[i]? = some l → ws.Nodup → lookM (byD ws ls) (Sum.inr w) = some (.ref l)
  | x :: ws, y :: ls, 0, w, l, h1, h2, _ => by
    simp at h1 h2
    subst h1 h2
    unfold byD lookM
    rw [List.find?_cons_of_pos (by simp)]
    rfl
  | x :: ws, y :: ls, i + 1, w, l, h1, h2, hn => by
    obtain ⟨n1, n2⟩ := List.nodup_cons.mp hn
    have h1' : ws[i]? = some w := by simpa using h1
    have ih := byD_look h1' (by simpa using h2 : ls[i]? = some l) n2
    unfold byD
    unfold lookM at ih ⊢
    rw [List.find?_cons_of_neg]
    · exact ih
    · simp only [decide_eq_true_eq]
      intro e
      have e2 : x = w := Sum.inr.inj e
      exact n1 (e2 ▸ List.mem_of_getElem? h1')
  | [], _, _, _, _, h1, _, _ => by simp at h1
  | _ :: _, [], _, _, _, _, h2, _ => by simp at h2
section
variable {D : Sto} {P : MV → Sto → Prop}
theorem byDict_ok {ρ : Rho} {m : EM} {slot j : Nat} {ws : List Str} (hlen : slot < ρ.length) (hm : ∀ D Q, Ev (m ρ D) Q = Q (.ref j) D) (hj : D[j]? = some (.lst (ws.map MV.str))) (hn : ws.Nodup) (hz : ws.length ≤ 100)
    (k : ∀ ls D', Fr none D D' → D'[D.length]? = some (.dic (byD ws ls)) → ls.length = ws.length → ls.Nodup → (∀ l ∈ ls, D.length < l ∧ D'[l]? = some (.lst [])) → P (.ref D.length) D') :
    Ev (eDc (wSeq m) (gN slot) bYes (eVar slot) (eLst aNil) [slot] ρ D) P := by
  rw [ev_dc]
  refine ev_seqL (j := j) (xs := ws.map MV.str) ?_
  rw [hm]
  refine ⟨rfl, rdL_lst hj, ?_⟩
  dsimp only
  refine dc_ok (fun i acc D' => Fr none D D' ∧ ∃ ls : List Nat, acc = byD (ws.take i) ls ∧ ls.length = i ∧ ls.Nodup ∧ ∀ l ∈ ls, D.length < l ∧ l < D'.length ∧ D'[l]? = some (.lst [])) _ 0 [] _ get_new ⟨Fr.snoc, [], by simp [byD], rfl, List.nodup_nil, fun l hl => by cases hl⟩ ?_ ?_
  · rintro i acc D1 hi0 hi hL ⟨fr, ls, rfl, hl, nd, hls⟩
    have hi' : i < ws.length := by simpa using hi
    have ht : (ws.take i).length = ls.length := by rw [List.length_take]; omega
    have es : ((ρ.set slot none).set slot (some (MV.str ws[i])))[slot]? = some (some (.str ws[i])) := List.getElem?_set_self (by rw [List.length_set]; exact hlen)
    refine ⟨decide_eq_true (rdL_lst (fr.at hj out_none)), .str ws[i], D1, (ρ.set slot none).set slot (some (.str ws[i])), ?_, rfl, ?_, ?_⟩
    · dsimp only
      unfold seqItem
      simp [hi']
    · show ((ρ.set slot none).set slot (some (.str ws[i]))).set slot none = ρ.set slot none
      rw [List.set_set, List.set_set]
    have hDl : D.length < D1.length := (List.getElem?_eq_some_iff.mp hL).1
    unfold bYes
    rw [ev_ok]
    refine ⟨rfl, ?_⟩
    rw [ev_var es, ev_lst, ev_nil]
    refine ⟨sz_le (by simp), ?_⟩
    have f1 : Fr none D1 (D1 ++ [Ob.lst []]) := Fr.snoc
    refine ⟨f1.at hL out_none, sz_lt (by rw [byD_len ht, ht]; omega), _, rfl, ?_, (fr.trans f1).setNew ok_none (Nat.le_refl _), ls ++ [D1.length], ?_, by simp [hl], ?_, ?_⟩
    · rw [byD_keys ht, key_mem]
      exact not_take hn hi'
    · rw [take_snoc (by simp [hi'] : ws[i]? = some ws[i]), byD_snoc ht]
    · refine List.nodup_append.mpr ⟨nd, (by simp), fun x hx y hy e => ?_⟩
      rw [List.mem_singleton.mp hy] at e
      have := (hls x hx).2.1
      omega
    · intro l hl'
      rw [List.length_set, List.length_append, List.length_singleton]
      rcases List.mem_append.mp hl' with m | m
      · obtain ⟨h1, h2, h3⟩ := hls l m
        refine ⟨h1, by omega, ?_⟩
        rw [List.getElem?_set_ne (by omega)]
        exact f1.at h3 out_none
      · rw [List.mem_singleton.mp m]
        refine ⟨hDl, by omega, ?_⟩
        rw [List.getElem?_set_ne (by omega)]
        exact get_new
  · rintro acc D1 hL ⟨fr, ls, rfl, hl, nd, hls⟩
    have hl' : ls.length = ws.length := by simpa using hl
    refine ⟨decide_eq_true (rdL_lst (fr.at hj out_none)), k ls D1 fr ?_ hl' nd fun l m => ⟨(hls l m).1, (hls l m).2.2⟩⟩
    rw [hL, List.take_of_length_le (by simp)]
end
end Mp

set_option Elab.async false
set_option linter.all false
set_option maxRecDepth 10000
namespace Mp
open PySem L2

def rowS (oo : List (Str × Str)) (w : Str) : List MV := (oo.filter fun p => decide (p.1 = w)).map fun p => .str p.2
def rowP (oo : List (Str × Str)) (w : Str) : List MV := (oo.filter fun p => decide (p.2 = w)).map fun p => .str p.1
theorem rowS_snoc {oo : List (Str × Str)} {p : Str × Str} {w : Str} : rowS (oo ++ [p]) w = if p.1 = w then rowS oo w ++ [.str p.2] else rowS oo w := by
  unfold rowS
  by_cases h : p.1 = w
  · rw [if_pos h, List.filter_append, List.filter_cons_of_pos (by simp [h]), List.map_append]
    rfl
  · rw [if_neg h, List.filter_append, List.filter_cons_of_neg (by simp [h])]
    simp
theorem rowP_snoc {oo : List (Str × Str)} {p : Str × Str} {w : Str} : rowP (oo ++ [p]) w = if p.2 = w then rowP oo w ++ [.str p.1] else rowP oo w := by
  unfold rowP
  by_cases h : p.2 = w
  · rw [if_pos h, List.filter_append, List.filter_cons_of_pos (by simp [h]), List.map_append]
    rfl
  · rw [if_neg h, List.filter_append, List.filter_cons_of_neg (by simp [h])]
    simp
theorem rowS_len {oo : List (Str × Str)} {w : Str} : (rowS oo w).length ≤ oo.length := by
  unfold rowS
  rw [List.length_map]
  exact List.length_filter_le _ _
theorem rowP_len {oo : List (Str × Str)} {w : Str} : (rowP oo w).length ≤ oo.length := by
  unfold rowP
  rw [List.length_map]
  exact List.length_filter_le _ _
/-- for each word of ws its list, at the place that ls tells -/
def Rows (D : Sto) (ws : List Str) (ls : List Nat) (row : Str → List MV) : Prop := ∀ (k : Nat) (w : Str) (l : Nat), ws[k]? = some w → ls[k]? = some l → D[l]? = some (.lst (row w))
theorem nd_get {α : Type} {l : List α} {i j : Nat} {x : α} (hn : l.Nodup) (h1 : l[i]? = some x) (h2 : l[j]? = some x) : i = j := by
  obtain ⟨a, e1⟩ := List.getElem?_eq_some_iff.mp h1
  obtain ⟨b, e2⟩ := List.getElem?_eq_some_iff.mp h2
  rcases Nat.lt_trichotomy i j with h | h | h
  · exact absurd (e1.trans e2.symm) (List.pairwise_iff_getElem.mp hn i j a b h)
  · exact h
  · exact absurd (e2.trans e1.symm) (List.pairwise_iff_getElem.mp hn j i b a h)
theorem ev_app {D : Sto} {ρ : Rho} {mo a : EM} {j : Nat} {xs : List MV} {y : MV} {P : MV → Sto → Prop} (h1 : Ev (mo ρ D) fun v D1 => v = .ref j ∧ D1 = D) (h2 : Ev (a ρ D) fun v D1 => v = y ∧ D1 = D) (hj : D[j]? = some (.lst xs)) (hz : xs.length < sizeLine) (k : P .non (D.set j (.lst (xs ++ [y])))) : Ev (eBm mAppend mo (aCons a aNil) ρ D) P := by
  unfold eBm
  rw [ev_bind]
  refine h1.imp fun v D1 ⟨e1, e2⟩ => ?_
  subst e1 e2
  have ht : eBm.tyM D1 (.ref j) = true := by unfold eBm.tyM; simp [hj]
  rw [if_pos ht, ev_bind, ev_cons]
  refine h2.imp fun v D2 ⟨e1, e2⟩ => ?_
  subst e1 e2
  rw [ev_nil, ev_appendL hj hz]
  exact k
theorem fill_ok {D : Sto} {s0 s1 s2 s3 s4 : Option MV} {t bs bp : Nat} {vt : List MV} {ss pp : List Str} {oo : List (Str × Str)} {ls lp : List Nat} {N : Rho → Sto → Prop} {T : MV → Sto → Prop}
    (ht : D[t]? = some (.lst vt)) (pt : PairsAt D vt oo) (hS : D[bs]? = some (.dic (byD ss ls))) (hP : D[bp]? = some (.dic (byD pp lp))) (l1 : ls.length = ss.length) (l2 : lp.length = pp.length) (n1 : ls.Nodup) (n2 : lp.Nodup) (sn : ss.Nodup) (pn : pp.Nodup) (dj : ∀ x ∈ ls, x ∉ lp)
    (x1 : t ∉ ls ∧ t ∉ lp) (z1 : ∀ l ∈ ls, D[l]? = some (.lst [])) (z2 : ∀ l ∈ lp, D[l]? = some (.lst [])) (mem : ∀ p ∈ oo, p.1 ∈ ss ∧ p.2 ∈ pp) (hz : oo.length ≤ 10000)
    (k : ∀ x y D', D.length ≤ D'.length → (∀ i, i < D.length → i ∉ ls → i ∉ lp → D'[i]? = D[i]?) → Rows D' ss ls (rowS oo) → Rows D' pp lp (rowP oo) → N [s0, s1, s2, s3, s4, some (.ref t), x, some (.ref bs), y, some (.ref bp)] D') :
    EvS (sFor (wSeq (eVar 5)) (gT [gN 6, gN 8]) (sSeq (sDrop (eBm mAppend (eOp pIx (eVar 7) (eVar 6)) (aCons (eVar 8) (aNil)))) (sDrop (eBm mAppend (eOp pIx (eVar 9) (eVar 8)) (aCons (eVar 6) (aNil)))))
      [s0, s1, s2, s3, s4, some (.ref t), none, some (.ref bs), none, some (.ref bp)] D) N T := by
  rw [evS_for]
  refine ev_seqL (j := t) (xs := vt) ?_
  rw [ev_var (i := 5) rfl]
  refine ⟨rfl, rdL_lst ht, ?_⟩
  dsimp only
  have lt := Pd.len pt
  have notL : ∀ {i : Nat} {o : Ob}, D[i]? = some o → (∀ xs, o ≠ .lst xs) → i ∉ ls ∧ i ∉ lp := fun {i o} h hn => ⟨fun m => by
    have := z1 i m
    rw [h] at this
    exact hn [] (Option.some.inj this), fun m => by
    have := z2 i m
    rw [h] at this
    exact hn [] (Option.some.inj this)⟩
  refine for_ok (fun i ρ D' => (∃ x y, ρ = [s0, s1, s2, s3, s4, some (.ref t), x, some (.ref bs), y, some (.ref bp)]) ∧ D'.length = D.length ∧ (∀ j, j ∉ ls → j ∉ lp → D'[j]? = D[j]?) ∧ Rows D' ss ls (rowS (oo.take i)) ∧ Rows D' pp lp (rowP (oo.take i))) _ 0 _ _
    ⟨⟨none, none, rfl⟩, rfl, fun _ _ _ => rfl, fun k w l _ h => z1 l (List.mem_of_getElem? h), fun k w l _ h => z2 l (List.mem_of_getElem? h)⟩ ?_ ?_
  · rintro i ρ D1 hi0 hi ⟨⟨x, y, rfl⟩, hlen, same, r1, r2⟩
    have hi' : i < vt.length := by omega
    have ev : vt[i]? = some vt[i] := by simp [hi']
    obtain ⟨p, ep, rp⟩ := Pd.get pt ev
    have hp : p ∈ oo := List.mem_of_getElem? ep
    obtain ⟨m1, m2⟩ := mem p hp
    have t1 : D1[t]? = some (.lst vt) := (same t x1.1 x1.2).trans ht
    have rp1 : PairAt D1 vt[i] p := rp.mono fun j o hv hj => by
      obtain ⟨j', e', hd⟩ := rp
      rw [hv] at e'
      cases e'
      obtain ⟨a, b⟩ := notL hd (fun xs z => by cases z)
      exact (same j a b).trans hj
    refine ⟨decide_eq_true (rdL_lst t1), vt[i], D1, [s0, s1, s2, s3, s4, some (.ref t), some (.str p.1), some (.ref bs), some (.str p.2), some (.ref bp)], ?_, ?_, ?_⟩
    · dsimp only
      unfold seqItem
      rw [ev]
      rfl
    · obtain ⟨j, hj, hd⟩ := rp1
      unfold gT
      rw [hj]
      dsimp only
      have : rdT D1 j = some [.str p.1, .str p.2] := by unfold rdT; rw [hd]
      rw [this]
      rfl
    obtain ⟨a, ha, ea⟩ := List.mem_iff_getElem.mp m1
    obtain ⟨b, hb, eb⟩ := List.mem_iff_getElem.mp m2
    have ga : ss[a]? = some p.1 := by rw [List.getElem?_eq_getElem ha, ea]
    have gb : pp[b]? = some p.2 := by rw [List.getElem?_eq_getElem hb, eb]
    have la : ls[a]? = some ls[a] := by simp [l1, ha]
    have lb : lp[b]? = some lp[b] := by simp [l2, hb]
    have hS1 : D1[bs]? = some (.dic (byD ss ls)) := by
      obtain ⟨u, v⟩ := notL hS (fun xs z => by cases z)
      exact (same bs u v).trans hS
    have hP1 : D1[bp]? = some (.dic (byD pp lp)) := by
      obtain ⟨u, v⟩ := notL hP (fun xs z => by cases z)
      exact (same bp u v).trans hP
    have tk : oo.take (i + 1) = oo.take i ++ [p] := take_snoc ep
    have tl : (oo.take i).length ≤ 10000 := by rw [List.length_take]; omega
    generalize ls[a] = A at la
    generalize lp[b] = C at lb
    have hA : A ∈ ls := List.mem_of_getElem? la
    have hC : C ∈ lp := List.mem_of_getElem? lb
    have hAC : A ≠ C := fun z => dj A hA (z ▸ hC)
    have e1 := r1 a p.1 A ga la
    rw [evS_seq, evS_drop]
    refine ev_app (j := A) (xs := rowS (oo.take i) p.1) (y := .str p.2) ?_ ?_ e1 (sz_lt (Nat.lt_of_le_of_lt rowS_len (by omega))) ?_
    · rw [ev_op, ev_var (i := 7) rfl, ev_var (i := 6) rfl, ev_ixd hS1 (byD_look ga la sn)]
      exact ⟨rfl, rfl⟩
    · rw [ev_var (i := 8) rfl]
      exact ⟨rfl, rfl⟩
    have hP2 : (D1.set A (.lst (rowS (oo.take i) p.1 ++ [.str p.2])))[bp]? = some (.dic (byD pp lp)) := by
      rw [List.getElem?_set_ne (fun z => by rw [← z, e1] at hP1; cases hP1)]
      exact hP1
    have e2 : (D1.set A (.lst (rowS (oo.take i) p.1 ++ [.str p.2])))[C]? = some (.lst (rowP (oo.take i) p.2)) := by
      rw [List.getElem?_set_ne hAC]
      exact r2 b p.2 C gb lb
    rw [evS_drop]
    refine ev_app (j := C) (xs := rowP (oo.take i) p.2) (y := .str p.1) ?_ ?_ e2 (sz_lt (Nat.lt_of_le_of_lt rowP_len (by omega))) ?_
    · rw [ev_op, ev_var (i := 9) rfl, ev_var (i := 8) rfl, ev_ixd hP2 (byD_look gb lb pn)]
      exact ⟨rfl, rfl⟩
    · rw [ev_var (i := 6) rfl]
      exact ⟨rfl, rfl⟩
    refine ⟨⟨_, _, rfl⟩, by rw [List.length_set, List.length_set]; exact hlen, fun j u v => ?_, fun k' w l h1 h2 => ?_, fun k' w l h1 h2 => ?_⟩
    · have q1 : C ≠ j := fun z => by
        subst z
        exact v hC
      have q2 : A ≠ j := fun z => by
        subst z
        exact u hA
      rw [List.getElem?_set_ne q1, List.getElem?_set_ne q2]
      exact same j u v
    · have hl : l ∈ ls := List.mem_of_getElem? h2
      have q1 : C ≠ l := fun z => by
        subst z
        exact dj _ hl hC
      rw [List.getElem?_set_ne q1, tk, rowS_snoc]
      by_cases q : p.1 = w
      · have e : k' = a := nd_get sn h1 (q ▸ ga)
        subst e
        rw [la] at h2
        cases h2
        rw [if_pos q, List.getElem?_set_self (List.getElem?_eq_some_iff.mp e1).1, q]
      · rw [if_neg q]
        have : A ≠ l := fun z => by
          subst z
          have e : k' = a := nd_get n1 h2 la
          subst e
          rw [ga] at h1
          exact q (Option.some.inj h1)
        rw [List.getElem?_set_ne this]
        exact r1 k' w l h1 h2
    · have hl : l ∈ lp := List.mem_of_getElem? h2
      rw [tk, rowP_snoc]
      by_cases q : p.2 = w
      · have e : k' = b := nd_get pn h1 (q ▸ gb)
        subst e
        rw [lb] at h2
        cases h2
        rw [if_pos q, List.getElem?_set_self (List.getElem?_eq_some_iff.mp e2).1, q]
      · rw [if_neg q]
        have : C ≠ l := fun z => by
          subst z
          have e : k' = b := nd_get n2 h2 lb
          subst e
          rw [gb] at h1
          exact q (Option.some.inj h1)
        have q1 : A ≠ l := fun z => by
          subst z
          exact dj _ hA hl
        rw [List.getElem?_set_ne this, List.getElem?_set_ne q1]
        exact r2 k' w l h1 h2
  · rintro ρ D1 ⟨⟨x, y, rfl⟩, hlen, same, r1, r2⟩
    have e : 0 + vt.length = oo.length := by omega
    rw [e, List.take_of_length_le (Nat.le_refl _)] at r1 r2
    exact ⟨decide_eq_true (rdL_lst ((same t x1.1 x1.2).trans ht)), k x y D1 (by omega) (fun i _ a b => same i a b) r1 r2⟩
end Mp

set_option Elab.async false
set_option linter.all false
set_option maxRecDepth 10000
namespace Mp
open PySem L2

/-- a made table -/
structure TblAt (D : Sto) (i : Nat) (ss pp : List Str) (oo : List (Str × Str)) : Prop where
  ex : ∃ a b f bs bp vf ls lp, D[i]? = some (.ins "Table" [("_stems", .ref a), ("_places", .ref b), ("_fits", .ref f), ("_by_stem", .ref bs), ("_by_place", .ref bp)]) ∧ D[a]? = some (.tup (ss.map MV.str)) ∧ D[b]? = some (.tup (pp.map MV.str)) ∧ D[f]? = some (.tup vf) ∧ PairsAt D vf oo ∧
    D[bs]? = some (.dic (byD ss ls)) ∧ D[bp]? = some (.dic (byD pp lp)) ∧ ls.length = ss.length ∧ lp.length = pp.length ∧ Rows D ss ls (rowS oo) ∧ Rows D pp lp (rowP oo)
  good : Good ss pp oo
section
variable {D : Sto} {ρ : Rho} {N : Rho → Sto → Prop} {T : MV → Sto → Prop} {P : MV → Sto → Prop}
theorem evS_fld {C f : Str} {mo mv : EM} : EvS (sFldM C f mo mv ρ D) N T = Ev (mv ρ D) fun v D1 => Ev (mo ρ D1) fun x D2 => ∃ i fs, insAt D2 C x = some (i, fs) ∧ fs.length < 1000 ∧ N ρ (D2.set i (.ins C (putA f v fs))) := by
  unfold sFldM
  simp only [evS_lift]
  congr 1
  funext v D1
  congr 1
  funext x D2
  cases h : insAt D2 C x with
  | none => simp [EvS]
  | some p =>
    obtain ⟨i, fs⟩ := p
    refine propext ⟨fun q => ?_, fun ⟨i', fs', e, q1, q2⟩ => ?_⟩
    · dsimp only at q
      by_cases c : fs.length < 1000
      · rw [if_pos c, evS_nx] at q
        exact ⟨i, fs, rfl, c, q⟩
      · rw [if_neg c] at q
        unfold EvS at q
        exact q.elim
    · cases e
      dsimp only
      rw [if_pos q1, evS_nx]
      exact q2
theorem ins_at' {i : Nat} {C : Str} {fs : List (Str × MV)} (h : D[i]? = some (.ins C fs)) : insAt D C (.ref i) = some (i, fs) := by
  unfold insAt
  dsimp only
  rw [h]
  simp
theorem ev_tupleL {j : Nat} {xs : List MV} (h : D[j]? = some (.lst xs)) : Ev (bTuple [.ref j] D) P = P (.ref D.length) (D ++ [.tup xs]) := by
  unfold bTuple new
  dsimp only
  rw [rdL_lst h]
  dsimp only
  rw [ev_ok]
/-- all but the instance at i stays -/
structure Kp (i : Nat) (D D' : Sto) : Prop where
  le : D.length ≤ D'.length
  get : ∀ j, j < D.length → j ≠ i → D'[j]? = D[j]?
theorem Kp.refl {i : Nat} : Kp i D D := ⟨Nat.le_refl _, fun _ _ _ => rfl⟩
theorem Kp.at {i j : Nat} {D' : Sto} {C : Str} {fs : List (Str × MV)} {o : Ob} (h : Kp i D D') (hi : D[i]? = some (.ins C fs)) (e : D[j]? = some o) (ho : ∀ C fs, o ≠ .ins C fs) : D'[j]? = some o := by
  have : j ≠ i := fun z => by
    subst z
    rw [hi] at e
    exact ho _ _ (Option.some.inj e).symm
  rw [h.get j (List.getElem?_eq_some_iff.mp e).1 this]
  exact e
/-- self.f = v, of an instance that is being made -/
theorem fld_step {i : Nat} {D' : Sto} {C f : Str} {fs : List (Str × MV)} {mv : EM} {v : MV} (h0 : ρ[0]? = some (some (.ref i))) (hi : D'[i]? = some (.ins C fs)) (hz : fs.length < 1000) (kp : Kp i D D')
    (hv : Ev (mv ρ D') fun w D2 => w = v ∧ D2 = D') (k : ∀ D2, Kp i D D2 → Kp i D' D2 → D2[i]? = some (.ins C (putA f v fs)) → N ρ D2) : EvS (sFldM C f (eVar 0) mv ρ D') N T := by
  rw [evS_fld]
  refine hv.imp fun w D2 ⟨e1, e2⟩ => ?_
  subst e1 e2
  rw [ev_var h0]
  refine ⟨i, fs, ins_at' hi, hz, ?_⟩
  have k1 : Kp i D2 (D2.set i (.ins C (putA f w fs))) := ⟨by rw [List.length_set]; exact Nat.le_refl _, fun j _ hj => List.getElem?_set_ne (Ne.symm hj)⟩
  exact k _ ⟨Nat.le_trans kp.le k1.le, fun j a b => (k1.get j (Nat.lt_of_lt_of_le a kp.le) b).trans (kp.get j a b)⟩ k1 (List.getElem?_set_self (List.getElem?_eq_some_iff.mp hi).1)
theorem fld_tup {i j : Nat} {D' : Sto} {C f : Str} {fs : List (Str × MV)} {slot : Nat} {xs : List MV} (h0 : ρ[0]? = some (some (.ref i))) (hs : ρ[slot]? = some (some (.ref j))) (hj : D'[j]? = some (.lst xs)) (hi : D'[i]? = some (.ins C fs)) (hz : fs.length < 1000) (kp : Kp i D D')
    (k : ∀ L D2, Kp i D D2 → Kp i D' D2 → D2[i]? = some (.ins C (putA f (.ref L) fs)) → D2[L]? = some (.tup xs) → N ρ D2) : EvS (sFldM C f (eVar 0) (eCall bTuple (aCons (eVar slot) (aNil))) ρ D') N T := by
  rw [evS_fld, ev_call, ev_cons, ev_var hs, ev_nil, ev_tupleL hj, ev_var h0]
  have hi2 : (D' ++ [Ob.tup xs])[i]? = some (.ins C fs) := get_old hi
  refine ⟨i, fs, ins_at' hi2, hz, ?_⟩
  have hlt := (List.getElem?_eq_some_iff.mp hi).1
  have k1 : Kp i D' ((D' ++ [Ob.tup xs]).set i (.ins C (putA f (.ref D'.length) fs))) := ⟨by rw [List.length_set]; simp, fun j a hj => by rw [List.getElem?_set_ne (Ne.symm hj)]; exact List.getElem?_append_left a⟩
  refine k D'.length _ ⟨Nat.le_trans kp.le k1.le, fun j a b => (k1.get j (Nat.lt_of_lt_of_le a kp.le) b).trans (kp.get j a b)⟩ k1 (List.getElem?_set_self (List.getElem?_eq_some_iff.mp hi2).1) ?_
  rw [List.getElem?_set_ne (by omega)]
  exact get_new
theorem keepI {i j : Nat} {C : Str} {fs : List (Str × MV)} {o u : Ob} (hi : D[i]? = some (.ins C fs)) (h : D[j]? = some o) (ho : ∀ C fs, o ≠ .ins C fs) : (D.set i u)[j]? = some o := by
  have : i ≠ j := fun z => by
    subst z
    rw [hi] at h
    exact ho _ _ (Option.some.inj h).symm
  rw [List.getElem?_set_ne this]
  exact h
end
def b_init : SM :=
  sSeq (sSet 4 (eCall d_wrongTable (aCons (eVar 1) (aCons (eVar 2) (aCons (eVar 3) (aNil))))))
  (sSeq (sIf (bTest (eUn pNotN (eVar 4))) (sNever) (sNext))
  (sSeq (sSet 5 (eCall d_order (aCons (eVar 1) (aCons (eVar 2) (aCons (eVar 3) (aNil))))))
  (sSeq (sSet 7 (eDc (wSeq (eVar 1)) (gN 6) (bYes) (eVar 6) (eLst (aNil)) [6]))
  (sSeq (sSet 9 (eDc (wSeq (eVar 2)) (gN 8) (bYes) (eVar 8) (eLst (aNil)) [8]))
  (sSeq (sFor (wSeq (eVar 5)) (gT [gN 6, gN 8]) (sSeq (sDrop (eBm mAppend (eOp pIx (eVar 7) (eVar 6)) (aCons (eVar 8) (aNil))))
  (sDrop (eBm mAppend (eOp pIx (eVar 9) (eVar 8)) (aCons (eVar 6) (aNil))))))
  (sSeq (sFldM "Table" "_stems" (eVar 0) (eCall bTuple (aCons (eVar 1) (aNil))))
  (sSeq (sFldM "Table" "_places" (eVar 0) (eCall bTuple (aCons (eVar 2) (aNil))))
  (sSeq (sFldM "Table" "_fits" (eVar 0) (eCall bTuple (aCons (eVar 5) (aNil))))
  (sSeq (sFldM "Table" "_by_stem" (eVar 0) (eVar 7))
  (sFldM "Table" "_by_place" (eVar 0) (eVar 9)))))))))))
def d_init : List MV → Sto → Re MV := runB 10 b_init
theorem init_ok {D : Sto} {i a b f : Nat} {vf : List MV} {ss pp : List Str} {ff : List (Str × Str)} {P : MV → Sto → Prop} (hi : D[i]? = some (.ins "Table" [])) (ha : D[a]? = some (.lst (ss.map MV.str))) (hb : D[b]? = some (.lst (pp.map MV.str))) (hf : D[f]? = some (.lst vf)) (pf : PairsAt D vf ff) (g : Good ss pp ff)
    (k : ∀ D', D.length ≤ D'.length → (∀ j, j < D.length → j ≠ i → D'[j]? = D[j]?) → TblAt D' i ss pp (ordF ss pp ff) → P .non D') : Ev (d_init [.ref i, .ref a, .ref b, .ref f] D) P := by
  refine ev_run ?_
  show EvS (b_init [some (.ref i), some (.ref a), some (.ref b), some (.ref f), none, none, none, none, none, none] D) _ _
  unfold b_init
  rw [evS_seq, evS_set, ev_call, ev_cons, ev_v1, ev_cons, ev_v2, ev_cons, ev_v3, ev_nil]
  refine wrongTable_ok ha hb hf pf g fun D1 f1 => ?_
  show EvS (sSeq _ _ [some (.ref i), some (.ref a), some (.ref b), some (.ref f), some .non, none, none, none, none, none] D1) _ _
  rw [evS_seq, evS_if, ev_test, ev_un, ev_var (i := 4) rfl, ev_notN, ev_bl]
  show EvS (sNext _ D1) _ _
  rw [evS_next, evS_seq, evS_set, ev_call, ev_cons, ev_v1, ev_cons, ev_v2, ev_cons, ev_v3, ev_nil]
  refine order_ok (f1.at ha out_none) (f1.at hb out_none) (f1.at hf out_none) (pf.fr f1) g fun t vt D2 f2 gt2 ht pt => ?_
  show EvS (sSeq _ _ [some (.ref i), some (.ref a), some (.ref b), some (.ref f), some .non, some (.ref t), none, none, none, none] D2) _ _
  have f12 := f1.trans f2
  rw [evS_seq, evS_set]
  refine byDict_ok (ws := ss) (by simp) (fun D Q => ev_v1) (f12.at ha out_none) g.sn g.sz fun ls D3 f3 hS l1 n1 z1 => ?_
  show EvS (sSeq _ _ [some (.ref i), some (.ref a), some (.ref b), some (.ref f), some .non, some (.ref t), none, some (.ref D2.length), none, none] D3) _ _
  have f13 := f12.trans f3
  rw [evS_seq, evS_set]
  refine byDict_ok (ws := pp) (by simp) (fun D Q => ev_v2) (f13.at hb out_none) g.pn g.pz fun lp D4 f4 hP l2 n2 z2 => ?_
  show EvS (sSeq _ _ [some (.ref i), some (.ref a), some (.ref b), some (.ref f), some .non, some (.ref t), none, some (.ref D2.length), none, some (.ref D3.length)] D4) _ _
  have f14 := f13.trans f4
  have tlt : t < D2.length := (List.getElem?_eq_some_iff.mp ht).1
  have og : Good ss pp (ordF ss pp ff) := g.perm ordF_perm
  have h3 : D2.length ≤ D3.length := f3.le
  have lsr : ∀ l ∈ ls, D2.length < l ∧ l < D3.length := fun l m => ⟨(z1 l m).1, (List.getElem?_eq_some_iff.mp (z1 l m).2).1⟩
  have lpr : ∀ l ∈ lp, D3.length < l := fun l m => (z2 l m).1
  have D2D : D.length ≤ D2.length := f12.le
  rw [evS_seq]
  refine fill_ok (f3.trans f4 |>.at ht out_none) ((pt.fr f3).fr f4) (f4.at hS out_none) hP l1 l2 n1 n2 g.sn g.pn (fun x hx hy => by have := lsr x hx; have := lpr x hy; omega) ⟨fun m => by have := lsr t m; omega, fun m => by have := lpr t m; omega⟩ (fun l m => f4.at (z1 l m).2 out_none) (fun l m => (z2 l m).2) og.fi og.fz fun x y D5 le5 same5 r1 r2 => ?_
  have old : ∀ j o, j ≤ D3.length → j ∉ ls → D4[j]? = some o → D5[j]? = some o := fun j o h1 h2 h => (same5 j (List.getElem?_eq_some_iff.mp h).1 h2 (fun m => by have := lpr j m; omega)).trans h
  have lo : ∀ j, j ≤ D2.length → j ∉ ls := fun j h m => by have := lsr j m; omega
  have lowD : ∀ j o, D[j]? = some o → D5[j]? = some o := fun j o h => by
    have hj := (List.getElem?_eq_some_iff.mp h).1
    exact old j o (by omega) (lo j (by omega)) (f14.at h out_none)
  have i5 := lowD i _ hi
  have a5 := lowD a _ ha
  have b5 := lowD b _ hb
  have t5 : D5[t]? = some (.lst vt) := old t _ (by omega) (lo t (by omega)) ((f3.trans f4).at ht out_none)
  have S5 : D5[D2.length]? = some (.dic (byD ss ls)) := old _ _ h3 (lo _ (Nat.le_refl _)) (f4.at hS out_none)
  have P5 : D5[D3.length]? = some (.dic (byD pp lp)) := old _ _ (Nat.le_refl _) (fun m => by have := lsr _ m; omega) hP
  have p5 : PairsAt D5 vt (ordF ss pp ff) := Pd.mono pt fun v p r => r.mono fun j o hv hj => by
    have hj' := (List.getElem?_eq_some_iff.mp hj).1
    exact old j o (by omega) (lo j (by omega)) ((f3.trans f4).at hj out_none)
  have keep5 : ∀ j, j < D.length → D5[j]? = D[j]? := fun j hj => by
    obtain ⟨o, ho⟩ : ∃ o, D[j]? = some o := ⟨D[j], by simp [hj]⟩
    rw [ho]
    exact lowD j o ho
  have le05 : D.length ≤ D5.length := Nat.le_trans f14.le le5
  generalize D2.length = bs at S5
  generalize D3.length = bp at P5
  -- the fields
  rw [evS_seq]
  refine fld_tup (D := D5) rfl rfl a5 i5 (by simp) Kp.refl fun A D6 k6 _ i6 A6 => ?_
  have b6 := k6.at i5 b5 (fun _ _ z => by cases z)
  have t6 := k6.at i5 t5 (fun _ _ z => by cases z)
  rw [evS_seq]
  refine fld_tup (D := D5) rfl rfl b6 i6 (by show 1 < 1000; omega) k6 fun B D7 k7 k67 i7 B7 => ?_
  have A7 := k67.at i6 A6 (fun _ _ z => by cases z)
  have t7 := k7.at i5 t5 (fun _ _ z => by cases z)
  rw [evS_seq]
  refine fld_tup (D := D5) rfl (slot := 5) rfl t7 i7 (by show 2 < 1000; omega) k7 fun F D8 k8 k78 i8 F8 => ?_
  have A8 := k78.at i7 A7 (fun _ _ z => by cases z)
  have B8 := k78.at i7 B7 (fun _ _ z => by cases z)
  rw [evS_seq]
  refine fld_step (D := D5) rfl i8 (by show 3 < 1000; omega) k8 (v := .ref bs) (by rw [ev_var (i := 7) rfl]; exact ⟨rfl, rfl⟩) fun D9 k9 k89 i9 => ?_
  have A9 := k89.at i8 A8 (fun _ _ z => by cases z)
  have B9 := k89.at i8 B8 (fun _ _ z => by cases z)
  have F9 := k89.at i8 F8 (fun _ _ z => by cases z)
  refine fld_step (D := D5) rfl i9 (by show 4 < 1000; omega) k9 (v := .ref bp) (by rw [ev_var (i := 9) rfl]; exact ⟨rfl, rfl⟩) fun E kE k9E iE => ?_
  have AE := k9E.at i9 A9 (fun _ _ z => by cases z)
  have BE := k9E.at i9 B9 (fun _ _ z => by cases z)
  have FE := k9E.at i9 F9 (fun _ _ z => by cases z)
  refine k E (Nat.le_trans le05 kE.le) (fun j hj hne => (kE.get j (by omega) hne).trans (keep5 j hj)) ⟨⟨A, B, F, bs, bp, vt, ls, lp, iE, AE, BE, FE, ?_, kE.at i5 S5 (fun _ _ z => by cases z), kE.at i5 P5 (fun _ _ z => by cases z), l1, l2, ?_, ?_⟩, og⟩
  · exact Pd.mono p5 fun v p r => by
      obtain ⟨j, hv, hj⟩ := r
      exact ⟨j, hv, kE.at i5 hj (fun _ _ z => by cases z)⟩
  · exact fun k w l h1 h2 => kE.at i5 (r1 k w l h1 h2) (fun _ _ z => by cases z)
  · exact fun k w l h1 h2 => kE.at i5 (r2 k w l h1 h2) (fun _ _ z => by cases z)
end Mp

set_option Elab.async false
set_option linter.all false
set_option maxRecDepth 10000
namespace Mp
open PySem L2

section
variable {D D' : Sto} {ρ : Rho} {P : MV → Sto → Prop} {i : Nat} {ss pp : List Str} {oo : List (Str × Str)}
theorem TblAt.fr (h : TblAt D i ss pp oo) (f : Fr none D D') : TblAt D' i ss pp oo := by
  obtain ⟨⟨a, b, e, bs, bp, vf, ls, lp, h1, h2, h3, h4, h5, h6, h7, h8, h9, h10, h11⟩, g⟩ := h
  exact ⟨⟨a, b, e, bs, bp, vf, ls, lp, f.at h1 out_none, f.at h2 out_none, f.at h3 out_none, f.at h4 out_none, h5.fr f, f.at h6 out_none, f.at h7 out_none, h8, h9, fun k w l x y => f.at (h10 k w l x y) out_none, fun k w l x y => f.at (h11 k w l x y) out_none⟩, g⟩
theorem ev_fld {C f : Str} {mo : EM} : Ev (eFld C f mo ρ D) P = Ev (mo ρ D) fun x D1 => ∃ v, ((insAt D1 C x).bind fun p => p.2.lookup f) = some v ∧ P v D1 := by
  unfold eFld
  rw [ev_bind]
  simp only [ev_ok?]
theorem ev_listT {j : Nat} {xs : List MV} (h : D[j]? = some (.tup xs)) : Ev (bList [.ref j] D) P = P (.ref D.length) (D ++ [.lst xs]) := by
  unfold bList new
  dsimp only
  have h1 : rdL D j = none := by unfold rdL; rw [h]
  have h2 : rdT D j = some xs := by unfold rdT; rw [h]
  rw [h1]
  dsimp only
  rw [h2]
  dsimp only
  rw [ev_ok]
theorem ev_listL {j : Nat} {xs : List MV} (h : D[j]? = some (.lst xs)) : Ev (bList [.ref j] D) P = P (.ref D.length) (D ++ [.lst xs]) := by
  unfold bList new
  dsimp only
  rw [rdL_lst h]
  dsimp only
  rw [ev_ok]
theorem ev_meth0 {C nm : Str} {m : List MV → Sto → Re MV} {mo : EM} {fs : List (Str × MV)} (hm : Ev (mo ρ D) fun v D1 => v = .ref i ∧ D1 = D) (hi : D[i]? = some (.ins C fs)) (hn : fs.lookup nm = none) (h : Ev (m [.ref i] D) P) : Ev (eMeth C nm m mo aNil ρ D) P := by
  unfold eMeth
  rw [ev_bind]
  refine hm.imp fun v D1 ⟨e1, e2⟩ => ?_
  subst e1 e2
  rw [ins_at' hi]
  dsimp only
  rw [if_pos hn, ev_bind, ev_nil]
  exact h
end
def b_stems : SM := sRet (eCall bList (aCons (eFld "Table" "_stems" (eVar 0)) (aNil)))
def d_stems : List MV → Sto → Re MV := runB 1 b_stems
def b_places : SM := sRet (eCall bList (aCons (eFld "Table" "_places" (eVar 0)) (aNil)))
def d_places : List MV → Sto → Re MV := runB 1 b_places
def b_fits : SM := sRet (eCall bList (aCons (eFld "Table" "_fits" (eVar 0)) (aNil)))
def d_fits : List MV → Sto → Re MV := runB 1 b_fits
def b_known : SM := sIf (bTest (eOp pNotIn (eVar 0) (eVar 1))) (sNever) (sNext)
def d_known : List MV → Sto → Re MV := runB 2 b_known
def b_isFit : SM :=
  sSeq (sDrop (eCall d_known (aCons (eVar 1) (aCons (eFld "Table" "_stems" (eVar 0)) (aNil)))))
  (sSeq (sDrop (eCall d_known (aCons (eVar 2) (aCons (eFld "Table" "_places" (eVar 0)) (aNil)))))
  (sRet (eOp pIn (eVar 2) (eOp pIx (eFld "Table" "_by_stem" (eVar 0)) (eVar 1)))))
def d_isFit : List MV → Sto → Re MV := runB 3 b_isFit
def b_fitsO : SM :=
  sSeq (sDrop (eCall d_known (aCons (eVar 1) (aCons (eFld "Table" "_stems" (eVar 0)) (aNil)))))
  (sRet (eCall bList (aCons (eOp pIx (eFld "Table" "_by_stem" (eVar 0)) (eVar 1)) (aNil))))
def d_fitsO : List MV → Sto → Re MV := runB 2 b_fitsO
def b_fitsA : SM :=
  sSeq (sDrop (eCall d_known (aCons (eVar 1) (aCons (eFld "Table" "_places" (eVar 0)) (aNil)))))
  (sRet (eCall bList (aCons (eOp pIx (eFld "Table" "_by_place" (eVar 0)) (eVar 1)) (aNil))))
def d_fitsA : List MV → Sto → Re MV := runB 2 b_fitsA
section
variable {D : Sto} {P : MV → Sto → Prop} {i : Nat} {ss pp : List Str} {oo : List (Str × Str)}
theorem stems_ok (h : TblAt D i ss pp oo) (k : ∀ D', Fr none D D' → D'[D.length]? = some (.lst (ss.map MV.str)) → P (.ref D.length) D') : Ev (d_stems [.ref i] D) P := by
  obtain ⟨⟨a, b, e, bs, bp, vf, ls, lp, h1, h2, _⟩, g⟩ := h
  refine ev_run ?_
  show EvS (b_stems [some (.ref i)] D) _ _
  unfold b_stems
  rw [evS_ret, ev_call, ev_cons, ev_fld, ev_v0]
  refine ⟨.ref a, by rw [ins_at' h1]; rfl, ?_⟩
  rw [ev_nil, ev_listT h2]
  exact k _ Fr.snoc get_new
theorem places_ok (h : TblAt D i ss pp oo) (k : ∀ D', Fr none D D' → D'[D.length]? = some (.lst (pp.map MV.str)) → P (.ref D.length) D') : Ev (d_places [.ref i] D) P := by
  obtain ⟨⟨a, b, e, bs, bp, vf, ls, lp, h1, h2, h3, _⟩, g⟩ := h
  refine ev_run ?_
  show EvS (b_places [some (.ref i)] D) _ _
  unfold b_places
  rw [evS_ret, ev_call, ev_cons, ev_fld, ev_v0]
  refine ⟨.ref b, by rw [ins_at' h1]; rfl, ?_⟩
  rw [ev_nil, ev_listT h3]
  exact k _ Fr.snoc get_new
theorem fits_ok (h : TblAt D i ss pp oo) (k : ∀ vs D', Fr none D D' → D'[D.length]? = some (.lst vs) → PairsAt D' vs oo → P (.ref D.length) D') : Ev (d_fits [.ref i] D) P := by
  obtain ⟨⟨a, b, e, bs, bp, vf, ls, lp, h1, h2, h3, h4, h5, _⟩, g⟩ := h
  refine ev_run ?_
  show EvS (b_fits [some (.ref i)] D) _ _
  unfold b_fits
  rw [evS_ret, ev_call, ev_cons, ev_fld, ev_v0]
  refine ⟨.ref e, by rw [ins_at' h1]; rfl, ?_⟩
  rw [ev_nil, ev_listT h4]
  exact k vf _ Fr.snoc get_new (h5.fr Fr.snoc)
theorem flat_strs : ∀ ws : List Str, (ws.map MV.str).all flatM = true
  | [] => rfl
  | _ :: r => by
    rw [List.map_cons, List.all_cons, flat_strs r]
    rfl
theorem any_strs {w : Str} : ∀ ws : List Str, ((ws.map MV.str).any fun y => eqM y (.str w)) = decide (w ∈ ws)
  | [] => by simp
  | x :: r => by
    rw [List.map_cons, List.any_cons, any_strs r]
    by_cases q : x = w
    · subst q
      simp [eqM]
    · have q' : ¬ w = x := fun e => q e.symm
      have : eqM (.str x) (.str w) = false := by
        show (x == w) = false
        simp [q]
      rw [this]
      simp [q']
theorem in_tup {w : Str} {j : Nat} {ws : List Str} (h : D[j]? = some (.tup (ws.map MV.str))) : inB (.str w) (.ref j) D = some (decide (w ∈ ws)) := by
  unfold inB
  dsimp only
  rw [h]
  dsimp only
  rw [flat_strs, any_strs]
  rfl
theorem known_ok {w : Str} {j : Nat} {ws : List Str} (h : D[j]? = some (.tup (ws.map MV.str))) (hw : w ∈ ws) (k : P .non D) : Ev (d_known [.str w, .ref j] D) P := by
  refine ev_run ?_
  show EvS (b_known [some (.str w), some (.ref j)] D) _ _
  unfold b_known
  rw [evS_if, ev_test, ev_op, ev_v0, ev_v1, ev_notin (in_tup h), decide_eq_true hw, ev_bl]
  show EvS (sNext _ D) _ _
  rw [evS_next]
  exact k
theorem known_l {w : Str} {j : Nat} {ws : List Str} (h : D[j]? = some (.lst (ws.map MV.str))) (wd : ∀ w ∈ ws, Wd w) (hw : w ∈ ws) (k : P .non D) : Ev (d_known [.str w, .ref j] D) P := by
  refine ev_run ?_
  show EvS (b_known [some (.str w), some (.ref j)] D) _ _
  unfold b_known
  rw [evS_if, ev_test, ev_op, ev_v0, ev_v1, ev_notin (in_words (wd w hw) h wd), decide_eq_true hw, ev_bl]
  show EvS (sNext _ D) _ _
  rw [evS_next]
  exact k
theorem row_words {oo : List (Str × Str)} {w : Str} : rowS oo w = ((oo.filter fun p => decide (p.1 = w)).map (·.2)).map MV.str := by
  unfold rowS
  rw [List.map_map]
  rfl
theorem rowP_words {oo : List (Str × Str)} {w : Str} : rowP oo w = ((oo.filter fun p => decide (p.2 = w)).map (·.1)).map MV.str := by
  unfold rowP
  rw [List.map_map]
  rfl
theorem fitsO_ok {w : Str} (h : TblAt D i ss pp oo) (hw : w ∈ ss) (k : ∀ D', Fr none D D' → D'[D.length]? = some (.lst (rowS oo w)) → P (.ref D.length) D') : Ev (d_fitsO [.ref i, .str w] D) P := by
  obtain ⟨⟨a, b, e, bs, bp, vf, ls, lp, h1, h2, h3, h4, h5, h6, h7, h8, h9, h10, h11⟩, g⟩ := h
  obtain ⟨n, hn, en⟩ := List.mem_iff_getElem.mp hw
  have gw : ss[n]? = some w := by rw [List.getElem?_eq_getElem hn, en]
  have gl : ls[n]? = some ls[n] := by simp [h8, hn]
  refine ev_run ?_
  show EvS (b_fitsO [some (.ref i), some (.str w)] D) _ _
  unfold b_fitsO
  rw [evS_seq, evS_drop, ev_call, ev_cons, ev_v1, ev_cons, ev_fld, ev_v0]
  refine ⟨.ref a, by rw [ins_at' h1]; rfl, ?_⟩
  rw [ev_nil]
  refine known_ok h2 hw ?_
  rw [evS_ret, ev_call, ev_cons, ev_op, ev_fld, ev_v0]
  refine ⟨.ref bs, by rw [ins_at' h1]; rfl, ?_⟩
  rw [ev_v1, ev_ixd h6 (byD_look gw gl g.sn), ev_nil, ev_listL (h10 n w _ gw gl)]
  exact k _ Fr.snoc get_new
theorem fitsA_ok {w : Str} (h : TblAt D i ss pp oo) (hw : w ∈ pp) (k : ∀ D', Fr none D D' → D'[D.length]? = some (.lst (rowP oo w)) → P (.ref D.length) D') : Ev (d_fitsA [.ref i, .str w] D) P := by
  obtain ⟨⟨a, b, e, bs, bp, vf, ls, lp, h1, h2, h3, h4, h5, h6, h7, h8, h9, h10, h11⟩, g⟩ := h
  obtain ⟨n, hn, en⟩ := List.mem_iff_getElem.mp hw
  have gw : pp[n]? = some w := by rw [List.getElem?_eq_getElem hn, en]
  have gl : lp[n]? = some lp[n] := by simp [h9, hn]
  refine ev_run ?_
  show EvS (b_fitsA [some (.ref i), some (.str w)] D) _ _
  unfold b_fitsA
  rw [evS_seq, evS_drop, ev_call, ev_cons, ev_v1, ev_cons, ev_fld, ev_v0]
  refine ⟨.ref b, by rw [ins_at' h1]; rfl, ?_⟩
  rw [ev_nil]
  refine known_ok h3 hw ?_
  rw [evS_ret, ev_call, ev_cons, ev_op, ev_fld, ev_v0]
  refine ⟨.ref bp, by rw [ins_at' h1]; rfl, ?_⟩
  rw [ev_v1, ev_ixd h7 (byD_look gw gl g.pn), ev_nil, ev_listL (h11 n w _ gw gl)]
  exact k _ Fr.snoc get_new
theorem row_mem {oo : List (Str × Str)} {w v : Str} : v ∈ ((oo.filter fun p => decide (p.1 = w)).map (·.2)) ↔ (w, v) ∈ oo := by
  constructor
  · intro h
    obtain ⟨p, hp, e⟩ := List.mem_map.mp h
    obtain ⟨h1, h2⟩ := List.mem_filter.mp hp
    have : p.1 = w := of_decide_eq_true h2
    have : p = (w, v) := Prod.ext this e
    exact this ▸ h1
  · exact fun h => List.mem_map.mpr ⟨(w, v), List.mem_filter.mpr ⟨h, by simp⟩, rfl⟩
theorem isFit_ok {w v : Str} (h : TblAt D i ss pp oo) (hw : w ∈ ss) (hv : v ∈ pp) (k : P (.bl (decide ((w, v) ∈ oo))) D) : Ev (d_isFit [.ref i, .str w, .str v] D) P := by
  obtain ⟨⟨a, b, e, bs, bp, vf, ls, lp, h1, h2, h3, h4, h5, h6, h7, h8, h9, h10, h11⟩, g⟩ := h
  obtain ⟨n, hn, en⟩ := List.mem_iff_getElem.mp hw
  have gw : ss[n]? = some w := by rw [List.getElem?_eq_getElem hn, en]
  have gl : ls[n]? = some ls[n] := by simp [h8, hn]
  refine ev_run ?_
  show EvS (b_isFit [some (.ref i), some (.str w), some (.str v)] D) _ _
  unfold b_isFit
  rw [evS_seq, evS_drop, ev_call, ev_cons, ev_v1, ev_cons, ev_fld, ev_v0]
  refine ⟨.ref a, by rw [ins_at' h1]; rfl, ?_⟩
  rw [ev_nil]
  refine known_ok h2 hw ?_
  rw [evS_seq, evS_drop, ev_call, ev_cons, ev_v2, ev_cons, ev_fld, ev_v0]
  refine ⟨.ref b, by rw [ins_at' h1]; rfl, ?_⟩
  rw [ev_nil]
  refine known_ok h3 hv ?_
  rw [evS_ret, ev_op, ev_v2, ev_op, ev_fld, ev_v0]
  refine ⟨.ref bs, by rw [ins_at' h1]; rfl, ?_⟩
  have hr := h10 n w _ gw gl
  rw [row_words] at hr
  rw [ev_v1, ev_ixd h6 (byD_look gw gl g.sn), ev_in (in_words (isW_wd (g.pw v hv)) hr fun x hx => isW_wd (g.pw x (g.fi (w, x) (row_mem.mp hx)).2))]
  have : decide (v ∈ ((oo.filter fun p => decide (p.1 = w)).map (·.2))) = decide ((w, v) ∈ oo) := decide_eq_decide.mpr row_mem
  rw [this]
  exact k
end
end Mp

set_option Elab.async false
set_option linter.all false
set_option maxRecDepth 10000
namespace Mp
open PySem L2

def fitRow (pp : List Str) (ff : List (Str × Str)) (w : Str) : List (Str × Str) := (pp.filter fun v => decide ((w, v) ∈ ff)).map fun v => (w, v)
def prodF (ss pp : List Str) (ff : List (Str × Str)) : List (Str × Str) := ss.flatMap (fitRow pp ff)
theorem lexB_swo : SrtO.Swo SrtO.lexB where
  asym p q h := by
    rw [SrtO.lexB_iff] at h
    rw [SrtO.lexB_no]
    omega
  tr p q r h k := by
    rw [SrtO.lexB_no] at *
    omega
theorem ltF_swo {ss pp : List Str} : SrtO.Swo (ltF ss pp) := ⟨fun x y => lexB_swo.asym _ _, fun x y z => lexB_swo.tr _ _ _⟩
theorem fitRow_mem {pp : List Str} {ff : List (Str × Str)} {w : Str} {p : Str × Str} : p ∈ fitRow pp ff w ↔ p.1 = w ∧ p.2 ∈ pp ∧ p ∈ ff := by
  obtain ⟨a, b⟩ := p
  unfold fitRow
  rw [List.mem_map]
  constructor
  · rintro ⟨v, hv, e⟩
    obtain ⟨h1, h2⟩ := List.mem_filter.mp hv
    have h3 := of_decide_eq_true h2
    cases e
    exact ⟨rfl, h1, h3⟩
  · rintro ⟨h1, h2, h3⟩
    dsimp only at h1 h2
    subst h1
    exact ⟨b, List.mem_filter.mpr ⟨h2, by simpa using h3⟩, rfl⟩
theorem prodF_mem {ss pp : List Str} {ff : List (Str × Str)} {p : Str × Str} : p ∈ prodF ss pp ff ↔ p.1 ∈ ss ∧ p.2 ∈ pp ∧ p ∈ ff := by
  unfold prodF
  rw [List.mem_flatMap]
  constructor
  · rintro ⟨w, hw, h⟩
    obtain ⟨e, h2, h3⟩ := fitRow_mem.mp h
    exact ⟨e ▸ hw, h2, h3⟩
  · rintro ⟨h1, h2, h3⟩
    exact ⟨p.1, h1, fitRow_mem.mpr ⟨rfl, h2, h3⟩⟩
theorem idx_pw {ws : List Str} (hn : ws.Nodup) : ws.Pairwise fun a b => ws.idxOf a < ws.idxOf b := by
  rw [List.pairwise_iff_getElem]
  intro i j hi hj lt
  rw [hn.idxOf_getElem i hi, hn.idxOf_getElem j hj]
  exact lt
theorem prodF_srt {ss pp : List Str} {ff : List (Str × Str)} (hs : ss.Nodup) (hp : pp.Nodup) : (prodF ss pp ff).Pairwise fun p q => ltF ss pp p q = true := by
  unfold prodF
  rw [List.pairwise_flatMap]
  refine ⟨fun w hw => ?_, ?_⟩
  · unfold fitRow
    rw [List.pairwise_map]
    refine ((idx_pw hp).filter _).imp ?_
    intro a b lt
    unfold ltF
    rw [SrtO.lexB_iff]
    unfold ixF
    dsimp only
    omega
  · refine (idx_pw hs).imp ?_
    intro a b lt x hx y hy
    obtain ⟨e1, _⟩ := fitRow_mem.mp hx
    obtain ⟨e2, _⟩ := fitRow_mem.mp hy
    unfold ltF
    rw [SrtO.lexB_iff]
    unfold ixF
    dsimp only
    rw [e1, e2]
    omega
theorem idx_inj {ws : List Str} {a b : Str} (h : a ∈ ws) (k : b ∈ ws) (e : ws.idxOf a = ws.idxOf b) : a = b := by
  have h1 := idx_get h
  rw [e, idx_get k] at h1
  exact (Option.some.inj h1).symm
theorem ordF_srt {ss pp : List Str} {ff : List (Str × Str)} : (ordF ss pp ff).Pairwise fun p q => ltF ss pp q p = false := isort_srtd ltF_swo ff
theorem ordF_prod {ss pp : List Str} {ff : List (Str × Str)} (g : Good ss pp ff) : ordF ss pp ff = prodF ss pp ff := by
  have hn : (prodF ss pp ff).Nodup := (prodF_srt g.sn g.pn).imp fun {a b} h e => by
    subst e
    rw [ltF_swo.refl] at h
    cases h
  have hm : (ordF ss pp ff).Perm (prodF ss pp ff) := (List.perm_ext_iff_of_nodup (ordF_perm.nodup_iff.mpr g.fn) hn).mpr fun p => by
    rw [ordF_perm.mem_iff, prodF_mem]
    exact ⟨fun h => ⟨(g.fi p h).1, (g.fi p h).2, h⟩, fun h => h.2.2⟩
  refine hm.eq_of_pairwise (le := fun p q => ltF ss pp q p = false) ?_ ordF_srt ((prodF_srt g.sn g.pn).imp fun {a b} h => ltF_swo.asym _ _ h)
  intro a b ha hb h1 h2
  have ma := g.fi a (ordF_perm.mem_iff.mp ha)
  have mb := prodF_mem.mp hb
  unfold ltF at h1 h2
  rw [SrtO.lexB_no] at h1 h2
  unfold ixF at h1 h2
  dsimp only at h1 h2
  have e1 : ss.idxOf a.1 = ss.idxOf b.1 := by omega
  have e2 : pp.idxOf a.2 = pp.idxOf b.2 := by omega
  exact Prod.ext (idx_inj ma.1 mb.1 e1) (idx_inj ma.2 mb.2.1 e2)
end Mp

set_option Elab.async false
set_option linter.all false
set_option maxRecDepth 10000
namespace Mp
open PySem L2

def b_sortedFits : SM :=
  sSeq (sSet 1 (eLst (aNil)))
  (sSeq (sFor (wSeq (eOp pIx (eVar 0) (eC (.str "stems")))) (gN 2) (sSet 1 (eOp pAdd (eVar 1) (eLc (wSeq (eOp pIx (eVar 0) (eC (.str "places")))) (gN 3) (bTest (eOp pIn (eTup (aCons (eVar 2) (aCons (eVar 3) (aNil)))) (eOp pIx (eVar 0) (eC (.str "fits"))))) (eTup (aCons (eVar 2) (aCons (eVar 3) (aNil)))) [3]))))
  (sRet (eVar 1)))
def d_sortedFits : List MV → Sto → Re MV := runB 4 b_sortedFits
def rowO (ff : List (Str × Str)) (w v : Str) : Option (Str × Str) := if (w, v) ∈ ff then some (w, v) else none
theorem rowO_all {ff : List (Str × Str)} {w : Str} : ∀ {pp : List Str}, pp.filterMap (rowO ff w) = fitRow pp ff w
  | [] => rfl
  | v :: r => by
    have ih := rowO_all (ff := ff) (w := w) (pp := r)
    unfold fitRow at ih ⊢
    rw [List.filterMap_cons, List.filter_cons]
    unfold rowO at ih ⊢
    by_cases q : (w, v) ∈ ff
    · rw [if_pos q, if_pos (decide_eq_true q), List.map_cons]
      exact congrArg _ ih
    · rw [if_neg q, if_neg (by simp [q])]
      exact ih
theorem fitRow_len {pp : List Str} {ff : List (Str × Str)} {w : Str} : (fitRow pp ff w).length ≤ pp.length := by
  unfold fitRow
  rw [List.length_map]
  exact List.length_filter_le _ _
theorem prodF_len {pp : List Str} {ff : List (Str × Str)} : ∀ {ss : List Str}, (prodF ss pp ff).length ≤ ss.length * pp.length
  | [] => by simp [prodF]
  | w :: r => by
    have h1 := fitRow_len (pp := pp) (ff := ff) (w := w)
    have h2 := prodF_len (pp := pp) (ff := ff) (ss := r)
    unfold prodF at h2 ⊢
    rw [List.flatMap_cons, List.length_append, List.length_cons, Nat.add_mul, Nat.one_mul]
    omega
theorem prodF_step {ss pp : List Str} {ff : List (Str × Str)} {i : Nat} (h : i < ss.length) : prodF (ss.take (i + 1)) pp ff = prodF (ss.take i) pp ff ++ fitRow pp ff ss[i] := by
  unfold prodF
  rw [take_snoc (x := ss[i]) (by simp [h]), List.flatMap_append]
  simp
section
variable {D : Sto} {P : MV → Sto → Prop} {t : Nat} {ss pp : List Str} {ff : List (Str × Str)}
theorem sortedFits_ok (h : TabAt D t ss pp ff) (k : ∀ L vs D', Fr none D D' → D.length ≤ L → D'[L]? = some (.lst vs) → PairsAt D' vs (prodF ss pp ff) → P (.ref L) D') : Ev (d_sortedFits [.ref t] D) P := by
  obtain ⟨⟨a, b, f, vf, hd, ha, hb, hf, pf⟩, g⟩ := h
  have wd : ∀ p ∈ ff, Wd p.1 ∧ Wd p.2 := fun p hp => ⟨isW_wd (g.sw _ (g.fi p hp).1), isW_wd (g.pw _ (g.fi p hp).2)⟩
  refine ev_run ?_
  show EvS (b_sortedFits [some (.ref t), none, none, none] D) _ _
  unfold b_sortedFits
  rw [evS_seq, evS_set, ev_lst, ev_nil]
  refine ⟨sz_le (by simp), ?_⟩
  show EvS (sSeq _ _ [some (.ref t), some (.ref D.length), none, none] _) _ _
  have f1 : Fr none D (D ++ [Ob.lst []]) := Fr.snoc
  have g1 : (D ++ [Ob.lst []])[D.length]? = some (.lst []) := get_new
  rw [evS_seq, evS_for]
  refine ev_seqL (j := a) (xs := ss.map MV.str) ?_
  rw [ev_op, ev_v0, ev_c, ev_ixd (f1.at hd out_none) (v := .ref a) rfl]
  refine ⟨rfl, rdL_lst (f1.at ha out_none), ?_⟩
  dsimp only
  refine for_ok (fun i ρ D' => Fr none D D' ∧ ∃ L x y vs, ρ = [some (.ref t), some (.ref L), x, y] ∧ D.length ≤ L ∧ D'[L]? = some (.lst vs) ∧ PairsAt D' vs (prodF (ss.take i) pp ff)) _ 0 _ _
    ⟨f1, D.length, none, none, [], rfl, Nat.le_refl _, g1, .nil⟩ ?_ ?_
  · rintro i ρ D1 hi0 hi ⟨fr, L, x, y, vs, rfl, gL, hL, pv⟩
    have hi' : i < ss.length := by simpa using hi
    refine ⟨decide_eq_true (rdL_lst (fr.at ha out_none)), .str ss[i], D1, [some (.ref t), some (.ref L), some (.str ss[i]), y], ?_, rfl, ?_⟩
    · dsimp only
      unfold seqItem
      simp [hi']
    rw [evS_set, ev_op, ev_v1]
    refine lc_map (S := none) (α := Str) (β := Str × Str) (fun v w => v = MV.str w) PairAt (rowO ff ss[i]) (fun _ _ _ _ h f _ => PairAt.fr (S := none) h f) (fun _ _ _ _ _ _ e h => PairAt.set e h) ?_
    rw [ev_op, ev_v0, ev_c, ev_ixd (fr.at hd out_none) (v := .ref b) rfl]
    refine ⟨b, pp.map MV.str, pp, rfl, rdL_lst (fr.at hb out_none), out_none, strs_rel pp, by rw [List.length_map]; have := g.pz; omega, ok_none, ?_, ?_⟩
    · rintro v w D2 rfl hw f2 k2
      have hw' : w ∈ pp := by
        obtain ⟨z, hz, e⟩ := List.mem_map.mp hw
        cases e
        exact hz
      refine ⟨[some (.ref t), some (.ref L), some (.str ss[i]), some (.str w)], rfl, rfl, ?_⟩
      have fr2 := fr.trans f2
      have w1 : Wd ss[i] := isW_wd (g.sw _ (List.getElem_mem hi'))
      have w2 : Wd w := isW_wd (g.pw _ hw')
      rw [ev_test, ev_op, ev_tup, ev_cons, ev_v2, ev_cons, ev_v3, ev_nil]
      refine ⟨sz_le (by simp), ?_⟩
      have f3 : Fr none D2 (D2 ++ [Ob.tup [.str ss[i], .str w]]) := Fr.snoc
      have fr3 := fr2.trans f3
      rw [ev_op, ev_v0, ev_c, ev_ixd (fr3.at hd out_none) (v := .ref f) rfl]
      rw [ev_in (in_pairs (p := (ss[i], w)) ⟨D2.length, rfl, get_new⟩ w1 w2 (fr3.at hf out_none) (pf.fr fr3) wd), ev_bl]
      refine ⟨f3, ok_none, ?_, fun hc => ?_⟩
      · unfold rowO
        by_cases q : (ss[i], w) ∈ ff
        · rw [if_pos q, decide_eq_true q]; rfl
        · rw [if_neg q, decide_eq_false q]; rfl
      · rw [ev_tup, ev_cons, ev_v2, ev_cons, ev_v3, ev_nil]
        refine ⟨sz_le (by simp), Fr.snoc, ok_none, (ss[i], w), ?_, (D2 ++ [Ob.tup [.str ss[i], .str w]]).length, rfl, get_new⟩
        unfold rowO
        rw [if_pos (of_decide_eq_true hc)]
    · intro ys D2 f2 k2 hys hrel
      rw [rowO_all] at hrel
      have l1 := Pd.len pv
      have l2 := Pd.len hrel
      have l3 := prodF_len (pp := pp) (ff := ff) (ss := ss.take i)
      have l4 := fitRow_len (pp := pp) (ff := ff) (w := ss[i])
      have l5 : (ss.take i).length ≤ 100 := Nat.le_trans (List.length_take_le' _ _) g.sz
      have l6 : (ss.take i).length * pp.length ≤ 100 * 100 := Nat.mul_le_mul l5 g.pz
      have l7 := g.pz
      rw [ev_catL (f2.at hL out_none) hys (sz_le (by omega))]
      refine ⟨(fr.trans f2).trans Fr.snoc, D2.length, _, _, vs ++ ys, rfl, Nat.le_trans fr.le f2.le, get_new, ?_⟩
      rw [prodF_step hi']
      exact Pd.append ((pv.fr f2).fr Fr.snoc) (PairsAt.fr hrel Fr.snoc)
  · rintro ρ D1 ⟨fr, L, x, y, vs, rfl, gL, hL, pv⟩
    refine ⟨decide_eq_true (rdL_lst (fr.at ha out_none)), ?_⟩
    rw [Nat.zero_add, List.take_of_length_le (by simp)] at pv
    show EvS (sRet _ [some (.ref t), some (.ref L), x, y] D1) _ _
    rw [evS_ret, ev_v1]
    exact k L vs D1 fr gL hL pv
end
end Mp

set_option Elab.async false
set_option linter.all false
set_option maxRecDepth 10000
namespace Mp
open PySem L2

def swp (p : Str × Str) : Str × Str := (p.2, p.1)
theorem sw_mem {ff : List (Str × Str)} {p : Str × Str} : p ∈ ff.map swp ↔ swp p ∈ ff := by
  rw [List.mem_map]
  constructor
  · rintro ⟨q, hq, rfl⟩
    exact hq
  · exact fun h => ⟨swp p, h, rfl⟩
theorem Good.turn {ss pp : List Str} {ff : List (Str × Str)} (g : Good ss pp ff) : Good pp ss (ff.map swp) := by
  refine ⟨g.pw, g.sw, g.pn, g.sn, ?_, fun p hp => ?_, g.pz, g.sz, by rw [List.length_map]; exact g.fz⟩
  · have := g.fn
    rw [List.nodup_iff_pairwise_ne] at this ⊢
    rw [List.pairwise_map]
    refine this.imp fun {a b} h e => h ?_
    obtain ⟨a1, a2⟩ := a
    obtain ⟨b1, b2⟩ := b
    cases e
    rfl
  · have := g.fi _ (sw_mem.mp hp)
    exact ⟨this.2, this.1⟩
section
variable {D : Sto} {P : MV → Sto → Prop} {ρ : Rho} {ss pp : List Str} {ff : List (Str × Str)}
/-- the pairs turned about -/
theorem swap_ok {m : EM} {x y : Nat} (hw : ∀ a b : MV, wipeM (((wipeM ρ [x, y]).set x (some a)).set y (some b)) [x, y] = wipeM ρ [x, y]) (gx : ∀ a b : MV, (((wipeM ρ [x, y]).set x (some a)).set y (some b))[x]? = some (some a)) (gy : ∀ a b : MV, (((wipeM ρ [x, y]).set x (some a)).set y (some b))[y]? = some (some b))
    (hm : Ev (m ρ D) fun v D0 => ∃ j vs ps, v = .ref j ∧ D0[j]? = some (.lst vs) ∧ PairsAt D0 vs ps ∧ ps.length ≤ 10000 ∧ ∀ ys D', Fr none D0 D' → D'[D0.length]? = some (.lst ys) → PairsAt D' ys (ps.map swp) → P (.ref D0.length) D') :
    Ev (eLc (wSeq m) (gT [gN x, gN y]) bYes (eTup (aCons (eVar y) (aCons (eVar x) aNil))) [x, y] ρ D) P := by
  obtain ⟨v, D0, e0, j, vs, ps, rfl, hj, hp, hz, fin⟩ := hm.get
  refine lc_map (S := none) (α := Str × Str) (β := Str × Str) (fun v p => PairAt D0 v p) PairAt (fun p => some (swp p)) (fun _ _ _ _ h f _ => PairAt.fr (S := none) h f) (fun _ _ _ _ _ _ e h => PairAt.set e h) ?_
  rw [e0, ev_ok]
  refine ⟨j, vs, ps, rfl, rdL_lst hj, out_none, hp, by rw [Pd.len hp]; omega, ok_none, ?_, ?_⟩
  · rintro v p D' hv _ f _
    refine ⟨((wipeM ρ [x, y]).set x (some (.str p.1))).set y (some (.str p.2)), ?_, hw _ _, ?_⟩
    · obtain ⟨i, rfl, e⟩ := PairAt.fr (S := none) hv f
      unfold gT
      dsimp only
      have : rdT D' i = some [.str p.1, .str p.2] := by unfold rdT; rw [e]
      rw [this]
      rfl
    unfold bYes
    rw [ev_ok]
    refine ⟨Fr.refl _ _, ok_none, rfl, fun _ => ?_⟩
    rw [ev_tup, ev_cons, ev_var (gy _ _), ev_cons, ev_var (gx _ _), ev_nil]
    exact ⟨sz_le (by simp), Fr.snoc, ok_none, swp p, rfl, D'.length, rfl, get_new⟩
  · intro ys D' f _ hy hrel
    have e : ps.filterMap (fun p => some (swp p)) = ps.map swp := by
      clear hrel hp fin hz
      induction ps with
      | nil => rfl
      | cons p r ih => rw [List.filterMap_cons, List.map_cons, ih]
    rw [e] at hrel
    exact fin ys D' f hy hrel
/-- Table(..) of three lists -/
theorem make_ok {am : AM} (h : Ev (am ρ D) fun vs D1 => ∃ a b f vf ss pp ff, vs = [.ref a, .ref b, .ref f] ∧ D1[a]? = some (.lst (ss.map MV.str)) ∧ D1[b]? = some (.lst (pp.map MV.str)) ∧ D1[f]? = some (.lst vf) ∧ PairsAt D1 vf ff ∧ Good ss pp ff ∧
      ∀ D', Fr none D1 D' → TblAt D' D1.length ss pp (prodF ss pp ff) → P (.ref D1.length) D') : Ev (eMake "Table" d_init am ρ D) P := by
  unfold eMake
  rw [ev_bind]
  refine h.imp fun vs D1 ⟨a, b, f, vf, ss, pp, ff, e, ha, hb, hf, pf, g, k⟩ => ?_
  subst e
  rw [ev_bind]
  have f1 : Fr none D1 (D1 ++ [Ob.ins "Table" []]) := Fr.snoc
  refine init_ok (i := D1.length) get_new (f1.at ha out_none) (f1.at hb out_none) (f1.at hf out_none) (pf.fr f1) g fun D' hle hget tb => ?_
  rw [if_pos rfl, ev_ok]
  rw [ordF_prod g] at tb
  refine k D' ⟨Nat.le_trans f1.le hle, fun j hj _ => ?_, fun _ => ok_none⟩ tb
  rw [hget j (Nat.lt_of_lt_of_le hj f1.le) (by omega), f1.get j hj out_none]
end
def b_tableOf : SM :=
  sRet (eMake "Table" d_init (aCons (eOp pIx (eVar 0) (eC (.str "stems"))) (aCons (eOp pIx (eVar 0) (eC (.str "places"))) (aCons (eOp pIx (eVar 0) (eC (.str "fits"))) (aNil)))))
def d_tableOf : List MV → Sto → Re MV := runB 1 b_tableOf
def b_turnedTable : SM :=
  sSeq (sSet 1 (eLc (wSeq (eOp pIx (eVar 0) (eC (.str "fits")))) (gT [gN 2, gN 3]) (bYes) (eTup (aCons (eVar 3) (aCons (eVar 2) (aNil)))) [2, 3]))
  (sRet (eDisp [(eC (.str "stems"), eOp pIx (eVar 0) (eC (.str "places"))), (eC (.str "places"), eOp pIx (eVar 0) (eC (.str "stems"))), (eC (.str "fits"), eVar 1)]))
def d_turnedTable : List MV → Sto → Re MV := runB 4 b_turnedTable
def b_turned : SM :=
  sRet (eMake "Table" d_init (aCons (eMeth "Table" "places" d_places (eVar 0) aNil) (aCons (eMeth "Table" "stems" d_stems (eVar 0) aNil) (aCons (eLc (wSeq (eMeth "Table" "fits" d_fits (eVar 0) aNil)) (gT [gN 1, gN 2]) (bYes) (eTup (aCons (eVar 2) (aCons (eVar 1) (aNil)))) [1, 2]) (aNil)))))
def d_turned : List MV → Sto → Re MV := runB 3 b_turned
section
variable {D : Sto} {P : MV → Sto → Prop} {t i : Nat} {ss pp : List Str} {ff oo : List (Str × Str)}
theorem TabAt.keep {D' : Sto} (h : TabAt D t ss pp ff) (f : Fr none D D') : TabAt D' t ss pp ff := by
  obtain ⟨⟨a, b, c, vf, hd, ha, hb, hf, pf⟩, g⟩ := h
  exact ⟨⟨a, b, c, vf, f.at hd out_none, f.at ha out_none, f.at hb out_none, f.at hf out_none, pf.fr f⟩, g⟩
theorem tableOf_ok (h : TabAt D t ss pp ff) (k : ∀ i D', Fr none D D' → D.length ≤ i → TblAt D' i ss pp (prodF ss pp ff) → P (.ref i) D') : Ev (d_tableOf [.ref t] D) P := by
  obtain ⟨⟨a, b, f, vf, hd, ha, hb, hf, pf⟩, g⟩ := h
  refine ev_run ?_
  show EvS (b_tableOf [some (.ref t)] D) _ _
  unfold b_tableOf
  rw [evS_ret]
  refine make_ok ?_
  rw [ev_cons, ev_op, ev_v0, ev_c, ev_ixd hd (v := .ref a) rfl, ev_cons, ev_op, ev_v0, ev_c, ev_ixd hd (v := .ref b) rfl, ev_cons, ev_op, ev_v0, ev_c, ev_ixd hd (v := .ref f) rfl, ev_nil]
  exact ⟨a, b, f, vf, ss, pp, ff, rfl, ha, hb, hf, pf, g, fun D' fr tb => k _ D' fr (Nat.le_refl _) tb⟩
theorem turnedTable_ok (h : TabAt D t ss pp ff) (k : ∀ i D', Fr none D D' → D.length ≤ i → TabAt D' i pp ss (ff.map swp) → P (.ref i) D') : Ev (d_turnedTable [.ref t] D) P := by
  obtain ⟨⟨a, b, f, vf, hd, ha, hb, hf, pf⟩, g⟩ := h
  refine ev_run ?_
  show EvS (b_turnedTable [some (.ref t), none, none, none] D) _ _
  unfold b_turnedTable
  rw [evS_seq, evS_set]
  refine swap_ok (fun _ _ => rfl) (fun _ _ => rfl) (fun _ _ => rfl) ?_
  rw [ev_op, ev_v0, ev_c, ev_ixd hd (v := .ref f) rfl]
  refine ⟨f, vf, ff, rfl, hf, pf, g.fz, fun ys D1 f1 hy py => ?_⟩
  show EvS (sRet _ [some (.ref t), some (.ref D.length), none, none] D1) _ _
  rw [evS_ret]
  refine ev_disp ?_
  have f2 : Fr none D1 (D1 ++ [Ob.dic []]) := Fr.snoc
  have fr := f1.trans f2
  rw [ev_prs, ev_c, ev_op, ev_v0, ev_c, ev_ixd (fr.at hd out_none) (v := .ref b) rfl, ev_prs, ev_c, ev_op, ev_v0, ev_c, ev_ixd (fr.at hd out_none) (v := .ref a) rfl, ev_prs, ev_c, ev_v1, ev_prs0]
  refine ⟨get_new, _, rfl, (by show 3 ≤ 15; omega), ?_⟩
  have fs : Fr none D1 ((D1 ++ [Ob.dic []]).set D1.length (.dic [(Sum.inr "stems", .ref b), (Sum.inr "places", .ref a), (Sum.inr "fits", .ref D.length)])) := f2.setNew ok_none (Nat.le_refl _)
  have fz := f1.trans fs
  refine k D1.length _ fz f1.le ⟨⟨b, a, D.length, ys, ?_, fz.at hb out_none, fz.at ha out_none, fs.at hy out_none, py.fr fs⟩, g.turn⟩
  exact List.getElem?_set_self (by simp)
theorem turned_ok (h : TblAt D i ss pp oo) (k : ∀ i' D', Fr none D D' → D.length ≤ i' → TblAt D' i' pp ss (prodF pp ss (oo.map swp)) → P (.ref i') D') : Ev (d_turned [.ref i] D) P := by
  have g := h.good
  have ins : ∀ {D' : Sto}, Fr none D D' → ∃ fs, D'[i]? = some (.ins "Table" fs) ∧ fs.lookup ("places" : Str) = none ∧ fs.lookup ("stems" : Str) = none ∧ fs.lookup ("fits" : Str) = none := fun f => by
    obtain ⟨a, b, e, bs, bp, vf, ls, lp, h1, _⟩ := (h.fr f).ex
    exact ⟨_, h1, rfl, rfl, rfl⟩
  refine ev_run ?_
  show EvS (b_turned [some (.ref i), none, none] D) _ _
  unfold b_turned
  rw [evS_ret]
  refine make_ok ?_
  rw [ev_cons]
  obtain ⟨fs, i1, n1, _, _⟩ := ins (Fr.refl none D)
  refine ev_meth0 (by rw [ev_v0]; exact ⟨rfl, rfl⟩) i1 n1 ?_
  refine places_ok h fun D1 f1 g1 => ?_
  rw [ev_cons]
  obtain ⟨fs, i2, _, n2, _⟩ := ins f1
  refine ev_meth0 (by rw [ev_v0]; exact ⟨rfl, rfl⟩) i2 n2 ?_
  refine stems_ok (h.fr f1) fun D2 f2 g2 => ?_
  have f12 := f1.trans f2
  rw [ev_cons]
  refine swap_ok (fun _ _ => rfl) (fun _ _ => rfl) (fun _ _ => rfl) ?_
  obtain ⟨fs, i3, _, _, n3⟩ := ins f12
  refine ev_meth0 (by rw [ev_v0]; exact ⟨rfl, rfl⟩) i3 n3 ?_
  refine fits_ok (h.fr f12) fun vs D3 f3 g3 p3 => ?_
  refine ⟨_, vs, oo, rfl, g3, p3, g.fz, fun ys D4 f4 hy py => ?_⟩
  rw [ev_nil]
  have f23 := f2.trans (f3.trans f4)
  refine ⟨_, _, _, ys, pp, ss, oo.map swp, rfl, f23.at g1 out_none, (f3.trans f4).at g2 out_none, hy, py, g.turn, fun D' fr tb => ?_⟩
  have fa := f1.trans f23
  exact k _ D' (fa.trans fr) fa.le tb
end
end Mp

set_option Elab.async false
set_option linter.all false
set_option maxRecDepth 10000
namespace Mp
open PySem L2

theorem eqvAll_map {α : Type} [DecidableEq α] {g : α → PyData} (hg : ∀ x y, PyData.eqv (g x) (g y) = decide (x = y)) : ∀ xs ys : List α, PyData.eqvAll (xs.map g) (ys.map g) = decide (xs = ys)
  | [], [] => PyData.eqvAll.eq_1
  | [], y :: ys => by
    rw [List.map_cons, List.map_nil, PyData.eqvAll.eq_3]
    simp
  | x :: xs, [] => by
    rw [List.map_cons, List.map_nil, PyData.eqvAll.eq_4]
    simp
  | x :: xs, y :: ys => by
    rw [List.map_cons, List.map_cons, PyData.eqvAll.eq_2, hg, eqvAll_map hg xs ys]
    by_cases h1 : x = y <;> by_cases h2 : xs = ys <;> simp [h1, h2]
theorem eqv_tup {α : Type} [DecidableEq α] {g : α → PyData} (hg : ∀ x y, PyData.eqv (g x) (g y) = decide (x = y)) {xs ys : List α} : PyData.eqv (.tuple (xs.map g)) (.tuple (ys.map g)) = decide (xs = ys) := by
  unfold PyData.eqv
  exact eqvAll_map hg xs ys
theorem eqv_lst {α : Type} [DecidableEq α] {g : α → PyData} (hg : ∀ x y, PyData.eqv (g x) (g y) = decide (x = y)) {xs ys : List α} : PyData.eqv (.list (xs.map g)) (.list (ys.map g)) = decide (xs = ys) := by
  unfold PyData.eqv
  exact eqvAll_map hg xs ys
theorem shaped_tup {α : Type} {g : α → PyData} {xs : List α} (h : ∀ x ∈ xs, PyData.canLay0 (g x) = true) (hd : ∀ x ∈ xs, (g x).depth ≤ 60) : SeqAt.shaped (.tuple (xs.map g)) = true := by
  unfold SeqAt.shaped
  rw [show PyData.canLay0 (.tuple (xs.map g)) = PyData.canLayAll0 (xs.map g) by simp [PyData.canLay0], lay_all h]
  have : (PyData.tuple (xs.map g)).depth ≤ 64 := by
    show PyData.depth _ ≤ 64
    unfold PyData.depth
    have := depth_all (k := 60) hd
    omega
  simp [this]
section
variable {D : Sto} {P : MV → Sto → Prop} {i j : Nat} {ss pp ss' pp' : List Str} {oo oo' : List (Str × Str)}
theorem dat_wordsT {ws : List Str} (h : D[j]? = some (.tup (ws.map MV.str))) (hw : ∀ w ∈ ws, Wd w) : datD D (.ref j) = some (.tuple (ws.map pdS)) := by
  refine datD_of ?_ (shaped_tup (fun x hx => by simp [pdS, PyData.canLay0, hw x hx]) fun x hx => by simp [pdS, PyData.depth])
  rw [rdD_tup (g := fun v => (atomD v).getD .none) h (fun x hx => by
    obtain ⟨w, _, rfl⟩ := List.mem_map.mp hx
    rw [rdD_str]
    rfl), List.map_map]
  rfl
theorem dat_pairsT {vs : List MV} {ps : List (Str × Str)} (h : D[j]? = some (.tup vs)) (hp : PairsAt D vs ps) (hw : ∀ p ∈ ps, Wd p.1 ∧ Wd p.2) : datD D (.ref j) = some (.tuple (ps.map pdP)) := by
  refine datD_of ?_ (shaped_tup (fun p hx => lay_pair (hw p hx).1 (hw p hx).2) fun p _ => Nat.le_trans depth_pair (by omega))
  unfold rdD
  dsimp only
  rw [h]
  dsimp only
  rw [pairs_mapM hp]
  rfl
theorem ev_eqD {a b : Nat} {d e : PyData} (h : datD D (.ref a) = some d) (k : datD D (.ref b) = some e) : Ev (pEqA (.ref a) (.ref b) D) P = P (.bl (PyData.eqv d e)) D := by
  unfold pEqA
  dsimp only
  unfold pEq
  rw [h, k]
  dsimp only
  rw [ev_ok]
theorem ev_neD {a b : Nat} {d e : PyData} (h : datD D (.ref a) = some d) (k : datD D (.ref b) = some e) : Ev (pNeA (.ref a) (.ref b) D) P = P (.bl (!PyData.eqv d e)) D := by
  unfold pNeA
  dsimp only
  unfold pNe
  rw [h, k]
  dsimp only
  rw [ev_ok]
theorem Good.wd (g : Good ss pp oo) : ∀ p ∈ oo, Wd p.1 ∧ Wd p.2 := fun p hp => ⟨isW_wd (g.sw _ (g.fi p hp).1), isW_wd (g.pw _ (g.fi p hp).2)⟩
def tTab : List (Tk × Bool) := [(.b "str", false), (.b "list", false), (.b "tuple", false), (.b "int", false), (.b "bool", false), (.b "dict", false), (.b "NoneType", false), (.own "Table", true)]
theorem isTab_ok {ρ : Rho} {m : EM} (h : TblAt D i ss pp oo) (hm : Ev (m ρ D) fun v D1 => v = .ref i ∧ D1 = D) (k : P (.bl true) D) : Ev (eIsi tTab m ρ D) P := by
  obtain ⟨a, b, e, bs, bp, vf, ls, lp, h1, _⟩ := h.ex
  rw [ev_isi]
  refine hm.imp fun v D1 ⟨e1, e2⟩ => ?_
  subst e1 e2
  refine ⟨.bl true, ?_, k⟩
  unfold tkOf
  dsimp only
  rw [h1]
  rfl
def b_eq : SM :=
  sRet (eAnd (eIsi tTab (eVar 1)) (eAnd (eOp pEqA (eFld "Table" "_stems" (eVar 0)) (eFld "Table" "_stems" (eVar 1))) (eAnd (eOp pEqA (eFld "Table" "_places" (eVar 0)) (eFld "Table" "_places" (eVar 1))) (eOp pEqA (eFld "Table" "_fits" (eVar 0)) (eFld "Table" "_fits" (eVar 1))))))
def d_eq : List MV → Sto → Re MV := runB 2 b_eq
theorem eq_ok (h : TblAt D i ss pp oo) (h' : TblAt D j ss' pp' oo') (k : P (.bl (decide (ss = ss' ∧ pp = pp' ∧ oo = oo'))) D) : Ev (d_eq [.ref i, .ref j] D) P := by
  have hh' := h'
  obtain ⟨⟨a, b, e, bs, bp, vf, ls, lp, h1, h2, h3, h4, h5, _⟩, g⟩ := h
  obtain ⟨⟨a', b', e', bs', bp', vf', ls', lp', h1', h2', h3', h4', h5', _⟩, g'⟩ := h'
  refine ev_run ?_
  show EvS (b_eq [some (.ref i), some (.ref j)] D) _ _
  unfold b_eq
  rw [evS_ret, ev_eand]
  refine isTab_ok hh' (by rw [ev_v1]; exact ⟨rfl, rfl⟩) ?_
  rw [ev_bl, if_pos rfl, ev_eand, ev_op, ev_fld, ev_v0]
  refine ⟨.ref a, by rw [ins_at' h1]; rfl, ?_⟩
  rw [ev_fld, ev_v1]
  refine ⟨.ref a', by rw [ins_at' h1']; rfl, ?_⟩
  rw [ev_eqD (dat_wordsT h2 fun w hw => isW_wd (g.sw w hw)) (dat_wordsT h2' fun w hw => isW_wd (g'.sw w hw)), eqv_tup (g := pdS) (fun x y => eqv_str), ev_bl]
  by_cases c1 : ss = ss'
  · rw [decide_eq_true c1, if_pos rfl, ev_eand, ev_op, ev_fld, ev_v0]
    refine ⟨.ref b, by rw [ins_at' h1]; rfl, ?_⟩
    rw [ev_fld, ev_v1]
    refine ⟨.ref b', by rw [ins_at' h1']; rfl, ?_⟩
    rw [ev_eqD (dat_wordsT h3 fun w hw => isW_wd (g.pw w hw)) (dat_wordsT h3' fun w hw => isW_wd (g'.pw w hw)), eqv_tup (g := pdS) (fun x y => eqv_str), ev_bl]
    by_cases c2 : pp = pp'
    · rw [decide_eq_true c2, if_pos rfl, ev_op, ev_fld, ev_v0]
      refine ⟨.ref e, by rw [ins_at' h1]; rfl, ?_⟩
      rw [ev_fld, ev_v1]
      refine ⟨.ref e', by rw [ins_at' h1']; rfl, ?_⟩
      rw [ev_eqD (dat_pairsT h4 h5 g.wd) (dat_pairsT h4' h5' g'.wd), eqv_tup (g := pdP) (fun x y => eqv_pair)]
      have : decide (ss = ss' ∧ pp = pp' ∧ oo = oo') = decide (oo = oo') := decide_eq_decide.mpr ⟨fun z => z.2.2, fun z => ⟨c1, c2, z⟩⟩
      rw [this] at k
      exact k
    · rw [decide_eq_false c2, if_neg (by decide)]
      rw [decide_eq_false fun z => c2 z.2.1] at k
      exact k
  · rw [decide_eq_false c1, if_neg (by decide)]
    rw [decide_eq_false fun z => c1 z.1] at k
    exact k
theorem eqO_ok {g : Bool → MV} (h : TblAt D i ss pp oo) (h' : TblAt D j ss' pp' oo') (k : P (g (decide (ss = ss' ∧ pp = pp' ∧ oo = oo'))) D) : Ev (pEqO "Table" d_eq g (.ref i) (.ref j) D) P := by
  obtain ⟨a, b, e, bs, bp, vf, ls, lp, h1, _⟩ := h.ex
  obtain ⟨a', b', e', bs', bp', vf', ls', lp', h1', _⟩ := h'.ex
  have q := eq_ok (P := fun v D' => v = .bl (decide (ss = ss' ∧ pp = pp' ∧ oo = oo')) ∧ D' = D) h h' ⟨rfl, rfl⟩
  obtain ⟨v, D', e0, rfl, rfl⟩ := q.get
  unfold pEqO
  rw [ins_at' h1, ins_at' h1']
  dsimp only
  rw [e0]
  unfold noX
  dsimp only
  rw [ev_ok]
  exact k
end
end Mp

set_option Elab.async false
set_option linter.all false
set_option maxRecDepth 10000
namespace Mp
open PySem L2

/-- what of a made table no drawing changes -/
structure TblC (D : Sto) (i : Nat) (ss pp : List Str) (oo : List (Str × Str)) : Prop where
  ex : ∃ a b f bs bp vf, D[i]? = some (.ins "Table" [("_stems", .ref a), ("_places", .ref b), ("_fits", .ref f), ("_by_stem", .ref bs), ("_by_place", .ref bp)]) ∧ D[a]? = some (.tup (ss.map MV.str)) ∧ D[b]? = some (.tup (pp.map MV.str)) ∧ D[f]? = some (.tup vf) ∧ PairsAt D vf oo
  good : Good ss pp oo
section
variable {D D' : Sto} {P : MV → Sto → Prop} {i s c : Nat} {ss pp us ws : List Str} {oo : List (Str × Str)} {ρ : Rho}
theorem TblAt.core (h : TblAt D i ss pp oo) : TblC D i ss pp oo := by
  obtain ⟨⟨a, b, e, bs, bp, vf, ls, lp, h1, h2, h3, h4, h5, _⟩, g⟩ := h
  exact ⟨⟨a, b, e, bs, bp, vf, h1, h2, h3, h4, h5⟩, g⟩
theorem TblC.fr (h : TblC D i ss pp oo) (f : Fr none D D') : TblC D' i ss pp oo := by
  obtain ⟨⟨a, b, e, bs, bp, vf, h1, h2, h3, h4, h5⟩, g⟩ := h
  exact ⟨⟨a, b, e, bs, bp, vf, f.at h1 out_none, f.at h2 out_none, f.at h3 out_none, f.at h4 out_none, h5.fr f⟩, g⟩
theorem out_kind {j : Nat} {o : Ob} (sk : SrcOk D s c) (e : D[j]? = some o) (h1 : ∀ kvs, o ≠ .dic kvs) (h2 : ∀ xs, o ≠ .lst xs) : Out (some (s, c)) j := by
  obtain ⟨cells, l, m, t, ⟨ne, hd, hl⟩, z⟩ := sk
  refine out_some (fun q => ?_) fun q => ?_
  · subst q
    rw [hd] at e
    exact h1 _ (Option.some.inj e).symm
  · subst q
    rw [hl] at e
    exact h2 _ (Option.some.inj e).symm
theorem TblC.src (h : TblC D i ss pp oo) (f : Fr (some (s, c)) D D') (sk : SrcOk D s c) : TblC D' i ss pp oo := by
  obtain ⟨⟨a, b, e, bs, bp, vf, h1, h2, h3, h4, h5⟩, g⟩ := h
  exact ⟨⟨a, b, e, bs, bp, vf, f.at h1 (out_kind sk h1 (fun _ q => by cases q) fun _ q => by cases q), f.at h2 (out_kind sk h2 (fun _ q => by cases q) fun _ q => by cases q), f.at h3 (out_kind sk h3 (fun _ q => by cases q) fun _ q => by cases q), f.at h4 (out_kind sk h4 (fun _ q => by cases q) fun _ q => by cases q), h5.src f sk⟩, g⟩
theorem stemsC_ok (h : TblC D i ss pp oo) (k : ∀ D', Fr none D D' → D'[D.length]? = some (.lst (ss.map MV.str)) → P (.ref D.length) D') : Ev (d_stems [.ref i] D) P := by
  obtain ⟨⟨a, b, e, bs, bp, vf, h1, h2, _⟩, g⟩ := h
  refine ev_run ?_
  show EvS (b_stems [some (.ref i)] D) _ _
  unfold b_stems
  rw [evS_ret, ev_call, ev_cons, ev_fld, ev_v0]
  refine ⟨.ref a, by rw [ins_at' h1]; rfl, ?_⟩
  rw [ev_nil, ev_listT h2]
  exact k _ Fr.snoc get_new
theorem placesC_ok (h : TblC D i ss pp oo) (k : ∀ D', Fr none D D' → D'[D.length]? = some (.lst (pp.map MV.str)) → P (.ref D.length) D') : Ev (d_places [.ref i] D) P := by
  obtain ⟨⟨a, b, e, bs, bp, vf, h1, h2, h3, _⟩, g⟩ := h
  refine ev_run ?_
  show EvS (b_places [some (.ref i)] D) _ _
  unfold b_places
  rw [evS_ret, ev_call, ev_cons, ev_fld, ev_v0]
  refine ⟨.ref b, by rw [ins_at' h1]; rfl, ?_⟩
  rw [ev_nil, ev_listT h3]
  exact k _ Fr.snoc get_new
theorem fitsC_ok (h : TblC D i ss pp oo) (k : ∀ vs D', Fr none D D' → D'[D.length]? = some (.lst vs) → PairsAt D' vs oo → P (.ref D.length) D') : Ev (d_fits [.ref i] D) P := by
  obtain ⟨⟨a, b, e, bs, bp, vf, h1, h2, h3, h4, h5⟩, g⟩ := h
  refine ev_run ?_
  show EvS (b_fits [some (.ref i)] D) _ _
  unfold b_fits
  rw [evS_ret, ev_call, ev_cons, ev_fld, ev_v0]
  refine ⟨.ref e, by rw [ins_at' h1]; rfl, ?_⟩
  rw [ev_nil, ev_listT h4]
  exact k vf _ Fr.snoc get_new (h5.fr Fr.snoc)
def kept (us : List Str) (w : Str) : Option Str := if w ∈ us then some w else none
theorem kept_all : ∀ ws : List Str, ws.filterMap (kept us) = ws.filter fun w => decide (w ∈ us)
  | [] => rfl
  | w :: r => by
    rw [List.filterMap_cons, List.filter_cons]
    unfold kept
    by_cases q : w ∈ us
    · rw [if_pos q, if_pos (decide_eq_true q)]
      exact congrArg _ (kept_all r)
    · rw [if_neg q, if_neg (by simp [q])]
      exact kept_all r
/-- [x for x in .. if x in us] -/
theorem keep_ok {m : EM} {x a o : Nat} (hw : ∀ v : MV, wipeM ((wipeM ρ [x]).set x (some v)) [x] = wipeM ρ [x]) (gx : ∀ v : MV, ((wipeM ρ [x]).set x (some v))[x]? = some (some v)) (go : ∀ v : MV, ((wipeM ρ [x]).set x (some v))[o]? = some (some (.ref a)))
    (hm : Ev (m ρ D) fun v D0 => ∃ (j : Nat) (ws : List Str), v = .ref j ∧ D0[j]? = some (.lst (ws.map MV.str)) ∧ (∀ w ∈ ws, Wd w) ∧ ws.length ≤ 100 ∧ D0[a]? = some (.lst (us.map MV.str)) ∧ (∀ w ∈ us, Wd w) ∧
      ∀ D', Fr none D0 D' → D'[D0.length]? = some (.lst ((ws.filter fun w => decide (w ∈ us)).map MV.str)) → P (.ref D0.length) D') :
    Ev (eLc (wSeq m) (gN x) (bTest (eOp pIn (eVar x) (eVar o))) (eVar x) [x] ρ D) P := by
  obtain ⟨v, D0, e0, j, ws, rfl, hj, wd, hz, ha, wu, fin⟩ := hm.get
  refine lc_map (S := none) (α := Str) (β := Str) (fun v w => v = MV.str w) (fun _ v w => v = MV.str w) (kept us) (fun _ _ _ _ h _ _ => h) (fun _ _ _ _ _ _ _ h => h) ?_
  rw [e0, ev_ok]
  refine ⟨j, ws.map MV.str, ws, rfl, rdL_lst hj, out_none, strs_rel ws, by rw [List.length_map]; omega, ok_none, ?_, ?_⟩
  · rintro v w D' rfl hv f _
    have hw' : w ∈ ws := by
      obtain ⟨z, hz, e⟩ := List.mem_map.mp hv
      cases e
      exact hz
    refine ⟨(wipeM ρ [x]).set x (some (.str w)), rfl, hw _, ?_⟩
    rw [ev_test, ev_op, ev_var (gx _), ev_var (go _), ev_in (in_words (wd w hw') (f.at ha out_none) wu), ev_bl]
    refine ⟨Fr.refl _ _, ok_none, ?_, fun hc => ?_⟩
    · unfold kept
      by_cases q : w ∈ us
      · rw [if_pos q, decide_eq_true q]; rfl
      · rw [if_neg q, decide_eq_false q]; rfl
    · rw [ev_var (gx _)]
      refine ⟨Fr.refl _ _, ok_none, w, ?_, rfl⟩
      unfold kept
      rw [if_pos (of_decide_eq_true hc)]
  · intro ys D' f _ hy hrel
    rw [kept_all] at hrel
    have e2 := strs_of hrel
    subst e2
    exact fin D' f hy
end
def b_someOf : SM :=
  sRet (eLc (wSeq (eVar 1)) (gN 2) (bTest (eOp pEqA (eCall d_pick (aCons (eVar 0) (aCons (eC (.int 2)) (aNil)))) (eC (.int 0)))) (eVar 2) [2])
def d_someOf : List MV → Sto → Re MV := runB 3 b_someOf
theorem someOf_ok {s c L : Nat} {D : Sto} {ws : List Str} {P : MV → Sto → Prop} (sk : SrcOk D s c) (hL : LAt s c D L (ws.map MV.str)) (hz : ws.length ≤ 100)
    (k : ∀ (us : List Str) D', Fr (some (s, c)) D D' → SrcOk D' s c → us.Sublist ws → LAt s c D' D.length (us.map MV.str) → P (.ref D.length) D') : Ev (d_someOf [.ref s, .ref L] D) P := by
  refine ev_run ?_
  show EvS (b_someOf [some (.ref s), some (.ref L), none] D) _ _
  unfold b_someOf
  rw [evS_ret]
  refine lc_sub (S := some (s, c)) (α := Str) (fun v w => v = MV.str w) (fun _ v w => v = MV.str w) (fun _ _ _ _ h _ _ => h) (fun _ _ _ _ _ _ _ h => h) ?_
  rw [ev_v1]
  refine ⟨L, ws.map MV.str, ws, rfl, rdL_lst hL.at_, out_some hL.ns hL.nc, strs_rel ws, by rw [List.length_map]; omega, ok_some sk, ?_, ?_⟩
  · rintro v w D2 rfl _ f2 k2
    have sk2 : SrcOk D2 s c := k2 (s, c) rfl
    refine ⟨[some (.ref s), some (.ref L), some (.str w)], rfl, rfl, ?_⟩
    rw [ev_test, ev_op, ev_call, ev_cons, ev_v0, ev_cons, ev_c, ev_nil]
    refine pick_ok (many := 2) sk2 (by omega) (by omega) fun r D3 hr sk3 o3 => ?_
    rw [ev_c, ev_eqI, ev_bl]
    refine ⟨Fr.only o3 sk3, ok_some sk3, fun _ => ?_⟩
    rw [ev_v2]
    exact ⟨Fr.refl _ _, ok_some sk3, rfl⟩
  · intro ys bs D2 f2 k2 hys hbs hrel
    have e := strs_of hrel
    subst e
    have n1 := new_ne sk
    exact k bs D2 f2 (k2 (s, c) rfl) hbs ⟨hys, n1.1, n1.2⟩
end Mp

set_option Elab.async false
set_option linter.all false
set_option maxRecDepth 10000
namespace Mp
open PySem L2

def b_partOf : SM :=
  sSeq (sFor (wSeq (eVar 1)) (gN 3) (sDrop (eCall d_known (aCons (eVar 3) (aCons (eMeth "Table" "stems" d_stems (eVar 0) aNil) (aNil))))))
  (sSeq (sFor (wSeq (eVar 2)) (gN 4) (sDrop (eCall d_known (aCons (eVar 4) (aCons (eMeth "Table" "places" d_places (eVar 0) aNil) (aNil))))))
  (sRet (eMake "Table" d_init (aCons (eLc (wSeq (eMeth "Table" "stems" d_stems (eVar 0) aNil)) (gN 3) (bTest (eOp pIn (eVar 3) (eVar 1))) (eVar 3) [3]) (aCons (eLc (wSeq (eMeth "Table" "places" d_places (eVar 0) aNil)) (gN 4) (bTest (eOp pIn (eVar 4) (eVar 2))) (eVar 4) [4]) (aCons (eLc (wSeq (eMeth "Table" "fits" d_fits (eVar 0) aNil)) (gN 5) (bAnd (bTest (eOp pIn (eOp pIx (eVar 5) (eC (.int 0))) (eVar 1))) (bTest (eOp pIn (eOp pIx (eVar 5) (eC (.int 1))) (eVar 2)))) (eVar 5) [5]) (aNil)))))))
def d_partOf : List MV → Sto → Re MV := runB 6 b_partOf
def cutF (us vs : List Str) (oo : List (Str × Str)) : List (Str × Str) := oo.filter fun p => decide (p.1 ∈ us) && decide (p.2 ∈ vs)
def cutW (us ws : List Str) : List Str := ws.filter fun w => decide (w ∈ us)
def keptP (us vs : List Str) (p : Str × Str) : Option (Str × Str) := if (decide (p.1 ∈ us) && decide (p.2 ∈ vs)) = true then some p else none
theorem keptP_all {us vs : List Str} : ∀ oo : List (Str × Str), oo.filterMap (keptP us vs) = cutF us vs oo
  | [] => rfl
  | p :: r => by
    have ih := keptP_all (us := us) (vs := vs) r
    unfold cutF at ih ⊢
    rw [List.filterMap_cons, List.filter_cons]
    unfold keptP at ih ⊢
    by_cases q : (decide (p.1 ∈ us) && decide (p.2 ∈ vs)) = true
    · rw [if_pos q, if_pos q]
      exact congrArg _ ih
    · rw [if_neg q, if_neg q]
      exact ih
section
variable {D : Sto} {P : MV → Sto → Prop} {i a b : Nat} {ss pp us vs : List Str} {oo : List (Str × Str)}
theorem Good.cut (g : Good ss pp oo) : Good (cutW us ss) (cutW vs pp) (cutF us vs oo) := by
  refine ⟨fun w hw => g.sw w (List.mem_filter.mp hw).1, fun w hw => g.pw w (List.mem_filter.mp hw).1, g.sn.sublist List.filter_sublist, g.pn.sublist List.filter_sublist, g.fn.sublist List.filter_sublist, fun p hp => ?_, Nat.le_trans (List.length_filter_le _ _) g.sz, Nat.le_trans (List.length_filter_le _ _) g.pz, Nat.le_trans (List.length_filter_le _ _) g.fz⟩
  obtain ⟨h1, h2⟩ := List.mem_filter.mp hp
  rw [Bool.and_eq_true, decide_eq_true_eq, decide_eq_true_eq] at h2
  obtain ⟨m1, m2⟩ := g.fi p h1
  exact ⟨List.mem_filter.mpr ⟨m1, decide_eq_true h2.1⟩, List.mem_filter.mpr ⟨m2, decide_eq_true h2.2⟩⟩
theorem TblC.ins (h : TblC D i ss pp oo) : ∃ fs, D[i]? = some (.ins "Table" fs) ∧ fs.lookup ("places" : Str) = none ∧ fs.lookup ("stems" : Str) = none ∧ fs.lookup ("fits" : Str) = none := by
  obtain ⟨a, b, e, bs, bp, vf, h1, _⟩ := h.ex
  exact ⟨_, h1, rfl, rfl, rfl⟩
/-- the pairs whose words are both kept -/
theorem cutFits_ok {m : EM} {o x y z : Option MV} (hm : Ev (m [o, some (.ref a), some (.ref b), x, y, z] D) fun v D0 => ∃ (j : Nat) (vf : List MV), v = .ref j ∧ D0[j]? = some (.lst vf) ∧ PairsAt D0 vf oo ∧ oo.length ≤ 10000 ∧ (∀ p ∈ oo, Wd p.1 ∧ Wd p.2) ∧ D0[a]? = some (.lst (us.map MV.str)) ∧ D0[b]? = some (.lst (vs.map MV.str)) ∧ (∀ w ∈ us, Wd w) ∧ (∀ w ∈ vs, Wd w) ∧
      ∀ ys D', Fr none D0 D' → D'[D0.length]? = some (.lst ys) → PairsAt D' ys (cutF us vs oo) → P (.ref D0.length) D') :
    Ev (eLc (wSeq m) (gN 5) (bAnd (bTest (eOp pIn (eOp pIx (eVar 5) (eC (.int 0))) (eVar 1))) (bTest (eOp pIn (eOp pIx (eVar 5) (eC (.int 1))) (eVar 2)))) (eVar 5) [5] [o, some (.ref a), some (.ref b), x, y, z] D) P := by
  obtain ⟨v, D0, e0, j, vf, rfl, hj, hp, hz, wd, ha, hb, wu, wv, fin⟩ := hm.get
  refine lc_map (S := none) (α := Str × Str) (β := Str × Str) (fun v p => PairAt D0 v p ∧ p ∈ oo) PairAt (keptP us vs) (fun _ _ _ _ h f _ => PairAt.fr (S := none) h f) (fun _ _ _ _ _ _ e h => PairAt.set e h) ?_
  rw [e0, ev_ok]
  refine ⟨j, vf, oo, rfl, rdL_lst hj, out_none, ?_, by rw [Pd.len hp]; omega, ok_none, ?_, ?_⟩
  · refine Pd.of_get (Pd.len hp) fun n v p e1 e2 => ?_
    obtain ⟨p', e3, r⟩ := Pd.get hp e1
    rw [e2] at e3
    cases e3
    exact ⟨r, List.mem_of_getElem? e2⟩
  · rintro v p D' ⟨hv, hpo⟩ _ f _
    have hv' : PairAt D' v p := PairAt.fr (S := none) hv f
    obtain ⟨w1, w2⟩ := wd p hpo
    have i1 := in_words w1 (f.at ha out_none) wu
    have i2 := in_words w2 (f.at hb out_none) wv
    refine ⟨[o, some (.ref a), some (.ref b), x, y, some v], rfl, rfl, ?_⟩
    have out : Ev (eVar 5 [o, some (.ref a), some (.ref b), x, y, some v] D') fun y D3 => Fr none D' D3 ∧ OkS none D3 ∧ PairAt D3 y p := by
      rw [ev_var (i := 5) rfl]
      exact ⟨Fr.refl _ _, ok_none, hv'⟩
    rw [ev_and, ev_test, ev_op, ev_op, ev_var (i := 5) rfl, ev_c, ev_pair0 hv', ev_v1, ev_in i1, ev_bl]
    by_cases q1 : p.1 ∈ us
    · rw [decide_eq_true q1, if_pos rfl, ev_test, ev_op, ev_op, ev_var (i := 5) rfl, ev_c, ev_pair1 hv', ev_v2, ev_in i2, ev_bl]
      by_cases q2 : p.2 ∈ vs
      · have e : keptP us vs p = some p := by
          unfold keptP
          rw [decide_eq_true q1, decide_eq_true q2]
          rfl
        rw [decide_eq_true q2, e]
        exact ⟨Fr.refl _ _, ok_none, rfl, fun _ => out.imp fun y D3 ⟨h1, h2, h3⟩ => ⟨h1, h2, p, rfl, h3⟩⟩
      · have e : keptP us vs p = none := by
          unfold keptP
          rw [decide_eq_true q1, decide_eq_false q2]
          rfl
        rw [decide_eq_false q2, e]
        exact ⟨Fr.refl _ _, ok_none, rfl, fun z => by cases z⟩
    · have e : keptP us vs p = none := by
        unfold keptP
        rw [decide_eq_false q1]
        rfl
      rw [decide_eq_false q1, if_neg (by decide), e]
      exact ⟨Fr.refl _ _, ok_none, rfl, fun z => by cases z⟩
  · intro ys D' f _ hy hrel
    rw [keptP_all] at hrel
    exact fin ys D' f hy hrel
theorem partOf_ok (h : TblC D i ss pp oo) (ha : D[a]? = some (.lst (us.map MV.str))) (hb : D[b]? = some (.lst (vs.map MV.str))) (hu : ∀ w ∈ us, w ∈ ss) (hv : ∀ w ∈ vs, w ∈ pp)
    (k : ∀ j D', Fr none D D' → D.length ≤ j → TblAt D' j (cutW us ss) (cutW vs pp) (prodF (cutW us ss) (cutW vs pp) (cutF us vs oo)) → P (.ref j) D') : Ev (d_partOf [.ref i, .ref a, .ref b] D) P := by
  have g := h.good
  have wss : ∀ w ∈ ss, Wd w := fun w hw => isW_wd (g.sw w hw)
  have wpp : ∀ w ∈ pp, Wd w := fun w hw => isW_wd (g.pw w hw)
  have wus : ∀ w ∈ us, Wd w := fun w hw => wss w (hu w hw)
  have wvs : ∀ w ∈ vs, Wd w := fun w hw => wpp w (hv w hw)
  refine ev_run ?_
  show EvS (b_partOf [some (.ref i), some (.ref a), some (.ref b), none, none, none] D) _ _
  unfold b_partOf
  rw [evS_seq, evS_for]
  refine ev_seqL (j := a) (xs := us.map MV.str) ?_
  rw [ev_v1]
  refine ⟨rfl, rdL_lst ha, ?_⟩
  dsimp only
  refine for_ok (fun n ρ D' => Fr none D D' ∧ ∃ x, ρ = [some (.ref i), some (.ref a), some (.ref b), x, none, none]) _ 0 _ _ ⟨Fr.refl _ _, none, rfl⟩ ?_ ?_
  · rintro n ρ D1 hn0 hn ⟨fr, x, rfl⟩
    have hn' : n < us.length := by simpa using hn
    refine ⟨decide_eq_true (rdL_lst (fr.at ha out_none)), .str us[n], D1, [some (.ref i), some (.ref a), some (.ref b), some (.str us[n]), none, none], ?_, rfl, ?_⟩
    · dsimp only
      unfold seqItem
      simp [hn']
    rw [evS_drop, ev_call, ev_cons, ev_v3, ev_cons]
    obtain ⟨fs, i1, _, n1, _⟩ := (h.fr fr).ins
    refine ev_meth0 (by rw [ev_v0]; exact ⟨rfl, rfl⟩) i1 n1 ?_
    refine stemsC_ok (h.fr fr) fun D2 f2 g2 => ?_
    rw [ev_nil]
    refine known_l g2 wss (hu _ (List.getElem_mem hn')) ?_
    exact ⟨fr.trans f2, _, rfl⟩
  · rintro ρ D1 ⟨fr1, x, rfl⟩
    refine ⟨decide_eq_true (rdL_lst (fr1.at ha out_none)), ?_⟩
    show EvS (sSeq _ _ [some (.ref i), some (.ref a), some (.ref b), x, none, none] D1) _ _
    rw [evS_seq, evS_for]
    refine ev_seqL (j := b) (xs := vs.map MV.str) ?_
    rw [ev_v2]
    refine ⟨rfl, rdL_lst (fr1.at hb out_none), ?_⟩
    dsimp only
    refine for_ok (fun n ρ D' => Fr none D D' ∧ ∃ y, ρ = [some (.ref i), some (.ref a), some (.ref b), x, y, none]) _ 0 _ _ ⟨fr1, none, rfl⟩ ?_ ?_
    · rintro n ρ D1 hn0 hn ⟨fr, y, rfl⟩
      have hn' : n < vs.length := by simpa using hn
      refine ⟨decide_eq_true (rdL_lst (fr.at hb out_none)), .str vs[n], D1, [some (.ref i), some (.ref a), some (.ref b), x, some (.str vs[n]), none], ?_, rfl, ?_⟩
      · dsimp only
        unfold seqItem
        simp [hn']
      rw [evS_drop, ev_call, ev_cons, ev_var (i := 4) rfl, ev_cons]
      obtain ⟨fs, i1, n1, _, _⟩ := (h.fr fr).ins
      refine ev_meth0 (by rw [ev_v0]; exact ⟨rfl, rfl⟩) i1 n1 ?_
      refine placesC_ok (h.fr fr) fun D2 f2 g2 => ?_
      rw [ev_nil]
      refine known_l g2 wpp (hv _ (List.getElem_mem hn')) ?_
      exact ⟨fr.trans f2, _, rfl⟩
    · rintro ρ D1 ⟨fr, y, rfl⟩
      refine ⟨decide_eq_true (rdL_lst (fr.at hb out_none)), ?_⟩
      show EvS (sRet _ [some (.ref i), some (.ref a), some (.ref b), x, y, none] D1) _ _
      rw [evS_ret]
      refine make_ok ?_
      have h1 := h.fr fr
      rw [ev_cons]
      refine keep_ok (us := us) (a := a) (fun _ => rfl) (fun _ => rfl) (fun _ => rfl) ?_
      obtain ⟨fs, i1, _, n1, _⟩ := h1.ins
      refine ev_meth0 (by rw [ev_v0]; exact ⟨rfl, rfl⟩) i1 n1 ?_
      refine stemsC_ok h1 fun D2 f2 g2 => ?_
      have fr2 := fr.trans f2
      refine ⟨_, ss, rfl, g2, wss, g.sz, fr2.at ha out_none, wus, fun D3 f3 g3 => ?_⟩
      have fr3 := fr2.trans f3
      have h3 := h.fr fr3
      rw [ev_cons]
      refine keep_ok (us := vs) (a := b) (fun _ => rfl) (fun _ => rfl) (fun _ => rfl) ?_
      obtain ⟨fs, i3, n3, _, _⟩ := h3.ins
      refine ev_meth0 (by rw [ev_v0]; exact ⟨rfl, rfl⟩) i3 n3 ?_
      refine placesC_ok h3 fun D4 f4 g4 => ?_
      have fr4 := fr3.trans f4
      refine ⟨_, pp, rfl, g4, wpp, g.pz, fr4.at hb out_none, wvs, fun D5 f5 g5 => ?_⟩
      have fr5 := fr4.trans f5
      have h5 := h.fr fr5
      rw [ev_cons]
      obtain ⟨fs, i5, _, _, n5⟩ := h5.ins
      refine cutFits_ok (us := us) (vs := vs) (oo := oo) ?_
      refine ev_meth0 (by rw [ev_v0]; exact ⟨rfl, rfl⟩) i5 n5 ?_
      refine fitsC_ok h5 fun vf D6 f6 g6 p6 => ?_
      have fr6 := fr5.trans f6
      refine ⟨_, vf, rfl, g6, p6, g.fz, g.wd, fr6.at ha out_none, fr6.at hb out_none, wus, wvs, fun ys D7 f7 g7 p7 => ?_⟩
      rw [ev_nil]
      have fr7 := fr6.trans f7
      have f37 := ((f4.trans f5).trans f6).trans f7
      have f57 := f6.trans f7
      refine ⟨_, _, _, ys, cutW us ss, cutW vs pp, cutF us vs oo, rfl, f37.at g3 out_none, f57.at g5 out_none, g7, p7, g.cut, fun D' fz tb => ?_⟩
      exact k _ D' (fr7.trans fz) fr7.le tb
end
end Mp

set_option Elab.async false
set_option linter.all false
set_option maxRecDepth 10000
namespace Mp
open PySem L2

theorem prodF_congr {ss pp : List Str} {ff gg : List (Str × Str)} (h : ∀ p : Str × Str, p.1 ∈ ss → p.2 ∈ pp → (p ∈ ff ↔ p ∈ gg)) : prodF ss pp ff = prodF ss pp gg := by
  have row : ∀ w ∈ ss, fitRow pp ff w = fitRow pp gg w := fun w hw => by
    unfold fitRow
    congr 1
    refine List.filter_congr fun v hv => ?_
    exact decide_eq_decide.mpr (h (w, v) hw hv)
  unfold prodF
  clear h
  induction ss with
  | nil => rfl
  | cons w r ih =>
    rw [List.flatMap_cons, List.flatMap_cons, row w List.mem_cons_self, ih fun x hx => row x (List.mem_cons_of_mem _ hx)]
/-- a product of a product is the product -/
theorem prodF_self {ss pp : List Str} {ff : List (Str × Str)} : prodF ss pp (prodF ss pp ff) = prodF ss pp ff :=
  prodF_congr fun p h1 h2 => by
    rw [prodF_mem]
    exact ⟨fun h => h.2.2, fun h => ⟨h1, h2, h⟩⟩
theorem prodF_turn {ss pp : List Str} {ff : List (Str × Str)} : prodF pp ss ((prodF ss pp ff).map swp) = prodF pp ss (ff.map swp) :=
  prodF_congr fun p h1 h2 => by
    rw [sw_mem, sw_mem, prodF_mem]
    exact ⟨fun h => h.2.2, fun h => ⟨h2, h1, h⟩⟩
theorem prodF_turn2 {ss pp : List Str} {ff : List (Str × Str)} : prodF ss pp ((prodF pp ss (ff.map swp)).map swp) = prodF ss pp ff :=
  prodF_congr fun p h1 h2 => by
    rw [sw_mem, prodF_mem, sw_mem]
    exact ⟨fun h => h.2.2, fun h => ⟨h2, h1, h⟩⟩
/-- turning a part, and a part of what is turned -/
theorem prodF_part {ss pp us vs : List Str} {ff : List (Str × Str)} :
    prodF (cutW vs pp) (cutW us ss) ((prodF (cutW us ss) (cutW vs pp) (cutF us vs (prodF ss pp ff))).map swp) = prodF (cutW vs pp) (cutW us ss) (cutF vs us (prodF pp ss (ff.map swp))) :=
  prodF_congr fun p h1 h2 => by
    obtain ⟨m1, n1⟩ := List.mem_filter.mp h1
    obtain ⟨m2, n2⟩ := List.mem_filter.mp h2
    have e1 := of_decide_eq_true n1
    have e2 := of_decide_eq_true n2
    rw [sw_mem, prodF_mem]
    unfold cutF
    rw [List.mem_filter, List.mem_filter, prodF_mem, prodF_mem, sw_mem]
    constructor
    · rintro ⟨_, _, ⟨_, _, h⟩, _⟩
      exact ⟨⟨m1, m2, h⟩, by simp [e1, e2]⟩
    · rintro ⟨⟨_, _, h⟩, _⟩
      exact ⟨h2, h1, ⟨m2, m1, h⟩, by
        show (decide (p.2 ∈ us) && decide (p.1 ∈ vs)) = true
        simp [e1, e2]⟩
theorem fitRow_own {pp : List Str} {ff : List (Str × Str)} {w : Str} : ((fitRow pp ff w).filter fun p => decide (p.1 = w)) = fitRow pp ff w :=
  List.filter_eq_self.mpr fun p hp => decide_eq_true (fitRow_mem.mp hp).1
theorem fitRow_not {pp : List Str} {ff : List (Str × Str)} {w x : Str} (h : x ≠ w) : ((fitRow pp ff x).filter fun p => decide (p.1 = w)) = [] :=
  List.filter_eq_nil_iff.mpr fun p hp => by
    have := (fitRow_mem.mp hp).1
    simp [this, h]
theorem row_first {pp : List Str} {ff : List (Str × Str)} {w : Str} : ∀ {ss : List Str}, ss.Nodup → w ∈ ss → ((prodF ss pp ff).filter fun p => decide (p.1 = w)) = fitRow pp ff w
  | [], _, h => by cases h
  | x :: r, hn, h => by
    obtain ⟨n1, n2⟩ := List.nodup_cons.mp hn
    have none_ : ∀ {r : List Str}, w ∉ r → ((prodF r pp ff).filter fun p => decide (p.1 = w)) = [] := fun {r} hr => List.filter_eq_nil_iff.mpr fun p hp => by
      have h1 := (prodF_mem.mp hp).1
      have : p.1 ≠ w := fun e => hr (e ▸ h1)
      simp [this]
    unfold prodF
    rw [List.flatMap_cons, List.filter_append]
    by_cases q : x = w
    · subst q
      rw [fitRow_own, show ((r.flatMap (fitRow pp ff)).filter fun p => decide (p.1 = x)) = [] from none_ n1, List.append_nil]
    · rw [fitRow_not q, List.nil_append]
      exact row_first n2 ((List.mem_cons.mp h).resolve_left fun e => q e.symm)
/-- the places of a stem -/
theorem rowS_prod {ss pp : List Str} {ff : List (Str × Str)} {w : Str} (hn : ss.Nodup) (hw : w ∈ ss) : rowS (prodF ss pp ff) w = (pp.filter fun v => decide ((w, v) ∈ ff)).map MV.str := by
  rw [row_words, row_first hn hw]
  unfold fitRow
  rw [List.map_map, List.map_map]
  rfl
theorem col_one {pp : List Str} {ff : List (Str × Str)} {v w : Str} (hn : pp.Nodup) (hv : v ∈ pp) : ((fitRow pp ff w).filter fun p => decide (p.2 = v)) = if (w, v) ∈ ff then [(w, v)] else [] := by
  unfold fitRow
  induction pp with
  | nil => cases hv
  | cons x r ih =>
    obtain ⟨n1, n2⟩ := List.nodup_cons.mp hn
    by_cases q : x = v
    · subst q
      have e : (((r.filter fun u => decide ((w, u) ∈ ff)).map fun u => (w, u)).filter fun p => decide (p.2 = x)) = [] := List.filter_eq_nil_iff.mpr fun p hp => by
        obtain ⟨u, hu, rfl⟩ := List.mem_map.mp hp
        have : u ≠ x := fun e => n1 (e ▸ (List.mem_filter.mp hu).1)
        simp [this]
      by_cases c : (w, x) ∈ ff
      · rw [List.filter_cons, if_pos (decide_eq_true c), List.map_cons, List.filter_cons, if_pos (by simp), e, if_pos c]
      · rw [List.filter_cons, if_neg (by simp [c]), e, if_neg c]
    · have hv' := (List.mem_cons.mp hv).resolve_left fun e => q e.symm
      have ih' := ih n2 hv'
      by_cases c : (w, x) ∈ ff
      · rw [List.filter_cons, if_pos (decide_eq_true c), List.map_cons, List.filter_cons, if_neg (by simp [q])]
        exact ih'
      · rw [List.filter_cons, if_neg (by simp [c])]
        exact ih'
/-- the stems of a place -/
theorem rowP_prod {pp : List Str} {ff : List (Str × Str)} {v : Str} (hn : pp.Nodup) (hv : v ∈ pp) : ∀ {ss : List Str}, rowP (prodF ss pp ff) v = (ss.filter fun w => decide ((w, v) ∈ ff)).map MV.str
  | [] => rfl
  | w :: r => by
    have ih := rowP_prod (ff := ff) hn hv (ss := r)
    rw [rowP_words] at ih ⊢
    unfold prodF at ih ⊢
    rw [List.flatMap_cons, List.filter_append, List.map_append, List.map_append, ih, col_one hn hv, List.filter_cons]
    by_cases c : (w, v) ∈ ff
    · rw [if_pos c, if_pos (decide_eq_true c)]
      rfl
    · rw [if_neg c, if_neg (by simp [c])]
      rfl
end Mp

set_option Elab.async false
set_option linter.all false
set_option maxRecDepth 10000
namespace Mp
open PySem L2

/-! ### repr of a table's lists -/
section
variable {α : Type} {g : α → PyData}
theorem weight_all {k : Nat} : ∀ {xs : List α}, (∀ x ∈ xs, (g x).weight ≤ k) → PyData.weightAll (xs.map g) ≤ (k + 1) * xs.length
  | [], _ => by simp [PyData.weightAll]
  | x :: xs, h => by
    have h1 := h x List.mem_cons_self
    have h2 := weight_all fun y hy => h y (List.mem_cons_of_mem x hy)
    rw [List.map_cons, PyData.weightAll.eq_2, List.length_cons, Nat.mul_add]
    omega
theorem show_all : ∀ {xs : List α}, (∀ x ∈ xs, (g x).showable = true) → PyData.showableAll (xs.map g) = true
  | [], _ => by simp [PyData.showableAll]
  | x :: xs, h => by
    rw [List.map_cons, PyData.showableAll.eq_2, h x List.mem_cons_self, show_all fun y hy => h y (List.mem_cons_of_mem x hy)]
    rfl
theorem ints_all {B : Nat} : ∀ {xs : List α}, (∀ x ∈ xs, PyData.intsShort B (g x) = true) → PyData.intsShortAll B (xs.map g) = true
  | [], _ => by simp [PyData.intsShortAll]
  | x :: xs, h => by
    rw [List.map_cons]
    unfold PyData.intsShortAll
    rw [h x List.mem_cons_self, ints_all fun y hy => h y (List.mem_cons_of_mem x hy)]
    rfl
end
theorem okShown_of {xs : List PyData} (h1 : PyData.canLayAll0 xs = true) (h2 : PyData.intsShortAll 13 xs = true) (h3 : PyData.showableAll xs = true) (h4 : PyData.depthAll xs ≤ 60) (h5 : PyData.weightAll xs ≤ 1000000) : okShown (.list xs) = true := by
  unfold okShown
  have e1 : (PyData.list xs).showable = true := by rw [PyData.showable.eq_5]; exact h3
  have e2 : (PyData.list xs).hasDict = false := by rw [PyData.hasDict.eq_5]; exact PyData.hasDictAll_of_canLayAll xs h1
  have e3 : (PyData.list xs).depth < 100 := by
    unfold PyData.depth
    omega
  have e4 : (PyData.list xs).shown.length ≤ sizeLine := by
    have w : (PyData.list xs).weight = PyData.weightAll xs := by simp [PyData.weight]
    have := PyData.shown_le 13 (by omega) (.list xs) (PyData.leavesShort_of_canLay0 13 (.list xs) (by simp [PyData.canLay0, h1]) (by simp [PyData.intsShort, h2]))
    rw [w] at this
    exact sz_le (by omega)
  rw [e1, e2, decide_eq_true e3, decide_eq_true e4]
  rfl
theorem isW_len {w : Str} (h : IsW w) : w.cps.size ≤ 12 := by
  obtain ⟨a, r, e, _, _, h3, _⟩ := h
  have : w.cps.toList.length = r.length + 1 := by rw [e]; rfl
  rw [Array.length_toList] at this
  omega
theorem w_word {w : Str} (h : IsW w) : (pdS w).weight ≤ 12 := by
  have := isW_len h
  simp [pdS, PyData.weight]
  exact this
theorem w_pair {p : Str × Str} (h1 : IsW p.1) (h2 : IsW p.2) : (pdP p).weight ≤ 26 := by
  have := isW_len h1
  have := isW_len h2
  simp [pdP, PyData.weight, PyData.weightAll]
  omega
/-- the three lists that a table tells -/
theorem okTold {ss pp : List Str} {oo : List (Str × Str)} (g : Good ss pp oo) : okShown (.list [.list (ss.map pdS), .list (pp.map pdS), .list (oo.map pdP)]) = true := by
  have a1 : ∀ x : Str, (pdS x).showable = true := fun x => by simp [pdS, PyData.showable]
  have a2 : ∀ x : Str × Str, (pdP x).showable = true := fun x => by simp [pdP, PyData.showable, PyData.showableAll]
  have b1 : ∀ x : Str, PyData.intsShort 13 (pdS x) = true := fun x => by simp [pdS, PyData.intsShort]
  have b2 : ∀ x : Str × Str, PyData.intsShort 13 (pdP x) = true := fun x => by simp [pdP, PyData.intsShort, PyData.intsShortAll]
  have c1 : PyData.canLayAll0 (ss.map pdS) = true := lay_all fun x hx => by simp [pdS, PyData.canLay0, isW_wd (g.sw x hx)]
  have c2 : PyData.canLayAll0 (pp.map pdS) = true := lay_all fun x hx => by simp [pdS, PyData.canLay0, isW_wd (g.pw x hx)]
  have c3 : PyData.canLayAll0 (oo.map pdP) = true := lay_all fun x hx => lay_pair (g.wd x hx).1 (g.wd x hx).2
  have d1 : PyData.depthAll (ss.map pdS) ≤ 1 := depth_all fun x _ => by simp [pdS, PyData.depth]
  have d2 : PyData.depthAll (pp.map pdS) ≤ 1 := depth_all fun x _ => by simp [pdS, PyData.depth]
  have d3 : PyData.depthAll (oo.map pdP) ≤ 1 := depth_all fun x _ => depth_pair
  have w1 := weight_all (g := pdS) (k := 12) fun x hx => w_word (g.sw x hx)
  have w2 := weight_all (g := pdS) (k := 12) fun x hx => w_word (g.pw x hx)
  have w3 := weight_all (g := pdP) (k := 26) fun x hx => w_pair (g.sw _ (g.fi x hx).1) (g.pw _ (g.fi x hx).2)
  have z1 := g.sz
  have z2 := g.pz
  have z3 := g.fz
  refine okShown_of ?_ ?_ ?_ ?_ ?_
  · simp [PyData.canLayAll0, PyData.canLay0, c1, c2, c3]
  · simp [PyData.intsShortAll, PyData.intsShort, ints_all (xs := ss) fun x _ => b1 x, ints_all (xs := pp) fun x _ => b1 x, ints_all (xs := oo) fun x _ => b2 x]
  · simp [PyData.showableAll, PyData.showable, show_all (xs := ss) fun x _ => a1 x, show_all (xs := pp) fun x _ => a1 x, show_all (xs := oo) fun x _ => a2 x]
  · simp [PyData.depthAll, PyData.depth]
    omega
  · simp [PyData.weightAll, PyData.weight]
    omega
end Mp

set_option Elab.async false
set_option linter.all false
set_option maxRecDepth 10000
namespace Mp
open PySem L2

def toldD (ss pp : List Str) (oo : List (Str × Str)) : PyData := .list [.list (ss.map pdS), .list (pp.map pdS), .list (oo.map pdP)]
section
variable {D : Sto} {P : MV → Sto → Prop} {j a b f : Nat} {vs : List MV} {ss pp : List Str} {oo : List (Str × Str)}
theorem rd_told (h : D[j]? = some (.lst [.ref a, .ref b, .ref f])) (ha : D[a]? = some (.lst (ss.map MV.str))) (hb : D[b]? = some (.lst (pp.map MV.str))) (hf : D[f]? = some (.lst vs)) (pf : PairsAt D vs oo) : rdD 65 D (.ref j) = some (toldD ss pp oo) := by
  have e1 : rdD 64 D (.ref a) = some (.list (ss.map pdS)) := rdD_words (n := 63) ha
  have e2 : rdD 64 D (.ref b) = some (.list (pp.map pdS)) := rdD_words (n := 63) hb
  have e3 : rdD 64 D (.ref f) = some (.list (oo.map pdP)) := rdD_pairs (n := 62) hf pf
  unfold rdD
  dsimp only
  rw [h]
  dsimp only
  rw [List.mapM_cons, e1, List.mapM_cons, e2, List.mapM_cons, e3]
  rfl
theorem ev_repr {d : PyData} (h : rdD 65 D (.ref j) = some d) (o : okShown d = true) : Ev (f1 reprM [.ref j] D) P = P (.str d.shown) D := by
  rw [ev_f1]
  unfold reprM
  dsimp only
  rw [h]
  dsimp only [Option.bind]
  rw [if_pos o]
  simp
theorem rd_bools {bs : List Bool} (h : D[j]? = some (.lst (bs.map MV.bl))) : rdD 65 D (.ref j) = some (.list (bs.map PyData.bool)) := by
  rw [rdD_lst (n := 64) (g := fun v => (atomD v).getD .none) h (fun x hx => by
    obtain ⟨w, _, rfl⟩ := List.mem_map.mp hx
    rw [rdD_bl]
    rfl), List.map_map]
  rfl
theorem okBools {bs : List Bool} (h : bs.length ≤ 100) : okShown (.list (bs.map PyData.bool)) = true := by
  have w := weight_all (g := PyData.bool) (k := 1) (xs := bs) fun x _ => by cases x <;> simp [PyData.weight]
  refine okShown_of (lay_all fun x _ => by simp [PyData.canLay0]) (ints_all fun x _ => by simp [PyData.intsShort]) (show_all fun x _ => by simp [PyData.showable]) (Nat.le_trans (depth_all (k := 0) fun x _ => by simp [PyData.depth]) (by omega)) (by omega)
theorem ev_neS {x : Str} : Ev (pNeA (.str x) (.str x) D) P = P (.bl false) D := by
  unfold pNeA
  dsimp only
  rw [ev_ok, decide_eq_true rfl]
  rfl
theorem ev_eqS {x : Str} : Ev (pEqA (.str x) (.str x) D) P = P (.bl true) D := by
  unfold pEqA
  dsimp only
  rw [ev_ok, decide_eq_true rfl]
end
end Mp

set_option Elab.async false
set_option linter.all false
set_option maxRecDepth 10000
namespace Mp
open PySem L2

section
variable {D : Sto} {P : MV → Sto → Prop} {i : Nat} {ss pp : List Str} {oo : List (Str × Str)} {ρ : Rho}
/-- the three lists that a made table tells, in a list -/
theorem tell3_ok {x : Nat} (hx : ρ[x]? = some (some (.ref i))) (h : TblC D i ss pp oo)
    (k : ∀ a b f j vs D', Fr none D D' → D.length ≤ a → a < b → b < f → f < j → D'[j]? = some (.lst [.ref a, .ref b, .ref f]) → D'[a]? = some (.lst (ss.map MV.str)) → D'[b]? = some (.lst (pp.map MV.str)) → D'[f]? = some (.lst vs) → PairsAt D' vs oo → P (.ref j) D') :
    Ev (eLst (aCons (eMeth "Table" "stems" d_stems (eVar x) aNil) (aCons (eMeth "Table" "places" d_places (eVar x) aNil) (aCons (eMeth "Table" "fits" d_fits (eVar x) aNil) aNil))) ρ D) P := by
  rw [ev_lst, ev_cons]
  obtain ⟨fs, i1, _, n1, _⟩ := h.ins
  refine ev_meth0 (by rw [ev_var hx]; exact ⟨rfl, rfl⟩) i1 n1 ?_
  refine stemsC_ok h fun D1 f1 g1 => ?_
  have h1 := h.fr f1
  rw [ev_cons]
  obtain ⟨fs, i2, n2, _, _⟩ := h1.ins
  refine ev_meth0 (by rw [ev_var hx]; exact ⟨rfl, rfl⟩) i2 n2 ?_
  refine placesC_ok h1 fun D2 f2 g2 => ?_
  have h2 := h1.fr f2
  rw [ev_cons]
  obtain ⟨fs, i3, _, _, n3⟩ := h2.ins
  refine ev_meth0 (by rw [ev_var hx]; exact ⟨rfl, rfl⟩) i3 n3 ?_
  refine fitsC_ok h2 fun vs D3 f3 g3 p3 => ?_
  rw [ev_nil]
  refine ⟨sz_le (by simp), ?_⟩
  have f4 : Fr none D3 (D3 ++ [Ob.lst [.ref D.length, .ref D1.length, .ref D2.length]]) := Fr.snoc
  have l1 : D.length < D1.length := (List.getElem?_eq_some_iff.mp g1).1
  have l2 : D1.length < D2.length := (List.getElem?_eq_some_iff.mp g2).1
  have l3 : D2.length < D3.length := (List.getElem?_eq_some_iff.mp g3).1
  have f34 := f3.trans f4
  exact k _ _ _ _ vs _ ((f1.trans f2).trans f34) (Nat.le_refl _) l1 l2 l3 get_new ((f2.trans f34).at g1 out_none) (f34.at g2 out_none) (f4.at g3 out_none) (p3.fr f4)
/-- what a told table's dict holds, with the product -/
theorem due_ok {t : Nat} {ff : List (Str × Str)} (ht : ρ[0]? = some (some (.ref t))) (h : TabAt D t ss pp ff)
    (k : ∀ a b f j vs D', Fr none D D' → D.length ≤ f → f < j → D'[j]? = some (.lst [.ref a, .ref b, .ref f]) → a < D.length → b < D.length → D'[a]? = some (.lst (ss.map MV.str)) → D'[b]? = some (.lst (pp.map MV.str)) → D'[f]? = some (.lst vs) → PairsAt D' vs (prodF ss pp ff) → P (.ref j) D') :
    Ev (eLst (aCons (eOp pIx (eVar 0) (eC (.str "stems"))) (aCons (eOp pIx (eVar 0) (eC (.str "places"))) (aCons (eCall d_sortedFits (aCons (eVar 0) aNil)) aNil))) ρ D) P := by
  obtain ⟨a, b, f, vf, hd, ha, hb, hf, pf⟩ := h.ex
  rw [ev_lst, ev_cons, ev_op, ev_var ht, ev_c, ev_ixd hd (v := .ref a) rfl, ev_cons, ev_op, ev_var ht, ev_c, ev_ixd hd (v := .ref b) rfl, ev_cons, ev_call, ev_cons, ev_var ht, ev_nil]
  refine sortedFits_ok h fun L vs D1 f1 gL hL pv => ?_
  rw [ev_nil]
  refine ⟨sz_le (by simp), ?_⟩
  have f2 : Fr none D1 (D1 ++ [Ob.lst [.ref a, .ref b, .ref L]]) := Fr.snoc
  have fr := f1.trans f2
  exact k a b L _ vs _ fr gL (List.getElem?_eq_some_iff.mp hL).1 get_new (List.getElem?_eq_some_iff.mp ha).1 (List.getElem?_eq_some_iff.mp hb).1 (fr.at ha out_none) (fr.at hb out_none) (f2.at hL out_none) (pv.fr f2)
end
end Mp

set_option Elab.async false
set_option linter.all false
set_option maxRecDepth 10000
namespace Mp
open PySem L2

section
variable {D : Sto} {P : MV → Sto → Prop} {ρ : Rho} {i t d : Nat} {ss pp : List Str} {ff oo : List (Str × Str)} {w : Str} {o2 o3 o4 o6 o7 o8 o9 : Option MV}
theorem ev_meth {C nm : Str} {m : List MV → Sto → Re MV} {mo : EM} {am : AM} {fs : List (Str × MV)} (hm : Ev (mo ρ D) fun v D1 => v = .ref i ∧ D1 = D) (hi : D[i]? = some (.ins C fs)) (hn : fs.lookup nm = none) (h : Ev (am ρ D) fun vs D1 => Ev (m (.ref i :: vs) D1) P) : Ev (eMeth C nm m mo am ρ D) P := by
  unfold eMeth
  rw [ev_bind]
  refine hm.imp fun v D1 ⟨e1, e2⟩ => ?_
  subst e1 e2
  rw [ins_at' hi]
  dsimp only
  rw [if_pos hn, ev_bind]
  exact h
theorem TblC.ins2 (h : TblC D i ss pp oo) : ∃ fs, D[i]? = some (.ins "Table" fs) ∧ fs.lookup ("is_fit" : Str) = none ∧ fs.lookup ("fits_of" : Str) = none ∧ fs.lookup ("fits_at" : Str) = none := by
  obtain ⟨a, b, e, bs, bp, vf, h1, _⟩ := h.ex
  exact ⟨_, h1, rfl, rfl, rfl⟩
theorem bools_of {vs : List MV} {bs : List Bool} (h : Paired (fun v b => v = MV.bl b) vs bs) : vs = bs.map MV.bl := by
  induction h with
  | nil => rfl
  | cons r _ ih => rw [r, ih]; rfl
theorem all_some' {α β : Type} {g : α → β} : ∀ ws : List α, ws.filterMap (fun w => some (g w)) = ws.map g
  | [] => rfl
  | w :: r => by rw [List.filterMap_cons, List.map_cons, all_some' r]
/-- [made.is_fit(stem, place) for place in table['places']] -/
theorem letA_ok (ht : TabAt D t ss pp ff) (h : TblAt D i ss pp oo) (hw : w ∈ ss) (k : ∀ D', Fr none D D' → D'[D.length]? = some (.lst ((pp.map fun v => decide ((w, v) ∈ oo)).map MV.bl)) → P (.ref D.length) D') :
    Ev (eLc (wSeq (eOp pIx (eVar 0) (eC (.str "places")))) (gN 6) (bYes) (eMeth "Table" "is_fit" d_isFit (eVar 1) (aCons (eVar 5) (aCons (eVar 6) (aNil)))) [6] [some (.ref t), some (.ref i), o2, o3, o4, some (.str w), o6, o7, o8, o9] D) P := by
  obtain ⟨a, b, f, vf, hd, ha, hb, hf, pf⟩ := ht.ex
  have g := ht.good
  refine lc_map (S := none) (α := Str) (β := Bool) (fun v x => v = MV.str x) (fun _ v b => v = MV.bl b) (fun v => some (decide ((w, v) ∈ oo))) (fun _ _ _ _ h _ _ => h) (fun _ _ _ _ _ _ _ h => h) ?_
  rw [ev_op, ev_v0, ev_c, ev_ixd hd (v := .ref b) rfl]
  refine ⟨b, pp.map MV.str, pp, rfl, rdL_lst hb, out_none, strs_rel pp, by rw [List.length_map]; have := g.pz; omega, ok_none, ?_, ?_⟩
  · rintro v x D' rfl hv fr _
    have hx : x ∈ pp := by
      obtain ⟨z, hz, e⟩ := List.mem_map.mp hv
      cases e
      exact hz
    refine ⟨[some (.ref t), some (.ref i), o2, o3, o4, some (.str w), some (.str x), o7, o8, o9], rfl, rfl, ?_⟩
    unfold bYes
    rw [ev_ok]
    refine ⟨Fr.refl _ _, ok_none, rfl, fun _ => ?_⟩
    have h1 := h.fr fr
    obtain ⟨fs, i1, n1, _⟩ := h1.core.ins2
    refine ev_meth (by rw [ev_v1]; exact ⟨rfl, rfl⟩) i1 n1 ?_
    rw [ev_cons, ev_var (i := 5) rfl, ev_cons, ev_var (i := 6) rfl, ev_nil]
    exact isFit_ok h1 hw hx ⟨Fr.refl _ _, ok_none, _, rfl, rfl⟩
  · intro ys D' fr _ hy hrel
    rw [all_some'] at hrel
    have e := bools_of hrel
    subst e
    exact k D' fr hy
theorem ev_ixL2 {j : Nat} {x0 x1 v : MV} (h : D[j]? = some (.lst [x0, x1, v])) : Ev (pIx (.ref j) (.int 2) D) P = P v D := ev_ixL (r := 2) h rfl
/-- [(stem, place) in due[2] for place in table['places']] -/
theorem letB_ok {x0 x1 : MV} {L : Nat} {vs : List MV} (ht : TabAt D t ss pp ff) (hd2 : D[d]? = some (.lst [x0, x1, .ref L])) (hL : D[L]? = some (.lst vs)) (pv : PairsAt D vs oo) (go : Good ss pp oo) (hw : w ∈ ss) (k : ∀ D', Fr none D D' → D'[D.length]? = some (.lst ((pp.map fun v => decide ((w, v) ∈ oo)).map MV.bl)) → P (.ref D.length) D') :
    Ev (eLc (wSeq (eOp pIx (eVar 0) (eC (.str "places")))) (gN 6) (bYes) (eOp pIn (eTup (aCons (eVar 5) (aCons (eVar 6) (aNil)))) (eOp pIx (eVar 2) (eC (.int 2)))) [6] [some (.ref t), some (.ref i), some (.ref d), o3, o4, some (.str w), o6, o7, o8, o9] D) P := by
  obtain ⟨a, b, f, vf, hd, ha, hb, hf, pf⟩ := ht.ex
  have g := ht.good
  refine lc_map (S := none) (α := Str) (β := Bool) (fun v x => v = MV.str x) (fun _ v b => v = MV.bl b) (fun v => some (decide ((w, v) ∈ oo))) (fun _ _ _ _ h _ _ => h) (fun _ _ _ _ _ _ _ h => h) ?_
  rw [ev_op, ev_v0, ev_c, ev_ixd hd (v := .ref b) rfl]
  refine ⟨b, pp.map MV.str, pp, rfl, rdL_lst hb, out_none, strs_rel pp, by rw [List.length_map]; have := g.pz; omega, ok_none, ?_, ?_⟩
  · rintro v x D' rfl hv fr _
    have hx : x ∈ pp := by
      obtain ⟨z, hz, e⟩ := List.mem_map.mp hv
      cases e
      exact hz
    refine ⟨[some (.ref t), some (.ref i), some (.ref d), o3, o4, some (.str w), some (.str x), o7, o8, o9], rfl, rfl, ?_⟩
    unfold bYes
    rw [ev_ok]
    refine ⟨Fr.refl _ _, ok_none, rfl, fun _ => ?_⟩
    rw [ev_op, ev_tup, ev_cons, ev_var (i := 5) rfl, ev_cons, ev_var (i := 6) rfl, ev_nil]
    refine ⟨sz_le (by simp), ?_⟩
    have f3 : Fr none D' (D' ++ [Ob.tup [.str w, .str x]]) := Fr.snoc
    have fr3 := fr.trans f3
    rw [ev_op, ev_v2, ev_c, ev_ixL2 (fr3.at hd2 out_none)]
    rw [ev_in (in_pairs (p := (w, x)) ⟨D'.length, rfl, get_new⟩ (isW_wd (g.sw w hw)) (isW_wd (g.pw x hx)) (fr3.at hL out_none) (pv.fr fr3) go.wd)]
    exact ⟨f3, ok_none, _, rfl, rfl⟩
  · intro ys D' fr _ hy hrel
    rw [all_some'] at hrel
    have e := bools_of hrel
    subst e
    exact k D' fr hy
end
end Mp

set_option Elab.async false
set_option linter.all false
set_option maxRecDepth 10000
namespace Mp
open PySem L2

def fstIs (w : Str) (p : Str × Str) : Option Str := if p.1 = w then some p.2 else none
def sndIs (w : Str) (p : Str × Str) : Option Str := if p.2 = w then some p.1 else none
theorem fstIs_all {w : Str} : ∀ oo : List (Str × Str), (oo.filterMap (fstIs w)).map MV.str = rowS oo w
  | [] => rfl
  | p :: r => by
    have ih := fstIs_all (w := w) r
    rw [row_words] at ih ⊢
    rw [List.filterMap_cons, List.filter_cons]
    unfold fstIs at ih ⊢
    by_cases q : p.1 = w
    · rw [if_pos q, if_pos (decide_eq_true q), List.map_cons, List.map_cons, List.map_cons]
      exact congrArg _ ih
    · rw [if_neg q, if_neg (by simp [q])]
      exact ih
theorem sndIs_all {w : Str} : ∀ oo : List (Str × Str), (oo.filterMap (sndIs w)).map MV.str = rowP oo w
  | [] => rfl
  | p :: r => by
    have ih := sndIs_all (w := w) r
    rw [rowP_words] at ih ⊢
    rw [List.filterMap_cons, List.filter_cons]
    unfold sndIs at ih ⊢
    by_cases q : p.2 = w
    · rw [if_pos q, if_pos (decide_eq_true q), List.map_cons, List.map_cons, List.map_cons]
      exact congrArg _ ih
    · rw [if_neg q, if_neg (by simp [q])]
      exact ih
section
variable {D : Sto} {P : MV → Sto → Prop} {d L : Nat} {oo : List (Str × Str)} {w : Str} {x0 x1 : MV} {vs : List MV} {o0 o1 o3 o4 o5 o6 o7 o8 o9 : Option MV}
theorem ev_eqSS {x y : Str} : Ev (pEqA (.str x) (.str y) D) P = P (.bl (decide (x = y))) D := by
  unfold pEqA
  dsimp only
  rw [ev_ok]
/-- [pair[1] for pair in due[2] if pair[0] == stem] -/
theorem rowC_ok (hd2 : D[d]? = some (.lst [x0, x1, .ref L])) (hL : D[L]? = some (.lst vs)) (pv : PairsAt D vs oo) (hz : oo.length ≤ 10000) (k : ∀ D', Fr none D D' → D'[D.length]? = some (.lst (rowS oo w)) → P (.ref D.length) D') :
    Ev (eLc (wSeq (eOp pIx (eVar 2) (eC (.int 2)))) (gN 9) (bTest (eOp pEqA (eOp pIx (eVar 9) (eC (.int 0))) (eVar 5))) (eOp pIx (eVar 9) (eC (.int 1))) [9] [o0, o1, some (.ref d), o3, o4, some (.str w), o6, o7, o8, o9] D) P := by
  refine lc_map (S := none) (α := Str × Str) (β := Str) (fun v p => PairAt D v p) (fun _ v b => v = MV.str b) (fstIs w) (fun _ _ _ _ h _ _ => h) (fun _ _ _ _ _ _ _ h => h) ?_
  rw [ev_op, ev_v2, ev_c, ev_ixL2 hd2]
  refine ⟨L, vs, oo, rfl, rdL_lst hL, out_none, pv, by rw [Pd.len pv]; omega, ok_none, ?_, ?_⟩
  · rintro v p D' hv _ fr _
    have hv' : PairAt D' v p := PairAt.fr (S := none) hv fr
    refine ⟨[o0, o1, some (.ref d), o3, o4, some (.str w), o6, o7, o8, some v], rfl, rfl, ?_⟩
    rw [ev_test, ev_op, ev_op, ev_var (i := 9) rfl, ev_c, ev_pair0 hv', ev_var (i := 5) rfl, ev_eqSS, ev_bl]
    refine ⟨Fr.refl _ _, ok_none, ?_, fun hc => ?_⟩
    · unfold fstIs
      by_cases q : p.1 = w
      · rw [if_pos q, decide_eq_true q]; rfl
      · rw [if_neg q, decide_eq_false q]; rfl
    · rw [ev_op, ev_var (i := 9) rfl, ev_c, ev_pair1 hv']
      refine ⟨Fr.refl _ _, ok_none, p.2, ?_, rfl⟩
      unfold fstIs
      rw [if_pos (of_decide_eq_true hc)]
  · intro ys D' fr _ hy hrel
    have e := strs_of hrel
    subst e
    rw [fstIs_all] at hy
    exact k D' fr hy
/-- [pair[0] for pair in due[2] if pair[1] == place] -/
theorem rowD_ok (hd2 : D[d]? = some (.lst [x0, x1, .ref L])) (hL : D[L]? = some (.lst vs)) (pv : PairsAt D vs oo) (hz : oo.length ≤ 10000) (k : ∀ D', Fr none D D' → D'[D.length]? = some (.lst (rowP oo w)) → P (.ref D.length) D') :
    Ev (eLc (wSeq (eOp pIx (eVar 2) (eC (.int 2)))) (gN 9) (bTest (eOp pEqA (eOp pIx (eVar 9) (eC (.int 1))) (eVar 6))) (eOp pIx (eVar 9) (eC (.int 0))) [9] [o0, o1, some (.ref d), o3, o4, o5, some (.str w), o7, o8, o9] D) P := by
  refine lc_map (S := none) (α := Str × Str) (β := Str) (fun v p => PairAt D v p) (fun _ v b => v = MV.str b) (sndIs w) (fun _ _ _ _ h _ _ => h) (fun _ _ _ _ _ _ _ h => h) ?_
  rw [ev_op, ev_v2, ev_c, ev_ixL2 hd2]
  refine ⟨L, vs, oo, rfl, rdL_lst hL, out_none, pv, by rw [Pd.len pv]; omega, ok_none, ?_, ?_⟩
  · rintro v p D' hv _ fr _
    have hv' : PairAt D' v p := PairAt.fr (S := none) hv fr
    refine ⟨[o0, o1, some (.ref d), o3, o4, o5, some (.str w), o7, o8, some v], rfl, rfl, ?_⟩
    rw [ev_test, ev_op, ev_op, ev_var (i := 9) rfl, ev_c, ev_pair1 hv', ev_var (i := 6) rfl, ev_eqSS, ev_bl]
    refine ⟨Fr.refl _ _, ok_none, ?_, fun hc => ?_⟩
    · unfold sndIs
      by_cases q : p.2 = w
      · rw [if_pos q, decide_eq_true q]; rfl
      · rw [if_neg q, decide_eq_false q]; rfl
    · rw [ev_op, ev_var (i := 9) rfl, ev_c, ev_pair0 hv']
      refine ⟨Fr.refl _ _, ok_none, p.1, ?_, rfl⟩
      unfold sndIs
      rw [if_pos (of_decide_eq_true hc)]
  · intro ys D' fr _ hy hrel
    have e := strs_of hrel
    subst e
    rw [sndIs_all] at hy
    exact k D' fr hy
end
end Mp

set_option Elab.async false
set_option linter.all false
set_option maxRecDepth 10000
namespace Mp
open PySem L2

/-! ### lists that are new since a store, none of them the list T itself -/
def NewLs (E T B : Nat) (D : Sto) (xs : List MV) : Prop := ∀ x ∈ xs, ∃ p ys, x = MV.ref p ∧ E ≤ p ∧ p ≠ T ∧ D[p]? = some (Ob.lst ys) ∧ ys.length ≤ B
section
variable {E T B : Nat} {D D' : Sto} {xs : List MV}
theorem NewLs.fr (h : NewLs E T B D xs) (f : Fr none D D') : NewLs E T B D' xs := fun x hx => by
  obtain ⟨p, ys, e, a, b, c, d⟩ := h x hx
  exact ⟨p, ys, e, a, b, f.at c out_none, d⟩
theorem NewLs.setT (h : NewLs E T B D xs) {o : Ob} : NewLs E T B (D.set T o) xs := fun x hx => by
  obtain ⟨p, ys, e, a, b, c, d⟩ := h x hx
  exact ⟨p, ys, e, a, b, by rw [List.getElem?_set_ne (Ne.symm b)]; exact c, d⟩
theorem NewLs.snoc {q : Nat} {ys : List MV} (h : NewLs E T B D xs) (a : E ≤ q) (b : q ≠ T) (c : D[q]? = some (.lst ys)) (d : ys.length ≤ B) : NewLs E T B D (xs ++ [.ref q]) := fun x hx => by
  rcases List.mem_append.mp hx with m | m
  · exact h x m
  · rw [List.mem_singleton] at m
    exact ⟨q, ys, m, a, b, c, d⟩
theorem NewLs.app {q : Nat} {ys : List MV} {y : MV} (h : NewLs E T B D xs) (c : D[q]? = some (.lst ys)) (d : ys.length ≤ B) : NewLs E T (B + 1) (D.set q (.lst (ys ++ [y]))) xs := fun x hx => by
  obtain ⟨p, zs, e, a, b, c', d'⟩ := h x hx
  by_cases k : p = q
  · subst k
    exact ⟨p, ys ++ [y], e, a, b, List.getElem?_set_self (List.getElem?_eq_some_iff.mp c).1, by simp; exact d⟩
  · exact ⟨p, zs, e, a, b, by rw [List.getElem?_set_ne (Ne.symm k)]; exact c', by omega⟩
end
section
variable {D : Sto} {ρ : Rho} {P : MV → Sto → Prop} {j : Nat} {xs xs0 : List MV} {v : MV}
theorem ixN_last {n : Nat} : ixN (n + 1) (-1) = some n := by
  unfold ixN
  rw [if_neg (by omega), if_pos (by omega)]
  congr 1
  omega
theorem ev_lastL (h : D[j]? = some (.lst (xs ++ [v]))) : Ev (pIx (.ref j) (.int (-1)) D) P = P v D := by
  have e : atI (xs ++ [v]) (-1) = some v := by
    unfold atI
    rw [List.length_append, List.length_singleton, ixN_last]
    simp
  unfold pIx ixAt
  dsimp only
  rw [h]
  dsimp only
  rw [e, ev_ok?]
  simp
theorem ev_neg {i : Int} : Ev (pNeg (.int i) D) P = P (.int (-i)) D := by
  unfold pNeg
  dsimp only
  rw [ev_ok]
theorem ev_app2 {mo a : EM} (h1 : Ev (mo ρ D) fun v D1 => v = .ref j ∧ D1 = D) (hj : D[j]? = some (.lst xs0)) (h2 : Ev (a ρ D) fun y D1 => ∃ xs, D1[j]? = some (.lst xs) ∧ xs.length < sizeLine ∧ P .non (D1.set j (.lst (xs ++ [y])))) : Ev (eBm mAppend mo (aCons a aNil) ρ D) P := by
  unfold eBm
  rw [ev_bind]
  refine h1.imp fun v D1 ⟨e1, e2⟩ => ?_
  subst e1 e2
  have ht : eBm.tyM D1 (.ref j) = true := by unfold eBm.tyM; simp [hj]
  rw [if_pos ht, ev_bind, ev_cons]
  refine h2.imp fun y D2 ⟨xs, e1, e2, k⟩ => ?_
  rw [ev_nil, ev_appendL e1 e2]
  exact k
end
def b_stemLap : SM :=
  sSeq (sSet 7 (eLc (wSeq (eOp pIx (eVar 0) (eC (.str "places")))) (gN 6) (bYes) (eMeth "Table" "is_fit" d_isFit (eVar 1) (aCons (eVar 5) (aCons (eVar 6) (aNil)))) [6]))
  (sSeq (sIf (bTest (eOp pNeA (eCall (f1 reprM) (aCons (eVar 7) (aNil))) (eCall (f1 reprM) (aCons (eLc (wSeq (eOp pIx (eVar 0) (eC (.str "places")))) (gN 6) (bYes) (eOp pIn (eTup (aCons (eVar 5) (aCons (eVar 6) (aNil)))) (eOp pIx (eVar 2) (eC (.int 2)))) [6]) (aNil))))) (sRet (eC (.bl false))) (sNext))
  (sSeq (sDrop (eBm mAppend (eVar 4) (aCons (eMeth "Table" "fits_of" d_fitsO (eVar 1) (aCons (eVar 5) (aNil))) (aNil))))
  (sIf (bTest (eOp pNeA (eOp pIx (eVar 4) (eUn pNeg (eC (.int 1)))) (eLc (wSeq (eOp pIx (eVar 2) (eC (.int 2)))) (gN 9) (bTest (eOp pEqA (eOp pIx (eVar 9) (eC (.int 0))) (eVar 5))) (eOp pIx (eVar 9) (eC (.int 1))) [9]))) (sRet (eC (.bl false))) (sNext))))
def b_placeLap : SM :=
  sSeq (sDrop (eBm mAppend (eVar 4) (aCons (eMeth "Table" "fits_at" d_fitsA (eVar 1) (aCons (eVar 6) (aNil))) (aNil))))
  (sIf (bTest (eOp pNeA (eOp pIx (eVar 4) (eUn pNeg (eC (.int 1)))) (eLc (wSeq (eOp pIx (eVar 2) (eC (.int 2)))) (gN 9) (bTest (eOp pEqA (eOp pIx (eVar 9) (eC (.int 1))) (eVar 6))) (eOp pIx (eVar 9) (eC (.int 0))) [9]))) (sRet (eC (.bl false))) (sNext))
section
variable {E D : Sto} {N : Rho → Sto → Prop} {R : MV → Sto → Prop} {t i d T L : Nat} {ss pp : List Str} {ff oo : List (Str × Str)} {w : Str} {x0 x1 : MV} {vs xs : List MV} {o3 o5 o6 o7 o8 o9 : Option MV}
theorem Good.rowW (g : Good ss pp oo) : ∀ x ∈ (oo.filter fun p => decide (p.1 = w)).map (·.2), Wd x := fun x hx => by
  obtain ⟨p, hp, rfl⟩ := List.mem_map.mp hx
  exact (g.wd p (List.mem_filter.mp hp).1).2
theorem Good.rowV (g : Good ss pp oo) : ∀ x ∈ (oo.filter fun p => decide (p.2 = w)).map (·.1), Wd x := fun x hx => by
  obtain ⟨p, hp, rfl⟩ := List.mem_map.mp hx
  exact (g.wd p (List.mem_filter.mp hp).1).1
theorem stemLap_ok (fr : Fr none E D) (ht : TabAt E t ss pp ff) (h : TblAt E i ss pp oo) (hd : E[d]? = some (.lst [x0, x1, .ref L])) (hL : E[L]? = some (.lst vs)) (pv : PairsAt E vs oo) (hw : w ∈ ss)
    (hT : E.length ≤ T) (gT : D[T]? = some (.lst xs)) (hn : NewLs E.length T 10000 D xs) (hl : xs.length ≤ 1000)
    (k : ∀ o q D', Fr none E D' → D'[T]? = some (.lst (xs ++ [.ref q])) → NewLs E.length T 10000 D' (xs ++ [.ref q]) → N [some (.ref t), some (.ref i), some (.ref d), o3, some (.ref T), some (.str w), o6, o, o8, o9] D') :
    EvS (b_stemLap [some (.ref t), some (.ref i), some (.ref d), o3, some (.ref T), some (.str w), o6, o7, o8, o9] D) N R := by
  have g := h.good
  have zb : ((pp.map fun v => decide ((w, v) ∈ oo))).length ≤ 100 := by rw [List.length_map]; exact g.pz
  unfold b_stemLap
  rw [evS_seq, evS_set]
  refine letA_ok (ht.keep fr) (h.fr fr) hw fun D1 f1 g1 => ?_
  have fr1 := fr.trans f1
  show EvS (sSeq _ _ [some (.ref t), some (.ref i), some (.ref d), o3, some (.ref T), some (.str w), o6, some (.ref D.length), o8, o9] D1) _ _
  rw [evS_seq, evS_if, ev_test, ev_op, ev_call, ev_cons, ev_var (i := 7) rfl, ev_nil, ev_repr (rd_bools g1) (okBools zb), ev_call, ev_cons]
  refine letB_ok (ht.keep fr1) (fr1.at hd out_none) (fr1.at hL out_none) (pv.fr fr1) g hw fun D2 f2 g2 => ?_
  have fr2 := fr1.trans f2
  rw [ev_nil, ev_repr (rd_bools g2) (okBools zb), ev_neS, ev_bl, if_neg (by decide), evS_next, evS_seq, evS_drop]
  have lT : T < D.length := (List.getElem?_eq_some_iff.mp gT).1
  have gT2 := (f1.trans f2).at gT out_none
  refine ev_app2 (by rw [ev_var (i := 4) rfl]; exact ⟨rfl, rfl⟩) gT2 ?_
  obtain ⟨fs, i1, _, n1, _⟩ := (h.fr fr2).core.ins2
  refine ev_meth (by rw [ev_v1]; exact ⟨rfl, rfl⟩) i1 n1 ?_
  rw [ev_cons, ev_var (i := 5) rfl, ev_nil]
  refine fitsO_ok (h.fr fr2) hw fun D3 f3 g3 => ?_
  have fr3 := fr2.trans f3
  have f03 := f1.trans (f2.trans f3)
  have gT3 := f03.at gT out_none
  refine ⟨xs, gT3, sz_lt (by omega), ?_⟩
  have l2 : D2.length ≠ T := by have := (f1.trans f2).le; omega
  have g4 : (D3.set T (.lst (xs ++ [.ref D2.length])))[D2.length]? = some (.lst (rowS oo w)) := by
    rw [List.getElem?_set_ne (Ne.symm l2)]
    exact g3
  have gT4 : (D3.set T (.lst (xs ++ [.ref D2.length])))[T]? = some (.lst (xs ++ [.ref D2.length])) := List.getElem?_set_self (List.getElem?_eq_some_iff.mp gT3).1
  have fr4 : Fr none E (D3.set T (.lst (xs ++ [.ref D2.length]))) := fr3.setNew ok_none hT
  have hz : oo.length ≤ 10000 := g.fz
  have n4 : NewLs E.length T 10000 (D3.set T (.lst (xs ++ [.ref D2.length]))) (xs ++ [.ref D2.length]) :=
    (NewLs.setT (hn.fr f03)).snoc (by have := fr2.le; omega) l2 g4 (Nat.le_trans rowS_len hz)
  generalize D3.set T (.lst (xs ++ [.ref D2.length])) = D4 at g4 gT4 fr4 n4
  rw [evS_if, ev_test, ev_op, ev_op, ev_var (i := 4) rfl, ev_un, ev_c, ev_neg, ev_lastL gT4]
  refine rowC_ok (fr4.at hd out_none) (fr4.at hL out_none) (pv.fr fr4) hz fun D5 f5 g5 => ?_
  have g4' := f5.at g4 out_none
  rw [row_words] at g4' g5
  rw [ev_neD (dat_words g4' g.rowW) (dat_words g5 g.rowW), eqv_lst (g := pdS) (fun x y => eqv_str), decide_eq_true rfl, ev_bl, if_neg (by decide), evS_next]
  exact k _ D2.length D5 (fr4.trans f5) (f5.at gT4 out_none) (n4.fr f5)
theorem placeLap_ok (fr : Fr none E D) (h : TblAt E i ss pp oo) (hd : E[d]? = some (.lst [x0, x1, .ref L])) (hL : E[L]? = some (.lst vs)) (pv : PairsAt E vs oo) (hw : w ∈ pp)
    (hT : E.length ≤ T) (gT : D[T]? = some (.lst xs)) (hn : NewLs E.length T 10000 D xs) (hl : xs.length ≤ 1000)
    (k : ∀ q D', Fr none E D' → D'[T]? = some (.lst (xs ++ [.ref q])) → NewLs E.length T 10000 D' (xs ++ [.ref q]) → N [some (.ref t), some (.ref i), some (.ref d), o3, some (.ref T), o5, some (.str w), o7, o8, o9] D') :
    EvS (b_placeLap [some (.ref t), some (.ref i), some (.ref d), o3, some (.ref T), o5, some (.str w), o7, o8, o9] D) N R := by
  have g := h.good
  unfold b_placeLap
  rw [evS_seq, evS_drop]
  have lT : T < D.length := (List.getElem?_eq_some_iff.mp gT).1
  refine ev_app2 (by rw [ev_var (i := 4) rfl]; exact ⟨rfl, rfl⟩) gT ?_
  obtain ⟨fs, i1, _, _, n1⟩ := (h.fr fr).core.ins2
  refine ev_meth (by rw [ev_v1]; exact ⟨rfl, rfl⟩) i1 n1 ?_
  rw [ev_cons, ev_var (i := 6) rfl, ev_nil]
  refine fitsA_ok (h.fr fr) hw fun D3 f3 g3 => ?_
  have fr3 := fr.trans f3
  have gT3 := f3.at gT out_none
  refine ⟨xs, gT3, sz_lt (by omega), ?_⟩
  have l2 : D.length ≠ T := by omega
  have g4 : (D3.set T (.lst (xs ++ [.ref D.length])))[D.length]? = some (.lst (rowP oo w)) := by
    rw [List.getElem?_set_ne (Ne.symm l2)]
    exact g3
  have gT4 : (D3.set T (.lst (xs ++ [.ref D.length])))[T]? = some (.lst (xs ++ [.ref D.length])) := List.getElem?_set_self (List.getElem?_eq_some_iff.mp gT3).1
  have fr4 : Fr none E (D3.set T (.lst (xs ++ [.ref D.length]))) := fr3.setNew ok_none hT
  have hz : oo.length ≤ 10000 := g.fz
  have n4 : NewLs E.length T 10000 (D3.set T (.lst (xs ++ [.ref D.length]))) (xs ++ [.ref D.length]) :=
    (NewLs.setT (hn.fr f3)).snoc (by have := fr.le; omega) l2 g4 (Nat.le_trans rowP_len hz)
  generalize D3.set T (.lst (xs ++ [.ref D.length])) = D4 at g4 gT4 fr4 n4
  rw [evS_if, ev_test, ev_op, ev_op, ev_var (i := 4) rfl, ev_un, ev_c, ev_neg, ev_lastL gT4]
  refine rowD_ok (fr4.at hd out_none) (fr4.at hL out_none) (pv.fr fr4) hz fun D5 f5 g5 => ?_
  have g4' := f5.at g4 out_none
  rw [rowP_words] at g4' g5
  rw [ev_neD (dat_words g4' g.rowV) (dat_words g5 g.rowV), eqv_lst (g := pdS) (fun x y => eqv_str), decide_eq_true rfl, ev_bl, if_neg (by decide), evS_next]
  exact k D.length D5 (fr4.trans f5) (f5.at gT4 out_none) (n4.fr f5)
end
end Mp

set_option Elab.async false
set_option linter.all false
set_option maxRecDepth 10000
namespace Mp
open PySem L2

def m_tell : EM := eLst (aCons (eMeth "Table" "stems" d_stems (eVar 1) aNil) (aCons (eMeth "Table" "places" d_places (eVar 1) aNil) (aCons (eMeth "Table" "fits" d_fits (eVar 1) aNil) (aNil))))
def b_noneLap : SM := sDrop (eBm mAppend (eVar 8) (aCons (eC .non) (aNil)))
def b_lap : SM :=
  sSeq (sSet 4 m_tell)
  (sSeq (sIf (bTest (eOp pNeA (eCall (f1 reprM) (aCons (eVar 4) (aNil))) (eCall (f1 reprM) (aCons (eVar 2) (aNil))))) (sRet (eC (.bl false))) (sNext))
  (sSeq (sFor (wSeq (eOp pIx (eVar 0) (eC (.str "stems")))) (gN 5) b_stemLap)
  (sSeq (sFor (wSeq (eOp pIx (eVar 0) (eC (.str "places")))) (gN 6) b_placeLap)
  (sFor (wSeq (eVar 4)) (gN 8) b_noneLap))))
def b_toldRight : SM :=
  sSeq (sSet 2 (eLst (aCons (eOp pIx (eVar 0) (eC (.str "stems"))) (aCons (eOp pIx (eVar 0) (eC (.str "places"))) (aCons (eCall d_sortedFits (aCons (eVar 0) (aNil))) (aNil))))))
  (sSeq (sFor (wRng1 (eC (.int 2))) (gN 3) b_lap)
  (sRet (eOp pEqA (eCall (f1 reprM) (aCons m_tell (aNil))) (eCall (f1 reprM) (aCons (eVar 2) (aNil))))))
def d_toldRight : List MV → Sto → Re MV := runB 10 b_toldRight
section
variable {E D : Sto} {N : Rho → Sto → Prop} {R : MV → Sto → Prop} {P : MV → Sto → Prop} {t i d L a' b' : Nat} {ss pp : List Str} {ff oo : List (Str × Str)} {vs : List MV} {o3 o4 o5 o6 o7 o8 o9 : Option MV}
theorem lap_ok (ht : TabAt E t ss pp ff) (h : TblAt E i ss pp oo) (hd : E[d]? = some (.lst [.ref a', .ref b', .ref L])) (ha : E[a']? = some (.lst (ss.map MV.str))) (hb : E[b']? = some (.lst (pp.map MV.str))) (hL : E[L]? = some (.lst vs)) (pv : PairsAt E vs oo)
    (k : ∀ o4 o5 o6 o7 o8 D', Fr none E D' → N [some (.ref t), some (.ref i), some (.ref d), o3, o4, o5, o6, o7, o8, o9] D') :
    EvS (b_lap [some (.ref t), some (.ref i), some (.ref d), o3, o4, o5, o6, o7, o8, o9] E) N R := by
  have g := h.good
  have hz : oo.length ≤ 10000 := g.fz
  obtain ⟨ta, tb, tf, tv, htd, hta, htb, htf, tpf⟩ := ht.ex
  unfold b_lap
  rw [evS_seq, evS_set]
  unfold m_tell
  refine tell3_ok rfl h.core fun a b f T vs1 D1 f1 la lab lbf lfT gT ga gb gf pf => ?_
  show EvS (sSeq _ _ [some (.ref t), some (.ref i), some (.ref d), o3, some (.ref T), o5, o6, o7, o8, o9] D1) _ _
  have hT : E.length ≤ T := by omega
  have n1 : NewLs E.length T 10000 D1 [.ref a, .ref b, .ref f] := fun x hx => by
    have zs := g.sz
    have zp := g.pz
    have lf := Pd.len pf
    simp only [List.mem_cons, List.not_mem_nil, or_false] at hx
    rcases hx with e | e | e
    · exact ⟨a, _, e, by omega, by omega, ga, by rw [List.length_map]; omega⟩
    · exact ⟨b, _, e, by omega, by omega, gb, by rw [List.length_map]; omega⟩
    · exact ⟨f, _, e, by omega, by omega, gf, by omega⟩
  rw [evS_seq, evS_if, ev_test, ev_op, ev_call, ev_cons, ev_var (i := 4) rfl, ev_nil, ev_repr (rd_told gT ga gb gf pf) (okTold g), ev_call, ev_cons, ev_v2, ev_nil,
    ev_repr (rd_told (f1.at hd out_none) (f1.at ha out_none) (f1.at hb out_none) (f1.at hL out_none) (pv.fr f1)) (okTold g), ev_neS, ev_bl, if_neg (by decide), evS_next]
  rw [evS_seq, evS_for]
  refine ev_seqL (j := ta) (xs := ss.map MV.str) ?_
  rw [ev_op, ev_v0, ev_c, ev_ixd (f1.at htd out_none) (v := .ref ta) rfl]
  refine ⟨rfl, rdL_lst (f1.at hta out_none), ?_⟩
  dsimp only
  refine for_ok (fun n ρ D' => Fr none E D' ∧ ∃ o5 o7 xs, ρ = [some (.ref t), some (.ref i), some (.ref d), o3, some (.ref T), o5, o6, o7, o8, o9] ∧ D'[T]? = some (.lst xs) ∧ NewLs E.length T 10000 D' xs ∧ xs.length ≤ 3 + n) _ 0 _ _
    ⟨f1, o5, o7, _, rfl, gT, n1, by simp⟩ ?_ ?_
  · rintro n ρ D2 hn0 hn ⟨fr, o5, o7, xs, rfl, gT2, n2, l2⟩
    have hn' : n < ss.length := by simpa using hn
    have zs := g.sz
    refine ⟨decide_eq_true (rdL_lst (fr.at hta out_none)), .str ss[n], D2, [some (.ref t), some (.ref i), some (.ref d), o3, some (.ref T), some (.str ss[n]), o6, o7, o8, o9], ?_, rfl, ?_⟩
    · dsimp only
      unfold seqItem
      simp [hn']
    refine stemLap_ok fr ht h hd hL pv (List.getElem_mem hn') hT gT2 n2 (by omega) fun o q D3 f3 g3 n3 => ?_
    exact ⟨f3, _, o, _, rfl, g3, n3, by simp; omega⟩
  rintro ρ D2 ⟨fr2, o5, o7, xs2, rfl, gT2, n2, l2⟩
  refine ⟨decide_eq_true (rdL_lst (fr2.at hta out_none)), ?_⟩
  rw [evS_seq, evS_for]
  refine ev_seqL (j := tb) (xs := pp.map MV.str) ?_
  rw [ev_op, ev_v0, ev_c, ev_ixd (fr2.at htd out_none) (v := .ref tb) rfl]
  refine ⟨rfl, rdL_lst (fr2.at htb out_none), ?_⟩
  dsimp only
  have l2' : xs2.length ≤ 103 := by
    have := g.sz
    simp at l2
    omega
  refine for_ok (fun n ρ D' => Fr none E D' ∧ ∃ o6 xs, ρ = [some (.ref t), some (.ref i), some (.ref d), o3, some (.ref T), o5, o6, o7, o8, o9] ∧ D'[T]? = some (.lst xs) ∧ NewLs E.length T 10000 D' xs ∧ xs.length ≤ 103 + n) _ 0 _ _
    ⟨fr2, o6, _, rfl, gT2, n2, by omega⟩ ?_ ?_
  · rintro n ρ D3 hn0 hn ⟨fr, o6, xs, rfl, gT3, n3, l3⟩
    have hn' : n < pp.length := by simpa using hn
    have zp := g.pz
    refine ⟨decide_eq_true (rdL_lst (fr.at htb out_none)), .str pp[n], D3, [some (.ref t), some (.ref i), some (.ref d), o3, some (.ref T), o5, some (.str pp[n]), o7, o8, o9], ?_, rfl, ?_⟩
    · dsimp only
      unfold seqItem
      simp [hn']
    refine placeLap_ok fr h hd hL pv (List.getElem_mem hn') hT gT3 n3 (by omega) fun q D4 f4 g4 n4 => ?_
    exact ⟨f4, _, _, rfl, g4, n4, by simp; omega⟩
  rintro ρ D3 ⟨fr3, o6, xs3, rfl, gT3, n3, l3⟩
  refine ⟨decide_eq_true (rdL_lst (fr3.at htb out_none)), ?_⟩
  have l3' : xs3.length ≤ 203 := by
    have := g.pz
    simp at l3
    omega
  rw [evS_for]
  refine ev_seqL (j := T) (xs := xs3) ?_
  rw [ev_var (i := 4) rfl]
  refine ⟨rfl, rdL_lst gT3, ?_⟩
  dsimp only
  refine for_ok (fun n ρ D' => Fr none E D' ∧ ∃ o8, ρ = [some (.ref t), some (.ref i), some (.ref d), o3, some (.ref T), o5, o6, o7, o8, o9] ∧ D'[T]? = some (.lst xs3) ∧ NewLs E.length T (10000 + n) D' xs3) _ 0 _ _
    ⟨fr3, o8, rfl, gT3, n3⟩ ?_ ?_
  · rintro n ρ D4 hn0 hn ⟨fr, o8, rfl, gT4, n4⟩
    have hn' : n < xs3.length := by omega
    obtain ⟨p, ys, e, l, ne, gp, ly⟩ := n4 xs3[n] (List.getElem_mem hn')
    refine ⟨decide_eq_true (rdL_lst gT4), .ref p, D4, [some (.ref t), some (.ref i), some (.ref d), o3, some (.ref T), o5, o6, o7, some (.ref p), o9], ?_, rfl, ?_⟩
    · dsimp only
      unfold seqItem
      simp [hn', e]
    unfold b_noneLap
    rw [evS_drop]
    refine ev_app2 (by rw [ev_var (i := 8) rfl]; exact ⟨rfl, rfl⟩) gp ?_
    rw [ev_c]
    refine ⟨ys, gp, sz_lt (by omega), fr.setNew ok_none l, _, rfl, ?_, n4.app gp ly⟩
    rw [List.getElem?_set_ne ne]
    exact gT4
  rintro ρ D4 ⟨fr4, o8, rfl, gT4, n4⟩
  exact ⟨decide_eq_true (rdL_lst gT4), k _ _ _ _ _ D4 fr4⟩
theorem toldRight_ok (ht : TabAt D t ss pp ff) (h : TblAt D i ss pp (prodF ss pp ff)) (k : ∀ D', Fr none D D' → P (.bl true) D') : Ev (d_toldRight [.ref t, .ref i] D) P := by
  have g := h.good
  refine ev_run ?_
  show EvS (b_toldRight [some (.ref t), some (.ref i), none, none, none, none, none, none, none, none] D) _ _
  unfold b_toldRight
  rw [evS_seq, evS_set]
  refine due_ok rfl ht fun a b f d vs D1 f1 lf lfd hd lga lgb ga gb gf pf => ?_
  show EvS (sSeq _ _ [some (.ref t), some (.ref i), some (.ref d), none, none, none, none, none, none, none] D1) _ _
  rw [evS_seq, evS_for]
  refine ev_rng1 (n := 2) ?_ (by omega)
  rw [ev_c]
  refine ⟨rfl, ?_⟩
  refine for_ok (fun n ρ D' => Fr none D1 D' ∧ ∃ o3 o4 o5 o6 o7 o8, ρ = [some (.ref t), some (.ref i), some (.ref d), o3, o4, o5, o6, o7, o8, none]) _ 0 _ _ ⟨Fr.refl _ _, none, none, none, none, none, none, rfl⟩ ?_ ?_
  · rintro n ρ D2 hn0 hn ⟨fr, o3, o4, o5, o6, o7, o8, rfl⟩
    refine ⟨rfl, .int (0 + (n : Nat)), D2, [some (.ref t), some (.ref i), some (.ref d), some (.int (0 + (n : Nat))), o4, o5, o6, o7, o8, none], rfl, rfl, ?_⟩
    have f2 := f1.trans fr
    refine lap_ok (ht.keep f2) (h.fr f2) (fr.at hd out_none) (fr.at ga out_none) (fr.at gb out_none) (fr.at gf out_none) (pf.fr fr) fun o4 o5 o6 o7 o8 D3 f3 => ?_
    exact ⟨fr.trans f3, _, _, _, _, _, _, rfl⟩
  rintro ρ D2 ⟨fr, o3, o4, o5, o6, o7, o8, rfl⟩
  refine ⟨rfl, ?_⟩
  have f2 := f1.trans fr
  rw [evS_ret, ev_op, ev_call, ev_cons]
  unfold m_tell
  refine tell3_ok rfl (h.fr f2).core fun a2 b2 f2' T vs2 D3 f3 _ _ _ _ gT ga2 gb2 gf2 pf2 => ?_
  have f13 := fr.trans f3
  rw [ev_nil, ev_repr (rd_told gT ga2 gb2 gf2 pf2) (okTold g), ev_call, ev_cons, ev_v2, ev_nil,
    ev_repr (rd_told (f13.at hd out_none) (f13.at ga out_none) (f13.at gb out_none) (f13.at gf out_none) (pf.fr f13)) (okTold g), ev_eqS]
  exact k D3 (f1.trans f13)
end
end Mp

set_option Elab.async false
set_option linter.all false
set_option maxRecDepth 10000
namespace Mp
open PySem L2

section
variable {D : Sto} {P : MV → Sto → Prop} {ρ : Rho} {ss pp : List Str} {ff : List (Str × Str)} {w v : Str}
theorem cross1 (hs : ss.Nodup) (hw : w ∈ ss) : rowP (prodF pp ss (ff.map swp)) w = rowS (prodF ss pp ff) w := by
  rw [rowP_prod hs hw, rowS_prod hs hw]
  congr 1
  refine List.filter_congr fun x _ => decide_eq_decide.mpr ?_
  rw [sw_mem]
  rfl
theorem cross2 (hp : pp.Nodup) (hv : v ∈ pp) : rowS (prodF pp ss (ff.map swp)) v = rowP (prodF ss pp ff) v := by
  rw [rowS_prod hp hv, rowP_prod hp hv]
  congr 1
  refine List.filter_congr fun x _ => decide_eq_decide.mpr ?_
  rw [sw_mem]
  rfl
/-- what a told table's dict holds, with the product, told of any slot -/
theorem dueX_ok {x t : Nat} (ht : ρ[x]? = some (some (.ref t))) (h : TabAt D t ss pp ff)
    (k : ∀ a b f j vs D', Fr none D D' → D'[j]? = some (.lst [.ref a, .ref b, .ref f]) → D'[a]? = some (.lst (ss.map MV.str)) → D'[b]? = some (.lst (pp.map MV.str)) → D'[f]? = some (.lst vs) → PairsAt D' vs (prodF ss pp ff) → P (.ref j) D') :
    Ev (eLst (aCons (eOp pIx (eVar x) (eC (.str "stems"))) (aCons (eOp pIx (eVar x) (eC (.str "places"))) (aCons (eCall d_sortedFits (aCons (eVar x) aNil)) aNil))) ρ D) P := by
  obtain ⟨a, b, f, vf, hd, ha, hb, hf, pf⟩ := h.ex
  rw [ev_lst, ev_cons, ev_op, ev_var ht, ev_c, ev_ixd hd (v := .ref a) rfl, ev_cons, ev_op, ev_var ht, ev_c, ev_ixd hd (v := .ref b) rfl, ev_cons, ev_call, ev_cons, ev_var ht, ev_nil]
  refine sortedFits_ok h fun L vs D1 f1 gL hL pv => ?_
  rw [ev_nil]
  refine ⟨sz_le (by simp), ?_⟩
  have f2 : Fr none D1 (D1 ++ [Ob.lst [.ref a, .ref b, .ref L]]) := Fr.snoc
  have fr := f1.trans f2
  exact k a b L _ vs _ fr get_new (fr.at ha out_none) (fr.at hb out_none) (f2.at hL out_none) (pv.fr f2)
theorem ev_neB {x y : Bool} : Ev (pNeA (.bl x) (.bl y) D) P = P (.bl (!PyData.eqv (.bool x) (.bool y))) D := by
  have e : ∀ z : Bool, datD D (.bl z) = some (.bool z) := fun z => by
    cases z <;> exact datD_of rdD_bl (by decide)
  unfold pNeA
  dsimp only
  unfold pNe
  rw [e x, e y]
  dsimp only
  rw [ev_ok]
theorem eqv_told {ss' pp' : List Str} {oo oo' : List (Str × Str)} : PyData.eqv (toldD ss pp oo) (toldD ss' pp' oo') = decide (ss = ss' ∧ pp = pp' ∧ oo = oo') := by
  unfold toldD
  rw [PyData.eqv, PyData.eqvAll.eq_2, PyData.eqvAll.eq_2, PyData.eqvAll.eq_2, PyData.eqvAll.eq_1, eqv_lst (g := pdS) (fun x y => eqv_str), eqv_lst (g := pdS) (fun x y => eqv_str), eqv_lst (g := pdP) (fun x y => eqv_pair)]
  by_cases h1 : ss = ss' <;> by_cases h2 : pp = pp' <;> by_cases h3 : oo = oo' <;> simp [h1, h2, h3]
theorem shaped_told {oo : List (Str × Str)} (g : Good ss pp oo) : SeqAt.shaped (toldD ss pp oo) = true := by
  have c1 : PyData.canLayAll0 (ss.map pdS) = true := lay_all fun x hx => by simp [pdS, PyData.canLay0, isW_wd (g.sw x hx)]
  have c2 : PyData.canLayAll0 (pp.map pdS) = true := lay_all fun x hx => by simp [pdS, PyData.canLay0, isW_wd (g.pw x hx)]
  have c3 : PyData.canLayAll0 (oo.map pdP) = true := lay_all fun x hx => lay_pair (g.wd x hx).1 (g.wd x hx).2
  have d1 : PyData.depthAll (ss.map pdS) ≤ 1 := depth_all fun x _ => by simp [pdS, PyData.depth]
  have d2 : PyData.depthAll (pp.map pdS) ≤ 1 := depth_all fun x _ => by simp [pdS, PyData.depth]
  have d3 : PyData.depthAll (oo.map pdP) ≤ 1 := depth_all fun x _ => depth_pair
  unfold toldD SeqAt.shaped
  have e1 : PyData.canLay0 (.list [.list (ss.map pdS), .list (pp.map pdS), .list (oo.map pdP)]) = true := by
    simp [PyData.canLay0, PyData.canLayAll0, c1, c2, c3]
  have e2 : (PyData.list [.list (ss.map pdS), .list (pp.map pdS), .list (oo.map pdP)]).depth ≤ 64 := by
    simp [PyData.depth, PyData.depthAll]
    omega
  rw [e1]
  simp [e2]
end
end Mp

set_option Elab.async false
set_option linter.all false
set_option maxRecDepth 10000
namespace Mp
open PySem L2

def m_ne (g : Bool → MV) : MV → MV → Sto → Re MV := pEqO "Table" d_eq g
def b_if1 : SM := sIf (bOr (bNot (bTest (eIsi tTab (eVar 6)))) (bOr (bNot (bTest (eCall d_toldRight (aCons (eVar 5) (aCons (eVar 6) (aNil)))))) (bTest (eOp (pEqO "Table" d_eq fun t => .bl (!t)) (eVar 6) (eCall d_tableOf (aCons (eVar 5) (aNil))))))) (sRet (eC (.bl false))) (sNext)
def b_if2 : SM := sIf (bOr (bTest (eOp (pEqO "Table" d_eq fun t => .bl (!t)) (eCall d_turned (aCons (eVar 6) (aNil))) (eVar 4))) (bOr (bNot (bTest (eCall d_toldRight (aCons (eVar 3) (aCons (eVar 4) (aNil)))))) (bNot (bTest (eCall d_toldRight (aCons (eVar 3) (aCons (eCall d_turned (aCons (eVar 6) (aNil))) (aNil)))))))) (sRet (eC (.bl false))) (sNext)
def b_for1 : SM := sFor (wSeq (eOp pIx (eVar 3) (eC (.str "stems")))) (gN 7) (sIf (bTest (eOp pNeA (eMeth "Table" "fits_at" d_fitsA (eVar 6) (aCons (eVar 7) (aNil))) (eMeth "Table" "fits_of" d_fitsO (eVar 4) (aCons (eVar 7) (aNil))))) (sRet (eC (.bl false))) (sNext))
def b_for2 : SM := sFor (wSeq (eOp pIx (eVar 3) (eC (.str "places")))) (gN 8) (sIf (bTest (eOp pNeA (eMeth "Table" "fits_of" d_fitsO (eVar 6) (aCons (eVar 8) (aNil))) (eMeth "Table" "fits_at" d_fitsA (eVar 4) (aCons (eVar 8) (aNil))))) (sRet (eC (.bl false))) (sNext))
def b_due : SM := sSet 9 (eOp pEqA (eLst (aCons (eOp pIx (eVar 5) (eC (.str "stems"))) (aCons (eOp pIx (eVar 5) (eC (.str "places"))) (aCons (eCall d_sortedFits (aCons (eVar 5) (aNil))) (aNil))))) (eLst (aCons (eMeth "Table" "stems" d_stems (eVar 4) aNil) (aCons (eMeth "Table" "places" d_places (eVar 4) aNil) (aCons (eMeth "Table" "fits" d_fits (eVar 4) aNil) (aNil))))))
def b_if3 : SM := sIf (bTest (eOp pNeA (eOp (pEqO "Table" d_eq .bl) (eVar 6) (eVar 4)) (eVar 9))) (sRet (eC (.bl false))) (sNext)
def b_draw : SM := sPar 10 11 (eCall d_someOf (aCons (eVar 1) (aCons (eOp pIx (eVar 3) (eC (.str "stems"))) (aNil)))) (eCall d_someOf (aCons (eVar 1) (aCons (eOp pIx (eVar 3) (eC (.str "places"))) (aNil))))
def b_if4 : SM := sIf (bTest (eOp (pEqO "Table" d_eq fun t => .bl (!t)) (eCall d_turned (aCons (eCall d_partOf (aCons (eVar 4) (aCons (eVar 10) (aCons (eVar 11) (aNil))))) (aNil))) (eCall d_partOf (aCons (eVar 6) (aCons (eVar 11) (aCons (eVar 10) (aNil))))))) (sRet (eC (.bl false))) (sNext)
section
variable {D : Sto} {N : Rho → Sto → Prop} {R : MV → Sto → Prop} {P : MV → Sto → Prop} {s c t t2 i i2 : Nat} {ss pp : List Str} {ff : List (Str × Str)} {o0 o1 o2 o3 o4 o5 o6 o7 o8 o9 o10 o11 : Option MV}
theorem if1_ok (h5 : TabAt D t2 pp ss (ff.map swp)) (h6 : TblAt D i2 pp ss (prodF pp ss (ff.map swp)))
    (k : ∀ D', Fr none D D' → N [o0, o1, o2, o3, o4, some (.ref t2), some (.ref i2), o7, o8, o9, o10, o11] D') : EvS (b_if1 [o0, o1, o2, o3, o4, some (.ref t2), some (.ref i2), o7, o8, o9, o10, o11] D) N R := by
  unfold b_if1
  rw [evS_if, ev_or, ev_not, ev_test]
  refine isTab_ok h6 (by rw [ev_var (i := 6) rfl]; exact ⟨rfl, rfl⟩) ?_
  rw [ev_bl, Bool.not_true, if_neg (by decide), ev_or, ev_not, ev_test, ev_call, ev_cons, ev_var (i := 5) rfl, ev_cons, ev_var (i := 6) rfl, ev_nil]
  refine toldRight_ok h5 h6 fun D1 f1 => ?_
  rw [ev_bl, Bool.not_true, if_neg (by decide), ev_test, ev_op, ev_var (i := 6) rfl, ev_call, ev_cons, ev_var (i := 5) rfl, ev_nil]
  refine tableOf_ok (h5.keep f1) fun i3 D2 f2 _ tb => ?_
  refine eqO_ok ((h6.fr f1).fr f2) tb ?_
  rw [decide_eq_true ⟨rfl, rfl, rfl⟩, Bool.not_true, ev_bl, if_neg (by decide), evS_next]
  exact k D2 (f1.trans f2)
theorem if2_ok (h3 : TabAt D t ss pp ff) (h4 : TblAt D i ss pp (prodF ss pp ff)) (h6 : TblAt D i2 pp ss (prodF pp ss (ff.map swp)))
    (k : ∀ D', Fr none D D' → N [o0, o1, o2, some (.ref t), some (.ref i), o5, some (.ref i2), o7, o8, o9, o10, o11] D') : EvS (b_if2 [o0, o1, o2, some (.ref t), some (.ref i), o5, some (.ref i2), o7, o8, o9, o10, o11] D) N R := by
  unfold b_if2
  rw [evS_if, ev_or, ev_test, ev_op, ev_call, ev_cons, ev_var (i := 6) rfl, ev_nil]
  refine turned_ok h6 fun i4 D1 f1 _ tu => ?_
  rw [prodF_turn2] at tu
  rw [ev_var (i := 4) rfl]
  refine eqO_ok tu (h4.fr f1) ?_
  rw [decide_eq_true ⟨rfl, rfl, rfl⟩, Bool.not_true, ev_bl, if_neg (by decide), ev_or, ev_not, ev_test, ev_call, ev_cons, ev_v3, ev_cons, ev_var (i := 4) rfl, ev_nil]
  refine toldRight_ok (h3.keep f1) (h4.fr f1) fun D2 f2 => ?_
  have f12 := f1.trans f2
  rw [ev_bl, Bool.not_true, if_neg (by decide), ev_not, ev_test, ev_call, ev_cons, ev_v3, ev_cons, ev_call, ev_cons, ev_var (i := 6) rfl, ev_nil]
  refine turned_ok (h6.fr f12) fun i5 D3 f3 _ tv => ?_
  rw [prodF_turn2] at tv
  rw [ev_nil]
  have f13 := f12.trans f3
  refine toldRight_ok (h3.keep f13) tv fun D4 f4 => ?_
  rw [ev_bl, Bool.not_true, if_neg (by decide), evS_next]
  exact k D4 (f13.trans f4)
theorem for1_ok (h3 : TabAt D t ss pp ff) (h4 : TblAt D i ss pp (prodF ss pp ff)) (h6 : TblAt D i2 pp ss (prodF pp ss (ff.map swp)))
    (k : ∀ o7 D', Fr none D D' → N [o0, o1, o2, some (.ref t), some (.ref i), o5, some (.ref i2), o7, o8, o9, o10, o11] D') : EvS (b_for1 [o0, o1, o2, some (.ref t), some (.ref i), o5, some (.ref i2), o7, o8, o9, o10, o11] D) N R := by
  have g := h4.good
  obtain ⟨a, b, f, vf, hd, ha, hb, hf, pf⟩ := h3.ex
  unfold b_for1
  rw [evS_for]
  refine ev_seqL (j := a) (xs := ss.map MV.str) ?_
  rw [ev_op, ev_v3, ev_c, ev_ixd hd (v := .ref a) rfl]
  refine ⟨rfl, rdL_lst ha, ?_⟩
  dsimp only
  refine for_ok (fun n ρ D' => Fr none D D' ∧ ∃ o7, ρ = [o0, o1, o2, some (.ref t), some (.ref i), o5, some (.ref i2), o7, o8, o9, o10, o11]) _ 0 _ _ ⟨Fr.refl _ _, o7, rfl⟩ ?_ ?_
  · rintro n ρ D1 hn0 hn ⟨fr, o7, rfl⟩
    have hn' : n < ss.length := by simpa using hn
    have hw := List.getElem_mem hn'
    refine ⟨decide_eq_true (rdL_lst (fr.at ha out_none)), .str ss[n], D1, [o0, o1, o2, some (.ref t), some (.ref i), o5, some (.ref i2), some (.str ss[n]), o8, o9, o10, o11], ?_, rfl, ?_⟩
    · dsimp only
      unfold seqItem
      simp [hn']
    rw [evS_if, ev_test, ev_op]
    obtain ⟨fs, i1, _, _, n1⟩ := (h6.fr fr).core.ins2
    refine ev_meth (by rw [ev_var (i := 6) rfl]; exact ⟨rfl, rfl⟩) i1 n1 ?_
    rw [ev_cons, ev_var (i := 7) rfl, ev_nil]
    refine fitsA_ok (h6.fr fr) hw fun D2 f2 g2 => ?_
    have fr2 := fr.trans f2
    obtain ⟨fs, i3, _, n3, _⟩ := (h4.fr fr2).core.ins2
    refine ev_meth (by rw [ev_var (i := 4) rfl]; exact ⟨rfl, rfl⟩) i3 n3 ?_
    rw [ev_cons, ev_var (i := 7) rfl, ev_nil]
    refine fitsO_ok (h4.fr fr2) hw fun D3 f3 g3 => ?_
    have g2' := f3.at g2 out_none
    rw [cross1 g.sn hw] at g2'
    rw [row_words] at g2' g3
    rw [ev_neD (dat_words g2' g.rowW) (dat_words g3 g.rowW), eqv_lst (g := pdS) (fun x y => eqv_str), decide_eq_true rfl, ev_bl, if_neg (by decide), evS_next]
    exact ⟨fr2.trans f3, _, rfl⟩
  rintro ρ D1 ⟨fr, o7, rfl⟩
  exact ⟨decide_eq_true (rdL_lst (fr.at ha out_none)), k _ D1 fr⟩
theorem for2_ok (h3 : TabAt D t ss pp ff) (h4 : TblAt D i ss pp (prodF ss pp ff)) (h6 : TblAt D i2 pp ss (prodF pp ss (ff.map swp)))
    (k : ∀ o8 D', Fr none D D' → N [o0, o1, o2, some (.ref t), some (.ref i), o5, some (.ref i2), o7, o8, o9, o10, o11] D') : EvS (b_for2 [o0, o1, o2, some (.ref t), some (.ref i), o5, some (.ref i2), o7, o8, o9, o10, o11] D) N R := by
  have g := h4.good
  obtain ⟨a, b, f, vf, hd, ha, hb, hf, pf⟩ := h3.ex
  unfold b_for2
  rw [evS_for]
  refine ev_seqL (j := b) (xs := pp.map MV.str) ?_
  rw [ev_op, ev_v3, ev_c, ev_ixd hd (v := .ref b) rfl]
  refine ⟨rfl, rdL_lst hb, ?_⟩
  dsimp only
  refine for_ok (fun n ρ D' => Fr none D D' ∧ ∃ o8, ρ = [o0, o1, o2, some (.ref t), some (.ref i), o5, some (.ref i2), o7, o8, o9, o10, o11]) _ 0 _ _ ⟨Fr.refl _ _, o8, rfl⟩ ?_ ?_
  · rintro n ρ D1 hn0 hn ⟨fr, o8, rfl⟩
    have hn' : n < pp.length := by simpa using hn
    have hw := List.getElem_mem hn'
    refine ⟨decide_eq_true (rdL_lst (fr.at hb out_none)), .str pp[n], D1, [o0, o1, o2, some (.ref t), some (.ref i), o5, some (.ref i2), o7, some (.str pp[n]), o9, o10, o11], ?_, rfl, ?_⟩
    · dsimp only
      unfold seqItem
      simp [hn']
    rw [evS_if, ev_test, ev_op]
    obtain ⟨fs, i1, _, n1, _⟩ := (h6.fr fr).core.ins2
    refine ev_meth (by rw [ev_var (i := 6) rfl]; exact ⟨rfl, rfl⟩) i1 n1 ?_
    rw [ev_cons, ev_var (i := 8) rfl, ev_nil]
    refine fitsO_ok (h6.fr fr) hw fun D2 f2 g2 => ?_
    have fr2 := fr.trans f2
    obtain ⟨fs, i3, _, _, n3⟩ := (h4.fr fr2).core.ins2
    refine ev_meth (by rw [ev_var (i := 4) rfl]; exact ⟨rfl, rfl⟩) i3 n3 ?_
    rw [ev_cons, ev_var (i := 8) rfl, ev_nil]
    refine fitsA_ok (h4.fr fr2) hw fun D3 f3 g3 => ?_
    have g2' := f3.at g2 out_none
    rw [cross2 g.pn hw] at g2'
    rw [rowP_words] at g2' g3
    rw [ev_neD (dat_words g2' g.rowV) (dat_words g3 g.rowV), eqv_lst (g := pdS) (fun x y => eqv_str), decide_eq_true rfl, ev_bl, if_neg (by decide), evS_next]
    exact ⟨fr2.trans f3, _, rfl⟩
  rintro ρ D1 ⟨fr, o8, rfl⟩
  exact ⟨decide_eq_true (rdL_lst (fr.at hb out_none)), k _ D1 fr⟩
theorem due3_ok (h5 : TabAt D t2 pp ss (ff.map swp)) (h4 : TblAt D i ss pp (prodF ss pp ff)) (h6 : TblAt D i2 pp ss (prodF pp ss (ff.map swp)))
    (k : ∀ o9 D', Fr none D D' → N [o0, o1, o2, o3, some (.ref i), some (.ref t2), some (.ref i2), o7, o8, o9, o10, o11] D') :
    EvS ((sSeq b_due b_if3) [o0, o1, o2, o3, some (.ref i), some (.ref t2), some (.ref i2), o7, o8, o9, o10, o11] D) N R := by
  unfold b_due
  rw [evS_seq, evS_set, ev_op]
  refine dueX_ok (x := 5) rfl h5 fun a b f j vs D1 f1 gj ga gb gf pf => ?_
  refine tell3_ok (x := 4) rfl (h4.fr f1).core fun a2 b2 f2' j2 vs2 D2 f2 _ _ _ _ gj2 ga2 gb2 gf2 pf2 => ?_
  have d1 := datD_of (rd_told (f2.at gj out_none) (f2.at ga out_none) (f2.at gb out_none) (f2.at gf out_none) (pf.fr f2)) (shaped_told h6.good)
  have d2 := datD_of (rd_told gj2 ga2 gb2 gf2 pf2) (shaped_told h4.good)
  rw [ev_eqD d1 d2, eqv_told]
  have f12 := f1.trans f2
  show EvS (b_if3 [o0, o1, o2, o3, some (.ref i), some (.ref t2), some (.ref i2), o7, o8, some (.bl (decide (pp = ss ∧ ss = pp ∧ prodF pp ss (ff.map swp) = prodF ss pp ff))), o10, o11] D2) _ _
  unfold b_if3
  rw [evS_if, ev_test, ev_op, ev_op, ev_var (i := 6) rfl, ev_var (i := 4) rfl]
  refine eqO_ok (h6.fr f12) (h4.fr f12) ?_
  rw [ev_var (i := 9) rfl, ev_neB]
  generalize decide (pp = ss ∧ ss = pp ∧ prodF pp ss (ff.map swp) = prodF ss pp ff) = z
  have e : PyData.eqv (.bool z) (.bool z) = true := by cases z <;> decide
  rw [e, Bool.not_true, ev_bl, if_neg (by decide), evS_next]
  exact k _ D2 f12
end
end Mp

set_option Elab.async false
set_option linter.all false
set_option maxRecDepth 10000
namespace Mp
open PySem L2

def b_turn : SM :=
  sSeq (sSet 3 (eCall d_made (aCons (eVar 1) (aCons (eC (.int 6)) (aNil)))))
  (sSeq (sPar 4 5 (eCall d_tableOf (aCons (eVar 3) (aNil))) (eCall d_turnedTable (aCons (eVar 3) (aNil))))
  (sSeq (sSet 6 (eCall d_turned (aCons (eVar 4) (aNil))))
  (sSeq b_if1 (sSeq b_if2 (sSeq b_for1 (sSeq b_for2 (sSeq b_due (sSeq b_if3 (sSeq b_draw b_if4)))))))))
def b_law : SM :=
  sSeq (sSet 1 (eCall d_source (aCons (eVar 0) (aNil))))
  (sSeq (sFor (wRng1 (eC (.int 4))) (gN 2) b_turn)
  (sRet (eOp (pEqO "Table" d_eq .bl) (eCall d_turned (aCons (eMake "Table" d_init (aCons (eLst (aNil)) (aCons (eLst (aCons (eC (.str "a")) (aNil))) (aCons (eLst (aNil)) (aNil))))) (aNil))) (eMake "Table" d_init (aCons (eLst (aCons (eC (.str "a")) (aNil))) (aCons (eLst (aNil)) (aCons (eLst (aNil)) (aNil))))))))
def d_law : List MV → Sto → Re MV := runB 12 b_law
section
variable {D : Sto} {N : Rho → Sto → Prop} {R : MV → Sto → Prop} {P : MV → Sto → Prop} {s c t t2 i i2 : Nat} {ss pp : List Str} {ff : List (Str × Str)} {o0 o1 o2 o3 o4 o5 o6 o7 o8 o9 o10 o11 : Option MV}
theorem evS_assoc {a b e : SM} {ρ : Rho} : EvS (sSeq (sSeq a b) e ρ D) N R = EvS (sSeq a (sSeq b e) ρ D) N R := by
  rw [evS_seq, evS_seq, evS_seq]
  congr 1
  funext ρ D
  rw [evS_seq]
theorem if4_ok {u v : Nat} {us vs : List Str} (h4 : TblC D i ss pp (prodF ss pp ff)) (h6 : TblC D i2 pp ss (prodF pp ss (ff.map swp))) (hu : D[u]? = some (.lst (us.map MV.str))) (hv : D[v]? = some (.lst (vs.map MV.str))) (mu : ∀ w ∈ us, w ∈ ss) (mv : ∀ w ∈ vs, w ∈ pp)
    (k : ∀ D', Fr none D D' → N [o0, o1, o2, o3, some (.ref i), o5, some (.ref i2), o7, o8, o9, some (.ref u), some (.ref v)] D') : EvS (b_if4 [o0, o1, o2, o3, some (.ref i), o5, some (.ref i2), o7, o8, o9, some (.ref u), some (.ref v)] D) N R := by
  unfold b_if4
  rw [evS_if, ev_test, ev_op, ev_call, ev_cons, ev_call, ev_cons, ev_var (i := 4) rfl, ev_cons, ev_var (i := 10) rfl, ev_cons, ev_var (i := 11) rfl, ev_nil]
  refine partOf_ok h4 hu hv mu mv fun j D1 f1 _ tj => ?_
  rw [ev_nil]
  refine turned_ok tj fun j2 D2 f2 _ tj2 => ?_
  have f12 := f1.trans f2
  rw [ev_call, ev_cons, ev_var (i := 6) rfl, ev_cons, ev_var (i := 11) rfl, ev_cons, ev_var (i := 10) rfl, ev_nil]
  refine partOf_ok (h6.fr f12) (f12.at hv out_none) (f12.at hu out_none) mv mu fun j3 D3 f3 _ tj3 => ?_
  refine eqO_ok (tj2.fr f3) tj3 ?_
  rw [decide_eq_true ⟨rfl, rfl, prodF_part⟩, Bool.not_true, ev_bl, if_neg (by decide), evS_next]
  exact k D3 (f12.trans f3)
theorem turn_ok (sk : SrcOk D s c) (k : ∀ o3 o4 o5 o6 o7 o8 o9 o10 o11 D', SrcOk D' s c → N [o0, some (.ref s), o2, o3, o4, o5, o6, o7, o8, o9, o10, o11] D') :
    EvS (b_turn [o0, some (.ref s), o2, o3, o4, o5, o6, o7, o8, o9, o10, o11] D) N R := by
  unfold b_turn
  rw [evS_seq, evS_set, ev_call, ev_cons, ev_v1, ev_cons, ev_c, ev_nil]
  refine made_ok (most := 6) (by omega) sk fun t ss pp ff D1 f1 sk1 _ tab => ?_
  have g0 := tab.tab.good
  show EvS (sSeq _ _ [o0, some (.ref s), o2, some (.ref t), o4, o5, o6, o7, o8, o9, o10, o11] D1) _ _
  rw [evS_seq, evS_par, ev_call, ev_cons, ev_v3, ev_nil]
  refine tableOf_ok tab.tab fun i D2 f2 _ ti => ?_
  rw [ev_call, ev_cons, ev_v3, ev_nil]
  refine turnedTable_ok (tab.tab.keep f2) fun t2 D3 f3 _ h5 => ?_
  have f13 := f2.trans f3
  show EvS (sSeq _ _ [o0, some (.ref s), o2, some (.ref t), some (.ref i), some (.ref t2), o6, o7, o8, o9, o10, o11] D3) _ _
  rw [evS_seq, evS_set, ev_call, ev_cons, ev_var (i := 4) rfl, ev_nil]
  refine turned_ok (ti.fr f3) fun i2 D4 f4 _ h6 => ?_
  rw [prodF_turn] at h6
  have f14 := f13.trans f4
  have h3 := tab.tab.keep f14
  have h4 := (ti.fr f3).fr f4
  have h5' := h5.keep f4
  show EvS (sSeq _ _ [o0, some (.ref s), o2, some (.ref t), some (.ref i), some (.ref t2), some (.ref i2), o7, o8, o9, o10, o11] D4) _ _
  rw [evS_seq]
  refine if1_ok h5' h6 fun D5 f5 => ?_
  rw [evS_seq]
  refine if2_ok (h3.keep f5) (h4.fr f5) (h6.fr f5) fun D6 f6 => ?_
  have f46 := f5.trans f6
  rw [evS_seq]
  refine for1_ok (h3.keep f46) (h4.fr f46) (h6.fr f46) fun o7 D7 f7 => ?_
  have f47 := f46.trans f7
  rw [evS_seq]
  refine for2_ok (h3.keep f47) (h4.fr f47) (h6.fr f47) fun o8 D8 f8 => ?_
  have f48 := f47.trans f8
  rw [← evS_assoc, evS_seq]
  refine due3_ok (h5'.keep f48) (h4.fr f48) (h6.fr f48) fun o9 D9 f9 => ?_
  have f49 := f48.trans f9
  have f19 : Fr none D1 D9 := f14.trans f49
  have sk9 : SrcOk D9 s c := sk1.same f19
  obtain ⟨ta, tb, tf, tv, htd, hta, htb, htf, tpf⟩ := tab.tab.ex
  obtain ⟨ts, tc, a, b, f, hd, as, ac, bs, bc⟩ := tab.away
  have e := htd.symm.trans hd
  simp only [Option.some.injEq, Ob.dic.injEq, List.cons.injEq, Prod.mk.injEq, MV.ref.injEq, true_and, and_true] at e
  obtain ⟨rfl, rfl, rfl⟩ := e
  have la : LAt s c D9 ta (ss.map MV.str) := ⟨f19.at hta out_none, as, ac⟩
  have lb : LAt s c D9 tb (pp.map MV.str) := ⟨f19.at htb out_none, bs, bc⟩
  have hd9 := f19.at htd out_none
  unfold b_draw
  rw [evS_seq, evS_par, ev_call, ev_cons, ev_v1, ev_cons, ev_op, ev_v3, ev_c, ev_ixd hd9 (v := .ref ta) rfl, ev_nil]
  refine someOf_ok sk9 la g0.sz fun us D10 f10 sk10 su lu => ?_
  rw [ev_call, ev_cons, ev_v1, ev_cons, ev_op, ev_v3, ev_c, ev_ixd (f10.at hd9 (out_some ts tc)) (v := .ref tb) rfl, ev_nil]
  refine someOf_ok sk10 (lb.fr f10) g0.pz fun vs D11 f11 sk11 sv lv => ?_
  show EvS (b_if4 [o0, some (.ref s), o2, some (.ref t), some (.ref i), some (.ref t2), some (.ref i2), o7, o8, o9, some (.ref D9.length), some (.ref D10.length)] D11) _ _
  refine if4_ok ((((h4.fr f49).core.src f10 sk9)).src f11 sk10) ((((h6.fr f49).core.src f10 sk9)).src f11 sk10) (lu.fr f11).at_ lv.at_ (fun w hw => su.subset hw) (fun w hw => sv.subset hw) fun D12 f12 => ?_
  exact k _ _ _ _ _ _ _ _ _ D12 (sk11.same f12)
theorem isW_a : IsW "a" := ⟨97, [], by decide +kernel, by omega, by omega, by simp, fun x hx => by cases hx⟩
theorem good_one : Good ["a"] [] [] := ⟨fun w hw => by rw [List.mem_singleton] at hw; subst hw; exact isW_a, fun w hw => (by cases hw), by simp, by simp, by simp, fun p hp => (by cases hp), by simp, by simp, by simp⟩
theorem good_two : Good [] ["a"] [] := ⟨fun w hw => (by cases hw), fun w hw => by rw [List.mem_singleton] at hw; subst hw; exact isW_a, by simp, by simp, by simp, fun p hp => (by cases hp), by simp, by simp, by simp⟩
theorem lst0 {ρ : Rho} : Ev (eLst aNil ρ D) P = (([] : List MV).length ≤ sizeLine ∧ P (.ref D.length) (D ++ [.lst []])) := by rw [ev_lst, ev_nil]
theorem lst1 {ρ : Rho} {v : MV} : Ev (eLst (aCons (eC v) aNil) ρ D) P = ([v].length ≤ sizeLine ∧ P (.ref D.length) (D ++ [.lst [v]])) := by rw [ev_lst, ev_cons, ev_c, ev_nil]
theorem law_ok {o : Ob} {ns : List Int} (ho : rdL [o] 0 = some (ns.map MV.int)) (hn : ns.length ≤ 63) : Ev (d_law [.ref 0] [o]) fun v _ => v = .bl true := by
  refine ev_run ?_
  show EvS (b_law [some (.ref 0), none, none, none, none, none, none, none, none, none, none, none] [o]) _ _
  unfold b_law
  rw [evS_seq, evS_set, ev_call, ev_cons, ev_v0, ev_nil]
  refine source_ok ho hn fun s c D1 sk => ?_
  show EvS (sSeq _ _ [some (.ref 0), some (.ref s), none, none, none, none, none, none, none, none, none, none] D1) _ _
  rw [evS_seq, evS_for]
  refine ev_rng1 (n := 4) ?_ (by omega)
  rw [ev_c]
  refine ⟨rfl, ?_⟩
  refine for_ok (fun n ρ D' => SrcOk D' s c ∧ ∃ o2 o3 o4 o5 o6 o7 o8 o9 o10 o11, ρ = [some (.ref 0), some (.ref s), o2, o3, o4, o5, o6, o7, o8, o9, o10, o11]) _ 0 _ _ ⟨sk, none, none, none, none, none, none, none, none, none, none, rfl⟩ ?_ ?_
  · rintro n ρ D2 _ _ ⟨sk2, o2, o3, o4, o5, o6, o7, o8, o9, o10, o11, rfl⟩
    refine ⟨rfl, .int (0 + (n : Nat)), D2, [some (.ref 0), some (.ref s), some (.int (0 + (n : Nat))), o3, o4, o5, o6, o7, o8, o9, o10, o11], rfl, rfl, ?_⟩
    refine turn_ok sk2 fun o3 o4 o5 o6 o7 o8 o9 o10 o11 D3 sk3 => ?_
    exact ⟨sk3, _, _, _, _, _, _, _, _, _, _, rfl⟩
  rintro ρ D2 ⟨sk2, o2, o3, o4, o5, o6, o7, o8, o9, o10, o11, rfl⟩
  refine ⟨rfl, ?_⟩
  rw [evS_ret, ev_op, ev_call, ev_cons]
  refine make_ok ?_
  rw [ev_cons, lst0]
  refine ⟨sz_le (by simp), ?_⟩
  rw [ev_cons, lst1]
  refine ⟨sz_le (by simp), ?_⟩
  rw [ev_cons, lst0]
  refine ⟨sz_le (by simp), ?_⟩
  rw [ev_nil]
  refine ⟨_, _, _, [], [], ["a"], [], rfl, get_old (get_old get_new), get_old get_new, get_new, .nil, good_two, fun D3 f3 t3 => ?_⟩
  rw [ev_nil]
  refine turned_ok t3 fun j D4 f4 _ t4 => ?_
  refine make_ok ?_
  rw [ev_cons, lst1]
  refine ⟨sz_le (by simp), ?_⟩
  rw [ev_cons, lst0]
  refine ⟨sz_le (by simp), ?_⟩
  rw [ev_cons, lst0]
  refine ⟨sz_le (by simp), ?_⟩
  rw [ev_nil]
  refine ⟨_, _, _, [], ["a"], [], [], rfl, get_old (get_old get_new), get_old get_new, get_new, .nil, good_one, fun D5 f5 t5 => ?_⟩
  have f45 : Fr none D4 D5 := ((Fr.snoc.trans Fr.snoc).trans Fr.snoc).trans f5
  refine eqO_ok (t4.fr f45) t5 ?_
  rw [decide_eq_true ⟨rfl, rfl, rfl⟩]
theorem main03 : ∀ ns : List Int, ns.length ≤ 63 → ∀ o, o = Ob.rol (ns.map MV.int) ∨ o = Ob.kls (ns.map MV.int) → ∃ D, d_law [.ref 0] [o] = .ok (.bl true) D := by
  intro ns hn o ho
  have h : rdL [o] 0 = some (ns.map MV.int) := by
    rcases ho with e | e <;> subst e <;> rfl
  obtain ⟨v, D, e, rfl⟩ := (law_ok h hn).get
  exact ⟨D, e⟩
end
end Mp

set_option Elab.async false
set_option linter.all false
set_option maxRecDepth 100000
set_option maxHeartbeats 0
namespace K03
open PySem PySem.Spec PyProof.Rows L2 Mp
def top (i : Nat) : Stmt := PySem.Challenge.pw_kindredbush_k03_whole_tables_turned.main.body.getD i (.Pass ⟨0, 0, 0, 0⟩)
abbrev t__law_source : Stmt := top 23
abbrev t__law_pick : Stmt := top 24
abbrev t__law_names : Stmt := top 27
abbrev t__law_of : Stmt := top 25
abbrev t__law_mixed : Stmt := top 26
abbrev t__law_ladder : Stmt := top 29
abbrev t__law_leads : Stmt := top 28
abbrev t__law_fits_of : Stmt := top 30
abbrev t__law_made : Stmt := top 31
abbrev t_is_list : Stmt := top 10
abbrev t_is_word : Stmt := top 9
abbrev t_wrong_word : Stmt := top 12
abbrev t_wrong_word_list : Stmt := top 13
abbrev t_is_tuple_of : Stmt := top 11
abbrev t_wrong_fits_part : Stmt := top 18
abbrev t_wrong_table_part : Stmt := top 17
abbrev t_fits_in_order : Stmt := top 19
abbrev t_Table_u_init__ : Stmt := inClass (top 16) 0
abbrev t__law_table_of : Stmt := top 33
abbrev t__law_turned_table : Stmt := top 35
abbrev t_Table_fits : Stmt := inClass (top 16) 3
abbrev t_Table_stems : Stmt := inClass (top 16) 1
abbrev t_Table_places : Stmt := inClass (top 16) 2
abbrev t_turned : Stmt := top 20
abbrev t__law_sorted_fits : Stmt := top 32
abbrev t_check_known : Stmt := top 14
abbrev t_Table_is_fit : Stmt := inClass (top 16) 4
abbrev t_Table_fits_of : Stmt := inClass (top 16) 5
abbrev t_Table_fits_at : Stmt := inClass (top 16) 6
abbrev t__law_told_right : Stmt := top 34
abbrev t_Table_u_eq__ : Stmt := inClass (top 16) 7
abbrev t__law_some_of : Stmt := top 36
abbrev t_part_of : Stmt := top 21
abbrev t_law : Stmt := top 37
def fa : List He.Fa := [.free "int", .free "abs", .glo "_law_source", .free "range", .free "len", .free "max", .glo "_law_pick", .free "str", .glo "_law_names", .glo "_law_of", .free "list", .glo "_law_mixed", .glo "_law_ladder", .glo "_law_leads", .glo "_law_fits_of", .glo "_law_made", .free "tuple", .free "isinstance", .glo "is_list", .free "enumerate", .int "LONGEST_WORD" 12, .str "LETTERS" "abcdefghijklmnopqrstuvwxyz", .str "DIGITS" "0123456789", .free "all", .glo "is_word", .glo "wrong_word", .glo "wrong_word_list", .glo "is_tuple_of", .glo "wrong_fits_part", .glo "wrong_table_part", .free "sorted", .glo "fits_in_order", .cls "Table", .noat "Table" "_stems", .noat "Table" "_places", .noat "Table" "_fits", .noat "Table" "_by_stem", .noat "Table" "_by_place", .glo "Table", .mkr "Table", .glo "_law_table_of", .glo "_law_turned_table", .meth "Table" "fits", .meth "Table" "stems", .meth "Table" "places", .glo "turned", .glo "_law_sorted_fits", .free "repr", .glo "check_known", .meth "Table" "is_fit", .meth "Table" "fits_of", .meth "Table" "fits_at", .glo "_law_told_right", .meth "Table" "__eq__", .glo "_law_some_of", .glo "part_of", .glo "law"]
def fn : List He.DefD := [
  ⟨("_law_source", none), "_law_source", "_law_source", defArgs t__law_source, defBody t__law_source, defScope t__law_source, [], []⟩,
  ⟨("_law_pick", none), "_law_pick", "_law_pick", defArgs t__law_pick, defBody t__law_pick, defScope t__law_pick, [], []⟩,
  ⟨("_law_names", none), "_law_names", "_law_names", defArgs t__law_names, defBody t__law_names, defScope t__law_names, [], []⟩,
  ⟨("_law_of", none), "_law_of", "_law_of", defArgs t__law_of, defBody t__law_of, defScope t__law_of, [], []⟩,
  ⟨("_law_mixed", none), "_law_mixed", "_law_mixed", defArgs t__law_mixed, defBody t__law_mixed, defScope t__law_mixed, [], []⟩,
  ⟨("_law_ladder", none), "_law_ladder", "_law_ladder", defArgs t__law_ladder, defBody t__law_ladder, defScope t__law_ladder, [], []⟩,
  ⟨("_law_leads", none), "_law_leads", "_law_leads", defArgs t__law_leads, defBody t__law_leads, defScope t__law_leads, [], []⟩,
  ⟨("_law_fits_of", none), "_law_fits_of", "_law_fits_of", defArgs t__law_fits_of, defBody t__law_fits_of, defScope t__law_fits_of, [], []⟩,
  ⟨("_law_made", none), "_law_made", "_law_made", defArgs t__law_made, defBody t__law_made, defScope t__law_made, [], []⟩,
  ⟨("is_list", none), "is_list", "is_list", defArgs t_is_list, defBody t_is_list, defScope t_is_list, [], []⟩,
  ⟨("is_word", none), "is_word", "is_word", defArgs t_is_word, defBody t_is_word, defScope t_is_word, [], []⟩,
  ⟨("wrong_word", none), "wrong_word", "wrong_word", defArgs t_wrong_word, defBody t_wrong_word, defScope t_wrong_word, [], []⟩,
  ⟨("wrong_word_list", none), "wrong_word_list", "wrong_word_list", defArgs t_wrong_word_list, defBody t_wrong_word_list, defScope t_wrong_word_list, [], []⟩,
  ⟨("is_tuple_of", none), "is_tuple_of", "is_tuple_of", defArgs t_is_tuple_of, defBody t_is_tuple_of, defScope t_is_tuple_of, [], []⟩,
  ⟨("wrong_fits_part", none), "wrong_fits_part", "wrong_fits_part", defArgs t_wrong_fits_part, defBody t_wrong_fits_part, defScope t_wrong_fits_part, [], []⟩,
  ⟨("wrong_table_part", none), "wrong_table_part", "wrong_table_part", defArgs t_wrong_table_part, defBody t_wrong_table_part, defScope t_wrong_table_part, [], []⟩,
  ⟨("fits_in_order", none), "fits_in_order", "fits_in_order", defArgs t_fits_in_order, defBody t_fits_in_order, defScope t_fits_in_order, [], []⟩,
  ⟨("Table", some "__init__"), "__init__", "Table.__init__", defArgs t_Table_u_init__, defBody t_Table_u_init__, defScope t_Table_u_init__, [], []⟩,
  ⟨("_law_table_of", none), "_law_table_of", "_law_table_of", defArgs t__law_table_of, defBody t__law_table_of, defScope t__law_table_of, [], []⟩,
  ⟨("_law_turned_table", none), "_law_turned_table", "_law_turned_table", defArgs t__law_turned_table, defBody t__law_turned_table, defScope t__law_turned_table, [], []⟩,
  ⟨("Table", some "fits"), "fits", "Table.fits", defArgs t_Table_fits, defBody t_Table_fits, defScope t_Table_fits, [], []⟩,
  ⟨("Table", some "stems"), "stems", "Table.stems", defArgs t_Table_stems, defBody t_Table_stems, defScope t_Table_stems, [], []⟩,
  ⟨("Table", some "places"), "places", "Table.places", defArgs t_Table_places, defBody t_Table_places, defScope t_Table_places, [], []⟩,
  ⟨("turned", none), "turned", "turned", defArgs t_turned, defBody t_turned, defScope t_turned, [], []⟩,
  ⟨("_law_sorted_fits", none), "_law_sorted_fits", "_law_sorted_fits", defArgs t__law_sorted_fits, defBody t__law_sorted_fits, defScope t__law_sorted_fits, [], []⟩,
  ⟨("check_known", none), "check_known", "check_known", defArgs t_check_known, defBody t_check_known, defScope t_check_known, [], []⟩,
  ⟨("Table", some "is_fit"), "is_fit", "Table.is_fit", defArgs t_Table_is_fit, defBody t_Table_is_fit, defScope t_Table_is_fit, [], []⟩,
  ⟨("Table", some "fits_of"), "fits_of", "Table.fits_of", defArgs t_Table_fits_of, defBody t_Table_fits_of, defScope t_Table_fits_of, [], []⟩,
  ⟨("Table", some "fits_at"), "fits_at", "Table.fits_at", defArgs t_Table_fits_at, defBody t_Table_fits_at, defScope t_Table_fits_at, [], []⟩,
  ⟨("_law_told_right", none), "_law_told_right", "_law_told_right", defArgs t__law_told_right, defBody t__law_told_right, defScope t__law_told_right, [], []⟩,
  ⟨("Table", some "__eq__"), "__eq__", "Table.__eq__", defArgs t_Table_u_eq__, defBody t_Table_u_eq__, defScope t_Table_u_eq__, [], []⟩,
  ⟨("_law_some_of", none), "_law_some_of", "_law_some_of", defArgs t__law_some_of, defBody t__law_some_of, defScope t__law_some_of, [], []⟩,
  ⟨("part_of", none), "part_of", "part_of", defArgs t_part_of, defBody t_part_of, defScope t_part_of, [], []⟩,
  ⟨("law", none), "law", "law", defArgs t_law, defBody t_law, defScope t_law, [], []⟩]
def exs : List (PySem.W.Frag → Bool) := [tabB [.b "list", .b "tuple"] [(.b "str", false), (.b "list", true), (.b "tuple", true), (.b "int", false), (.b "bool", false), (.b "dict", false), (.b "NoneType", false), (.own "Table", false)],
  tabB [.b "str"] [(.b "str", true), (.b "list", false), (.b "tuple", false), (.b "int", false), (.b "bool", false), (.b "dict", false), (.b "NoneType", false), (.own "Table", false)],
  tabB [.b "tuple"] [(.b "str", false), (.b "list", false), (.b "tuple", true), (.b "int", false), (.b "bool", false), (.b "dict", false), (.b "NoneType", false), (.own "Table", false)],
  tabB [.own "Table"] [(.b "str", false), (.b "list", false), (.b "tuple", false), (.b "int", false), (.b "bool", false), (.b "dict", false), (.b "NoneType", false), (.own "Table", true)],
  fun K => eqcB K "Table"]
abbrev FX (K : PySem.W.Frag) (mg : Str → Option Value) : Prop := Fx fa fn exs K mg
variable {P : Program} {w : World} {K : PySem.W.Frag} {mg : Str → Option Value} {base : Heap}
def b__law_source : SM :=
  sSeq (sSet 1 (eC (.int 11)))
  (sSeq (sFor (wSeq (eVar 0)) (gN 2) (sSet 1 (eOp pMod (eCall (f1 intM) (aCons (eOp pAdd (eOp pAdd (eOp pMul (eVar 1) (eC (.int 69069))) (eOp pMul (eVar 2) (eC (.int 31)))) (eC (.int 5))) (aNil))) (eC (.int 2147483629)))))
  (sRet (eDisp [(eC (.str "cells"), eUn pRevA (eLc (wSeq (eVar 0)) (gN 2) (bYes) (eCall (f1 absM) (aCons (eVar 2) (aNil))) [2])), (eC (.str "left"), eC (.int 1)), (eC (.str "mixed"), eVar 1), (eC (.str "turn"), eC (.int 0))])))
def d__law_source : List MV → Sto → Re MV := runB 3 b__law_source
theorem sc__law_source : FnScope ["_law_script", "_law_mixed_here", "_law_cell"] ["_law_script"] (defScope t__law_source) := ⟨rfl, rfl, rfl, by decide +kernel, rfl, by decide +kernel, by decide +kernel⟩
theorem k__law_source_0 : BlkOk ["_law_script", "_law_mixed_here", "_law_cell"] (defScope t__law_source) {
                            kind := PySem.ScopeKind.function,
                            names := [
                              (PySem.Str.ofString ".0", PySem.NameKind.local),
                              (PySem.Str.ofString "_law_cell", PySem.NameKind.local),
                              (PySem.Str.ofString "abs", PySem.NameKind.globalImplicit)],
                            isGenerator := false,
                            isCoroutine := false,
                            more := [] : PySem.Scope } [("_law_cell", 2)] := ⟨rfl, by decide +kernel, by decide +kernel, by decide +kernel, by decide +kernel⟩
theorem S__law_source (q : FX K mg) : Says P w K mg base [] 1 "_law_source" 1 d__law_source := by
  obtain ⟨fd, fn⟩ := q.d.def_ 0 (d := ⟨("_law_source", none), "_law_source", "_law_source", defArgs t__law_source, defBody t__law_source, defScope t__law_source, [], []⟩) rfl
  refine ⟨q.gl 2, fn.kp, fd, _, fn_mk (N := ["_law_script", "_law_mixed_here", "_law_cell"]) (ps := ["_law_script"]) fn sc__law_source (fun cdv A outer s H E c own => ?_), fn.bindsN (ps := ["_law_script"]) fun _ _ _ _ _ _ us hl => match us, hl with | [_], _ => rfl⟩
  exact (ms_cons (mp_set c.nd rfl (.inl rfl) me_int)
    (ms_cons (mp_for own c.calm (mi_seq (me_var 0)) (mg_name c.nd rfl (.inl rfl)) (ms_one (mp_set c.nd rfl (.inl rfl) (x_mod (x_int (q.fr 0) rfl (ma_cons (x_add (x_add (x_mul (me_var 1) me_int) (x_mul (me_var 2) me_int)) me_int) ma_nil)) me_int))))
    (ms_one (mp_ret (me_disp (mpp_cons me_str (me_revA (me_lc (own := [("_law_cell", 2)]) c.calm c.nd (mi_seq (me_var 0)) k__law_source_0 (fun s H C cl fp => (mg_name (c.blk _ _ _ _ _).nd rfl (.inl rfl))) (fun s H C cl fp => mpts_nil) (fun s H C cl fp => (x_abs (q.fr 1) rfl (ma_cons (me_var 2) ma_nil))))) (mpp_cons me_str me_int (mpp_cons me_str (me_var 1) (mpp_cons me_str me_int mpp_nil)))))))))
def b__law_pick : SM :=
  sSeq (sWhile (bAnd (bTest (eOp pGt (eVar 1) (eC (.int 1)))) (bAnd (bTest (eOp pLt (eOp pIx (eVar 0) (eC (.str "left"))) (eC (.int 2)))) (bTest (eOp pGt (eCall (f1 lenM) (aCons (eOp pIx (eVar 0) (eC (.str "cells"))) (aNil))) (eC (.int 0)))))) (sDPutM (eVar 0) (eC (.str "left")) (eBm0 mPop (eOp pIx (eVar 0) (eC (.str "cells"))))))
  (sSeq (sSet 2 (eOp pIx (eVar 0) (eC (.str "left"))))
  (sSeq (sIf (bOr (bTest (eOp pLt (eVar 1) (eC (.int 2)))) (bTest (eOp pGt (eVar 2) (eC (.int 1))))) (sSeq (sDPutM (eVar 0) (eC (.str "left")) (eOp pFdiv (eVar 2) (eCall (f2 max2M) (aCons (eC (.int 1)) (aCons (eVar 1) (aNil))))))
  (sRet (eOp pMod (eCall (f1 intM) (aCons (eVar 2) (aNil))) (eCall (f2 max2M) (aCons (eC (.int 1)) (aCons (eVar 1) (aNil))))))) (sNext))
  (sSeq (sDPutM (eVar 0) (eC (.str "turn")) (eOp pAdd (eOp pIx (eVar 0) (eC (.str "turn"))) (eC (.int 1))))
  (sSeq (sSet 3 (eOp pMod (eCall (f1 intM) (aCons (eOp pAdd (eOp pIx (eVar 0) (eC (.str "mixed"))) (eOp pMul (eOp pIx (eVar 0) (eC (.str "turn"))) (eC (.int 104729)))) (aNil))) (eC (.int 998244353))))
  (sSeq (sSet 3 (eOp pMod (eCall (f1 intM) (aCons (eOp pAdd (eOp pMul (eVar 3) (eVar 3)) (eOp pMul (eOp pIx (eVar 0) (eC (.str "turn"))) (eC (.int 17)))) (aNil))) (eC (.int 2147483647))))
  (sSeq (sDPutM (eVar 0) (eC (.str "mixed")) (eVar 3))
  (sRet (eOp pMod (eCall (f1 intM) (aCons (eOp pFdiv (eVar 3) (eC (.int 16))) (aNil))) (eVar 1)))))))))
def d__law_pick : List MV → Sto → Re MV := runB 4 b__law_pick
theorem sc__law_pick : FnScope ["_law_source_here", "_law_many", "_law_left", "_law_mixed_here"] ["_law_source_here", "_law_many"] (defScope t__law_pick) := ⟨rfl, rfl, rfl, by decide +kernel, rfl, by decide +kernel, by decide +kernel⟩
theorem S__law_pick (q : FX K mg) : Says P w K mg base [] 1 "_law_pick" 2 d__law_pick := by
  obtain ⟨fd, fn⟩ := q.d.def_ 1 (d := ⟨("_law_pick", none), "_law_pick", "_law_pick", defArgs t__law_pick, defBody t__law_pick, defScope t__law_pick, [], []⟩) rfl
  refine ⟨q.gl 6, fn.kp, fd, _, fn_mk (N := ["_law_source_here", "_law_many", "_law_left", "_law_mixed_here"]) (ps := ["_law_source_here", "_law_many"]) fn sc__law_pick (fun cdv A outer s H E c own => ?_), fn.bindsN (ps := ["_law_source_here", "_law_many"]) fun _ _ _ _ _ _ us hl => match us, hl with | [_, _], _ => rfl⟩
  exact (ms_cons (mp_while own (PW.pt (mw_and (t_gt (me_var 1) me_int) (mw_and (t_lt (x_ix c (me_var 0) me_str) me_int) (mw_one (t_gt (x_len (q.fr 4) rfl (ma_cons (x_ix c (me_var 0) me_str) ma_nil)) me_int))))) (ms_one (mp_dput c.u1 (me_var 0) me_str (me_pop (x_ix c (me_var 0) me_str)))))
    (ms_cons (mp_set c.nd rfl (.inl rfl) (x_ix c (me_var 0) me_str))
    (ms_cons (mp_if (PW.pt (mw_or (t_lt (me_var 1) me_int) (mw_oneO (t_gt (me_var 2) me_int)))) (ms_cons (mp_dput c.u1 (me_var 0) me_str (x_fdiv (me_var 2) (x_max2 c (q.fr 5) rfl (ma_cons me_int (ma_cons (me_var 1) ma_nil)))))
    (ms_one (mp_ret (x_mod (x_int (q.fr 0) rfl (ma_cons (me_var 2) ma_nil)) (x_max2 c (q.fr 5) rfl (ma_cons me_int (ma_cons (me_var 1) ma_nil))))))) ms_nil)
    (ms_cons (mp_dput c.u1 (me_var 0) me_str (x_add (x_ix c (me_var 0) me_str) me_int))
    (ms_cons (mp_set c.nd rfl (.inl rfl) (x_mod (x_int (q.fr 0) rfl (ma_cons (x_add (x_ix c (me_var 0) me_str) (x_mul (x_ix c (me_var 0) me_str) me_int)) ma_nil)) me_int))
    (ms_cons (mp_set c.nd rfl (.inl rfl) (x_mod (x_int (q.fr 0) rfl (ma_cons (x_add (x_mul (me_var 3) (me_var 3)) (x_mul (x_ix c (me_var 0) me_str) me_int)) ma_nil)) me_int))
    (ms_cons (mp_dput c.u1 (me_var 0) me_str (me_var 3))
    (ms_one (mp_ret (x_mod (x_int (q.fr 0) rfl (ma_cons (x_fdiv (me_var 3) me_int) ma_nil)) (me_var 1)))))))))))
def b__law_names : SM :=
  sSeq (sPar3 2 3 4 (eCall d__law_pick (aCons (eVar 0) (aCons (eC (.int 100)) (aNil)))) (eLst (aNil)) (eLst (aCons (eC (.str "")) (aCons (eC (.str "")) (aCons (eC (.str "")) (aCons (eC (.str "k")) (aCons (eC (.str "kkkkkkkkk")) (aNil))))))))
  (sSeq (sFor (wRng1 (eVar 1)) (gN 5) (sSeq (sSet 6 (eOp pIx (eC (.str "abcdefghijklmnopqrstuvwxyz")) (eCall d__law_pick (aCons (eVar 0) (aCons (eC (.int 26)) (aNil))))))
  (sDrop (eBm mAppend (eVar 3) (aCons (eOp pAdd (eOp pAdd (eVar 6) (eSl (eCall (f1 strM) (aCons (eOp pAdd (eC (.int 100)) (eOp pMod (eCall (f1 intM) (aCons (eOp pAdd (eVar 2) (eOp pMul (eC (.int 37)) (eVar 5))) (aNil))) (eC (.int 100)))) (aNil))) (oSome (eC (.int 1))) (oNone))) (eOp pIx (eVar 4) (eCall d__law_pick (aCons (eVar 0) (aCons (eC (.int 5)) (aNil)))))) (aNil))))))
  (sRet (eVar 3)))
def d__law_names : List MV → Sto → Re MV := runB 7 b__law_names
theorem sc__law_names : FnScope ["_law_source_here", "_law_many", "_law_shift", "_law_names_here", "_law_tails", "_law_k", "_law_letter"] ["_law_source_here", "_law_many"] (defScope t__law_names) := ⟨rfl, rfl, rfl, by decide +kernel, rfl, by decide +kernel, by decide +kernel⟩
theorem S__law_names (q : FX K mg) : Says P w K mg base [] 2 "_law_names" 2 d__law_names := by
  obtain ⟨fd, fn⟩ := q.d.def_ 2 (d := ⟨("_law_names", none), "_law_names", "_law_names", defArgs t__law_names, defBody t__law_names, defScope t__law_names, [], []⟩) rfl
  refine ⟨q.gl 8, fn.kp, fd, _, fn_mk (N := ["_law_source_here", "_law_many", "_law_shift", "_law_names_here", "_law_tails", "_law_k", "_law_letter"]) (ps := ["_law_source_here", "_law_many"]) fn sc__law_names (fun cdv A outer s H E c own => ?_), fn.bindsN (ps := ["_law_source_here", "_law_many"]) fun _ _ _ _ _ _ us hl => match us, hl with | [_, _], _ => rfl⟩
  exact (ms_cons (mp_par3 c.calm c.nd rfl rfl rfl (by decide) (by decide) (by decide) rfl rfl rfl (x_call c (S__law_pick q) (by decide) (amL_cons (amL_cons amL_nil)) rfl (ma_cons (me_var 0) (ma_cons me_int ma_nil))) (me_lst ma_nil) (me_lst (ma_cons me_str (ma_cons me_str (ma_cons me_str (ma_cons me_str (ma_cons me_str ma_nil)))))) rfl)
    (ms_cons (mp_for own c.calm (mi_rng1 rfl (q.fr 3) (me_var 1)) (mg_name c.nd rfl (.inl rfl)) (ms_cons (mp_set c.nd rfl (.inl rfl) (x_ix c me_str (x_call c (S__law_pick q) (by decide) (amL_cons (amL_cons amL_nil)) rfl (ma_cons (me_var 0) (ma_cons me_int ma_nil)))))
    (ms_one (mp_expr (me_append (me_var 3) (ma_cons (x_add (x_add (me_var 6) (me_sl (x_str (q.fr 7) rfl (ma_cons (x_add me_int (x_mod (x_int (q.fr 0) rfl (ma_cons (x_add (me_var 2) (x_mul me_int (me_var 5))) ma_nil)) me_int)) ma_nil)) (mo_some me_int) mo_none)) (x_ix c (me_var 4) (x_call c (S__law_pick q) (by decide) (amL_cons (amL_cons amL_nil)) rfl (ma_cons (me_var 0) (ma_cons me_int ma_nil))))) ma_nil))))))
    (ms_one (mp_ret (me_var 3)))))
def b__law_of : SM :=
  sRet (eOp pIx (eVar 1) (eCall d__law_pick (aCons (eVar 0) (aCons (eCall (f1 lenM) (aCons (eVar 1) (aNil))) (aNil)))))
def d__law_of : List MV → Sto → Re MV := runB 2 b__law_of
theorem sc__law_of : FnScope ["_law_source_here", "_law_some"] ["_law_source_here", "_law_some"] (defScope t__law_of) := ⟨rfl, rfl, rfl, by decide +kernel, rfl, by decide +kernel, by decide +kernel⟩
theorem S__law_of (q : FX K mg) : Says P w K mg base [] 2 "_law_of" 2 d__law_of := by
  obtain ⟨fd, fn⟩ := q.d.def_ 3 (d := ⟨("_law_of", none), "_law_of", "_law_of", defArgs t__law_of, defBody t__law_of, defScope t__law_of, [], []⟩) rfl
  refine ⟨q.gl 9, fn.kp, fd, _, fn_mk (N := ["_law_source_here", "_law_some"]) (ps := ["_law_source_here", "_law_some"]) fn sc__law_of (fun cdv A outer s H E c own => ?_), fn.bindsN (ps := ["_law_source_here", "_law_some"]) fun _ _ _ _ _ _ us hl => match us, hl with | [_, _], _ => rfl⟩
  exact (ms_one (mp_ret (x_ix c (me_var 1) (x_call c (S__law_pick q) (by decide) (amL_cons (amL_cons amL_nil)) rfl (ma_cons (me_var 0) (ma_cons (x_len (q.fr 4) rfl (ma_cons (me_var 1) ma_nil)) ma_nil))))))
def b__law_mixed : SM :=
  sSeq (sSet 2 (eCall bList (aCons (eVar 1) (aNil))))
  (sRet (eLc (wRng1 (eCall (f1 lenM) (aCons (eVar 2) (aNil)))) (gN 3) (bYes) (eBm mPopAt (eVar 2) (aCons (eCall d__law_pick (aCons (eVar 0) (aCons (eCall (f1 lenM) (aCons (eVar 2) (aNil))) (aNil)))) (aNil))) [3]))
def d__law_mixed : List MV → Sto → Re MV := runB 4 b__law_mixed
theorem sc__law_mixed : FnScope ["_law_source_here", "_law_things", "_law_rest", "_law_lap"] ["_law_source_here", "_law_things"] (defScope t__law_mixed) := ⟨rfl, rfl, rfl, by decide +kernel, rfl, by decide +kernel, by decide +kernel⟩
theorem k__law_mixed_0 : BlkOk ["_law_source_here", "_law_things", "_law_rest", "_law_lap"] (defScope t__law_mixed) {
                      kind := PySem.ScopeKind.function,
                      names := [
                        (PySem.Str.ofString ".0", PySem.NameKind.local),
                        (PySem.Str.ofString "_law_lap", PySem.NameKind.local),
                        (PySem.Str.ofString "_law_pick", PySem.NameKind.globalImplicit),
                        (PySem.Str.ofString "len", PySem.NameKind.globalImplicit),
                        (PySem.Str.ofString "_law_rest", PySem.NameKind.free),
                        (PySem.Str.ofString "_law_source_here", PySem.NameKind.free)],
                      isGenerator := false,
                      isCoroutine := false,
                      more := [] : PySem.Scope } [("_law_lap", 3)] := ⟨rfl, by decide +kernel, by decide +kernel, by decide +kernel, by decide +kernel⟩
theorem S__law_mixed (q : FX K mg) : Says P w K mg base [] 2 "_law_mixed" 2 d__law_mixed := by
  obtain ⟨fd, fn⟩ := q.d.def_ 4 (d := ⟨("_law_mixed", none), "_law_mixed", "_law_mixed", defArgs t__law_mixed, defBody t__law_mixed, defScope t__law_mixed, [], []⟩) rfl
  refine ⟨q.gl 11, fn.kp, fd, _, fn_mk (N := ["_law_source_here", "_law_things", "_law_rest", "_law_lap"]) (ps := ["_law_source_here", "_law_things"]) fn sc__law_mixed (fun cdv A outer s H E c own => ?_), fn.bindsN (ps := ["_law_source_here", "_law_things"]) fun _ _ _ _ _ _ us hl => match us, hl with | [_, _], _ => rfl⟩
  exact (ms_cons (mp_set c.nd rfl (.inr rfl) (x_list (q.fr 10) rfl (ma_cons (me_var 1) ma_nil)))
    (ms_one (mp_ret (me_lc (own := [("_law_lap", 3)]) c.calm c.nd (mi_rng1 rfl (q.fr 3) (x_len (q.fr 4) rfl (ma_cons (me_var 2) ma_nil))) k__law_mixed_0 (fun s H C cl fp => (mg_name (c.blk _ _ _ _ _).nd rfl (.inl rfl))) (fun s H C cl fp => mpts_nil) (fun s H C cl fp => (me_popAt (me_var 2) (ma_cons (x_call (c.blk _ _ _ _ _) (S__law_pick q) (by decide) (amL_cons (amL_cons amL_nil)) rfl (ma_cons (me_var 0) (ma_cons (x_len (q.fr 4) rfl (ma_cons (me_var 2) ma_nil)) ma_nil))) ma_nil)))))))
def b__law_ladder : SM :=
  sSeq (sAsg (eTup (aCons (eCall d__law_names (aCons (eVar 0) (aCons (eOp pAdd (eC (.int 1)) (eCall d__law_pick (aCons (eVar 0) (aCons (eVar 1) (aNil))))) (aNil)))) (aCons (eLst (aNil)) (aNil)))) (gT [gN 2, gN 3]))
  (sSeq (sFor (wRng2 (eC (.int 1)) (eCall (f1 lenM) (aCons (eVar 2) (aNil)))) (gN 4) (sIf (bTest (eOp pGt (eCall d__law_pick (aCons (eVar 0) (aCons (eC (.int 5)) (aNil)))) (eC (.int 0)))) (sSeq (sSet 5 (eTup (aCons (eOp pIx (eVar 2) (eVar 4)) (aCons (eOp pIx (eVar 2) (eCall d__law_pick (aCons (eVar 0) (aCons (eVar 4) (aNil))))) (aNil)))))
  (sDrop (eBm mAppend (eVar 3) (aCons (eIf (bTest (eOp pEqA (eCall d__law_pick (aCons (eVar 0) (aCons (eC (.int 2)) (aNil)))) (eC (.int 0)))) (eVar 5) (eUn pRevA (eVar 5))) (aNil))))) (sNext)))
  (sSeq (sPar 6 7 (eCall d__law_names (aCons (eVar 0) (aCons (eOp pAdd (eC (.int 1)) (eCall d__law_pick (aCons (eVar 0) (aCons (eC (.int 4)) (aNil))))) (aNil)))) (eCall d__law_names (aCons (eVar 0) (aCons (eOp pAdd (eC (.int 1)) (eCall d__law_pick (aCons (eVar 0) (aCons (eC (.int 4)) (aNil))))) (aNil)))))
  (sSeq (sSet 8 (eLc (wSeq (eVar 6)) (gN 10) (bYes) (eTup (aCons (eVar 10) (aCons (eCall d__law_of (aCons (eVar 0) (aCons (eVar 2) (aNil)))) (aNil)))) [10]))
  (sSeq (sSet 9 (eOp pAdd (eLst (aCons (eTup (aCons (eOp pIx (eVar 7) (eC (.int 0))) (aCons (eOp pIx (eOp pIx (eVar 8) (eC (.int 0))) (eC (.int 1))) (aNil)))) (aNil))) (eLc (wSeq (eSl (eVar 7) (oSome (eC (.int 1))) (oNone))) (gN 11) (bYes) (eTup (aCons (eVar 11) (aCons (eCall d__law_of (aCons (eVar 0) (aCons (eVar 2) (aNil)))) (aNil)))) [11])))
  (sSeq (sSet 9 (eCall d__law_mixed (aCons (eVar 0) (aCons (eVar 9) (aNil)))))
  (sRet (eDisp [(eC (.str "knots"), eVar 2), (eC (.str "arrows"), eCall d__law_mixed (aCons (eVar 0) (aCons (eVar 3) (aNil)))), (eC (.str "stems"), eVar 8), (eC (.str "places"), eVar 9)])))))))
def d__law_ladder : List MV → Sto → Re MV := runB 12 b__law_ladder
theorem sc__law_ladder : FnScope ["_law_source_here", "_law_most", "_law_knots", "_law_arrows", "_law_k", "_law_pair", "_law_stems", "_law_places", "_law_homes", "_law_others", "_law_stem", "_law_place"] ["_law_source_here", "_law_most"] (defScope t__law_ladder) := ⟨rfl, rfl, rfl, by decide +kernel, rfl, by decide +kernel, by decide +kernel⟩
theorem k__law_ladder_0 : BlkOk ["_law_source_here", "_law_most", "_law_knots", "_law_arrows", "_law_k", "_law_pair", "_law_stems", "_law_places", "_law_homes", "_law_others", "_law_stem", "_law_place"] (defScope t__law_ladder) {
                    kind := PySem.ScopeKind.function,
                    names := [
                      (PySem.Str.ofString ".0", PySem.NameKind.local),
                      (PySem.Str.ofString "_law_stem", PySem.NameKind.local),
                      (PySem.Str.ofString "_law_of", PySem.NameKind.globalImplicit),
                      (PySem.Str.ofString "_law_knots", PySem.NameKind.free),
                      (PySem.Str.ofString "_law_source_here", PySem.NameKind.free)],
                    isGenerator := false,
                    isCoroutine := false,
                    more := [] : PySem.Scope } [("_law_stem", 10)] := ⟨rfl, by decide +kernel, by decide +kernel, by decide +kernel, by decide +kernel⟩
theorem k__law_ladder_1 : BlkOk ["_law_source_here", "_law_most", "_law_knots", "_law_arrows", "_law_k", "_law_pair", "_law_stems", "_law_places", "_law_homes", "_law_others", "_law_stem", "_law_place"] (defScope t__law_ladder) {
                      kind := PySem.ScopeKind.function,
                      names := [
                        (PySem.Str.ofString ".0", PySem.NameKind.local),
                        (PySem.Str.ofString "_law_place", PySem.NameKind.local),
                        (PySem.Str.ofString "_law_of", PySem.NameKind.globalImplicit),
                        (PySem.Str.ofString "_law_knots", PySem.NameKind.free),
                        (PySem.Str.ofString "_law_source_here", PySem.NameKind.free)],
                      isGenerator := false,
                      isCoroutine := false,
                      more := [] : PySem.Scope } [("_law_place", 11)] := ⟨rfl, by decide +kernel, by decide +kernel, by decide +kernel, by decide +kernel⟩
theorem S__law_ladder (q : FX K mg) : Says P w K mg base [] 3 "_law_ladder" 2 d__law_ladder := by
  obtain ⟨fd, fn⟩ := q.d.def_ 5 (d := ⟨("_law_ladder", none), "_law_ladder", "_law_ladder", defArgs t__law_ladder, defBody t__law_ladder, defScope t__law_ladder, [], []⟩) rfl
  refine ⟨q.gl 12, fn.kp, fd, _, fn_mk (N := ["_law_source_here", "_law_most", "_law_knots", "_law_arrows", "_law_k", "_law_pair", "_law_stems", "_law_places", "_law_homes", "_law_others", "_law_stem", "_law_place"]) (ps := ["_law_source_here", "_law_most"]) fn sc__law_ladder (fun cdv A outer s H E c own => ?_), fn.bindsN (ps := ["_law_source_here", "_law_most"]) fun _ _ _ _ _ _ us hl => match us, hl with | [_, _], _ => rfl⟩
  exact (ms_cons (mp_asg (me_tup (ma_cons (x_call c (S__law_names q) (by decide) (amL_cons (amL_cons amL_nil)) rfl (ma_cons (me_var 0) (ma_cons (x_add me_int (x_call c (S__law_pick q) (by decide) (amL_cons (amL_cons amL_nil)) rfl (ma_cons (me_var 0) (ma_cons (me_var 1) ma_nil)))) ma_nil))) (ma_cons (me_lst ma_nil) ma_nil))) (mg_tup c.calm (mgs_cons (mg_name c.nd rfl (.inr rfl)) (mgs_cons (mg_name c.nd rfl (.inl rfl)) mgs_nil))))
    (ms_cons (mp_for own c.calm (mi_rng2 rfl (q.fr 3) me_int (x_len (q.fr 4) rfl (ma_cons (me_var 2) ma_nil))) (mg_name c.nd rfl (.inl rfl)) (ms_one (mp_if (t_gt (x_call c (S__law_pick q) (by decide) (amL_cons (amL_cons amL_nil)) rfl (ma_cons (me_var 0) (ma_cons me_int ma_nil))) me_int) (ms_cons (mp_set c.nd rfl (.inl rfl) (me_tup (ma_cons (x_ix c (me_var 2) (me_var 4)) (ma_cons (x_ix c (me_var 2) (x_call c (S__law_pick q) (by decide) (amL_cons (amL_cons amL_nil)) rfl (ma_cons (me_var 0) (ma_cons (me_var 4) ma_nil)))) ma_nil))))
    (ms_one (mp_expr (me_append (me_var 3) (ma_cons (me_if (t_eq c (x_call c (S__law_pick q) (by decide) (amL_cons (amL_cons amL_nil)) rfl (ma_cons (me_var 0) (ma_cons me_int ma_nil))) me_int) (me_var 5) (me_revA (me_var 5))) ma_nil))))) ms_nil)))
    (ms_cons (mp_par c.calm c.nd rfl rfl (by decide) rfl rfl (x_call c (S__law_names q) (by decide) (amL_cons (amL_cons amL_nil)) rfl (ma_cons (me_var 0) (ma_cons (x_add me_int (x_call c (S__law_pick q) (by decide) (amL_cons (amL_cons amL_nil)) rfl (ma_cons (me_var 0) (ma_cons me_int ma_nil)))) ma_nil))) (x_call c (S__law_names q) (by decide) (amL_cons (amL_cons amL_nil)) rfl (ma_cons (me_var 0) (ma_cons (x_add me_int (x_call c (S__law_pick q) (by decide) (amL_cons (amL_cons amL_nil)) rfl (ma_cons (me_var 0) (ma_cons me_int ma_nil)))) ma_nil))) rfl)
    (ms_cons (mp_setLc (own := [("_law_stem", 10)]) c.calm c.nd rfl rfl (sw_true rfl rfl rfl rfl) (mi_seq (me_var 6)) k__law_ladder_0 (fun s H C cl fp => (mg_name (c.blk _ _ _ _ _).nd rfl (.inl rfl))) (fun s H C cl fp => mpts_nil) (fun s H C cl fp => (me_tup (ma_cons (me_var 10) (ma_cons (x_call (c.blk _ _ _ _ _) (S__law_of q) (by decide) (amL_cons (amL_cons amL_nil)) rfl (ma_cons (me_var 0) (ma_cons (me_var 2) ma_nil))) ma_nil)))))
    (ms_cons (mp_set c.nd rfl (.inl rfl) (x_add (me_lst (ma_cons (me_tup (ma_cons (x_ix c (me_var 7) me_int) (ma_cons (x_ix c (x_ix c (me_var 8) me_int) me_int) ma_nil))) ma_nil)) (me_lc (own := [("_law_place", 11)]) c.calm c.nd (mi_seq (me_sl (me_var 7) (mo_some me_int) mo_none)) k__law_ladder_1 (fun s H C cl fp => (mg_name (c.blk _ _ _ _ _).nd rfl (.inl rfl))) (fun s H C cl fp => mpts_nil) (fun s H C cl fp => (me_tup (ma_cons (me_var 11) (ma_cons (x_call (c.blk _ _ _ _ _) (S__law_of q) (by decide) (amL_cons (amL_cons amL_nil)) rfl (ma_cons (me_var 0) (ma_cons (me_var 2) ma_nil))) ma_nil)))))))
    (ms_cons (mp_set c.nd rfl (.inl rfl) (x_call c (S__law_mixed q) (by decide) (amL_cons (amL_cons amL_nil)) rfl (ma_cons (me_var 0) (ma_cons (me_var 9) ma_nil))))
    (ms_one (mp_ret (me_disp (mpp_cons me_str (me_var 2) (mpp_cons me_str (x_call c (S__law_mixed q) (by decide) (amL_cons (amL_cons amL_nil)) rfl (ma_cons (me_var 0) (ma_cons (me_var 3) ma_nil))) (mpp_cons me_str (me_var 8) (mpp_cons me_str (me_var 9) mpp_nil)))))))))))))
def b__law_leads : SM :=
  sSeq (sSet 3 (eLst (aCons (eVar 1) (aNil))))
  (sSeq (sFor (wRng1 (eCall (f1 lenM) (aCons (eVar 0) (aNil)))) (gN 4) (sSet 3 (eOp pAdd (eVar 3) (eLc (wSeq (eVar 0)) (gN 5) (bAnd (bTest (eOp pIn (eOp pIx (eVar 5) (eC (.int 0))) (eVar 3))) (bTest (eOp pNotIn (eOp pIx (eVar 5) (eC (.int 1))) (eVar 3)))) (eOp pIx (eVar 5) (eC (.int 1))) [5]))))
  (sRet (eOp pIn (eVar 2) (eVar 3))))
def d__law_leads : List MV → Sto → Re MV := runB 6 b__law_leads
theorem sc__law_leads : FnScope ["_law_arrows", "_law_one", "_law_other", "_law_met", "_law_lap", "_law_arrow"] ["_law_arrows", "_law_one", "_law_other"] (defScope t__law_leads) := ⟨rfl, rfl, rfl, by decide +kernel, rfl, by decide +kernel, by decide +kernel⟩
theorem k__law_leads_0 : BlkOk ["_law_arrows", "_law_one", "_law_other", "_law_met", "_law_lap", "_law_arrow"] (defScope t__law_leads) {
                          kind := PySem.ScopeKind.function,
                          names := [
                            (PySem.Str.ofString ".0", PySem.NameKind.local),
                            (PySem.Str.ofString "_law_arrow", PySem.NameKind.local),
                            (PySem.Str.ofString "_law_met", PySem.NameKind.free)],
                          isGenerator := false,
                          isCoroutine := false,
                          more := [] : PySem.Scope } [("_law_arrow", 5)] := ⟨rfl, by decide +kernel, by decide +kernel, by decide +kernel, by decide +kernel⟩
theorem S__law_leads (q : FX K mg) : Says P w K mg base [] 1 "_law_leads" 3 d__law_leads := by
  obtain ⟨fd, fn⟩ := q.d.def_ 6 (d := ⟨("_law_leads", none), "_law_leads", "_law_leads", defArgs t__law_leads, defBody t__law_leads, defScope t__law_leads, [], []⟩) rfl
  refine ⟨q.gl 13, fn.kp, fd, _, fn_mk (N := ["_law_arrows", "_law_one", "_law_other", "_law_met", "_law_lap", "_law_arrow"]) (ps := ["_law_arrows", "_law_one", "_law_other"]) fn sc__law_leads (fun cdv A outer s H E c own => ?_), fn.bindsN (ps := ["_law_arrows", "_law_one", "_law_other"]) fun _ _ _ _ _ _ us hl => match us, hl with | [_, _, _], _ => rfl⟩
  exact (ms_cons (mp_set c.nd rfl (.inr rfl) (me_lst (ma_cons (me_var 1) ma_nil)))
    (ms_cons (mp_for own c.calm (mi_rng1 rfl (q.fr 3) (x_len (q.fr 4) rfl (ma_cons (me_var 0) ma_nil))) (mg_name c.nd rfl (.inl rfl)) (ms_one (mp_set c.nd rfl (.inr rfl) (x_add (me_var 3) (me_lc (own := [("_law_arrow", 5)]) c.calm c.nd (mi_seq (me_var 0)) k__law_leads_0 (fun s H C cl fp => (mg_name (c.blk _ _ _ _ _).nd rfl (.inl rfl))) (fun s H C cl fp => (mpts_one (PW.pt (mw_and (t_in (c.blk _ _ _ _ _) (x_ix (c.blk _ _ _ _ _) (me_var 5) me_int) (me_var 3)) (mw_one (t_notin (c.blk _ _ _ _ _) (x_ix (c.blk _ _ _ _ _) (me_var 5) me_int) (me_var 3))))))) (fun s H C cl fp => (x_ix (c.blk _ _ _ _ _) (me_var 5) me_int)))))))
    (ms_one (mp_ret (x_in c (me_var 2) (me_var 3))))))
def b__law_fits_of : SM :=
  sSeq (sSet 1 (eLst (aNil)))
  (sSeq (sFor (wSeq (eOp pIx (eVar 0) (eC (.str "stems")))) (gT [gN 2, gN 3]) (sSet 1 (eOp pAdd (eVar 1) (eLc (wSeq (eOp pIx (eVar 0) (eC (.str "places")))) (gN 4) (bTest (eCall d__law_leads (aCons (eOp pIx (eVar 0) (eC (.str "arrows"))) (aCons (eVar 3) (aCons (eOp pIx (eVar 4) (eC (.int 1))) (aNil)))))) (eTup (aCons (eVar 2) (aCons (eOp pIx (eVar 4) (eC (.int 0))) (aNil)))) [4]))))
  (sRet (eVar 1)))
def d__law_fits_of : List MV → Sto → Re MV := runB 5 b__law_fits_of
theorem sc__law_fits_of : FnScope ["_law_ladder_here", "_law_found", "_law_stem", "_law_home", "_law_one"] ["_law_ladder_here"] (defScope t__law_fits_of) := ⟨rfl, rfl, rfl, by decide +kernel, rfl, by decide +kernel, by decide +kernel⟩
theorem k__law_fits_of_0 : BlkOk ["_law_ladder_here", "_law_found", "_law_stem", "_law_home", "_law_one"] (defScope t__law_fits_of) {
                          kind := PySem.ScopeKind.function,
                          names := [
                            (PySem.Str.ofString ".0", PySem.NameKind.local),
                            (PySem.Str.ofString "_law_one", PySem.NameKind.local),
                            (PySem.Str.ofString "_law_leads", PySem.NameKind.globalImplicit),
                            (PySem.Str.ofString "_law_home", PySem.NameKind.free),
                            (PySem.Str.ofString "_law_ladder_here", PySem.NameKind.free),
                            (PySem.Str.ofString "_law_stem", PySem.NameKind.free)],
                          isGenerator := false,
                          isCoroutine := false,
                          more := [] : PySem.Scope } [("_law_one", 4)] := ⟨rfl, by decide +kernel, by decide +kernel, by decide +kernel, by decide +kernel⟩
theorem S__law_fits_of (q : FX K mg) : Says P w K mg base [] 2 "_law_fits_of" 1 d__law_fits_of := by
  obtain ⟨fd, fn⟩ := q.d.def_ 7 (d := ⟨("_law_fits_of", none), "_law_fits_of", "_law_fits_of", defArgs t__law_fits_of, defBody t__law_fits_of, defScope t__law_fits_of, [], []⟩) rfl
  refine ⟨q.gl 14, fn.kp, fd, _, fn_mk (N := ["_law_ladder_here", "_law_found", "_law_stem", "_law_home", "_law_one"]) (ps := ["_law_ladder_here"]) fn sc__law_fits_of (fun cdv A outer s H E c own => ?_), fn.bindsN (ps := ["_law_ladder_here"]) fun _ _ _ _ _ _ us hl => match us, hl with | [_], _ => rfl⟩
  exact (ms_cons (mp_set c.nd rfl (.inl rfl) (me_lst ma_nil))
    (ms_cons (mp_for own c.calm (mi_seq (x_ix c (me_var 0) me_str)) (mg_tup c.calm (mgs_cons (mg_name c.nd rfl (.inr rfl)) (mgs_cons (mg_name c.nd rfl (.inr rfl)) mgs_nil))) (ms_one (mp_set c.nd rfl (.inl rfl) (x_add (me_var 1) (me_lc (own := [("_law_one", 4)]) c.calm c.nd (mi_seq (x_ix c (me_var 0) me_str)) k__law_fits_of_0 (fun s H C cl fp => (mg_name (c.blk _ _ _ _ _).nd rfl (.inl rfl))) (fun s H C cl fp => (mpts_one (mt_val (x_call (c.blk _ _ _ _ _) (S__law_leads q) (by decide) (amL_cons (amL_cons (amL_cons amL_nil))) rfl (ma_cons (x_ix (c.blk _ _ _ _ _) (me_var 0) me_str) (ma_cons (me_var 3) (ma_cons (x_ix (c.blk _ _ _ _ _) (me_var 4) me_int) ma_nil))))))) (fun s H C cl fp => (me_tup (ma_cons (me_var 2) (ma_cons (x_ix (c.blk _ _ _ _ _) (me_var 4) me_int) ma_nil)))))))))
    (ms_one (mp_ret (me_var 1)))))
def b__law_made : SM :=
  sSeq (sIf (bTest (eOp pEqA (eCall d__law_pick (aCons (eVar 0) (aCons (eC (.int 3)) (aNil)))) (eC (.int 0)))) (sSeq (sSet 2 (eCall d__law_ladder (aCons (eVar 0) (aCons (eC (.int 6)) (aNil)))))
  (sSeq (sSet 3 (eCall d__law_fits_of (aCons (eVar 2) (aNil))))
  (sSeq (sPar 5 6 (eLc (wSeq (eOp pIx (eVar 2) (eC (.str "stems")))) (gN 4) (bYes) (eOp pIx (eVar 4) (eC (.int 0))) [4]) (eLc (wSeq (eOp pIx (eVar 2) (eC (.str "places")))) (gN 4) (bYes) (eOp pIx (eVar 4) (eC (.int 0))) [4]))
  (sRet (eDisp [(eC (.str "stems"), eVar 5), (eC (.str "places"), eVar 6), (eC (.str "fits"), eCall d__law_mixed (aCons (eVar 0) (aCons (eVar 3) (aNil))))]))))) (sNext))
  (sSeq (sSet 7 (eLst (aCons (eC (.str "a")) (aCons (eC (.str "b")) (aCons (eC (.str "root")) (aCons (eC (.str "table")) (aCons (eC (.str "tables")) (aCons (eC (.str "abcdefghijkl")) (aCons (eC (.str "z0")) (aCons (eC (.str "alpha1")) (aCons (eC (.str "alpha2")) (aCons (eC (.str "alpha12")) (aNil)))))))))))))
  (sSeq (sPar 4 8 (eCall d__law_mixed (aCons (eVar 0) (aCons (eVar 7) (aNil)))) (eCall d__law_mixed (aCons (eVar 0) (aCons (eVar 7) (aNil)))))
  (sSeq (sIf (bTest (eOp pEqA (eCall d__law_pick (aCons (eVar 0) (aCons (eC (.int 2)) (aNil)))) (eC (.int 0)))) (sPar 4 8 (eCall d__law_names (aCons (eVar 0) (aCons (eC (.int 8)) (aNil)))) (eCall d__law_names (aCons (eVar 0) (aCons (eC (.int 8)) (aNil))))) (sNext))
  (sSeq (sPar 5 6 (eSl (eVar 4) (oNone) (oSome (eCall d__law_pick (aCons (eVar 0) (aCons (eOp pAdd (eVar 1) (eC (.int 1))) (aNil)))))) (eSl (eVar 8) (oNone) (oSome (eCall d__law_pick (aCons (eVar 0) (aCons (eOp pAdd (eVar 1) (eC (.int 1))) (aNil)))))))
  (sSeq (sAsg (eTup (aCons (eCall d__law_of (aCons (eVar 0) (aCons (eLst (aCons (eLst (aCons (eC (.int 0)) (aCons (eC (.int 1)) (aNil)))) (aCons (eLst (aCons (eC (.int 0)) (aCons (eC (.int 0)) (aCons (eC (.int 1)) (aNil))))) (aCons (eLst (aCons (eC (.int 0)) (aCons (eC (.int 1)) (aCons (eC (.int 1)) (aCons (eC (.int 1)) (aNil)))))) (aNil))))) (aNil)))) (aCons (eLst (aNil)) (aNil)))) (gT [gN 9, gN 3]))
  (sSeq (sFor (wSeq (eVar 5)) (gN 10) (sSet 3 (eOp pAdd (eVar 3) (eLc (wSeq (eVar 6)) (gN 11) (bTest (eOp pEqA (eCall d__law_of (aCons (eVar 0) (aCons (eVar 9) (aNil)))) (eC (.int 1)))) (eTup (aCons (eVar 10) (aCons (eVar 11) (aNil)))) [11]))))
  (sRet (eDisp [(eC (.str "stems"), eVar 5), (eC (.str "places"), eVar 6), (eC (.str "fits"), eCall d__law_mixed (aCons (eVar 0) (aCons (eVar 3) (aNil))))]))))))))
def d__law_made : List MV → Sto → Re MV := runB 12 b__law_made
theorem sc__law_made : FnScope ["_law_source_here", "_law_most", "_law_ladder_here", "_law_fits", "_law_one", "_law_stems", "_law_places", "_law_words", "_law_other", "_law_thick", "_law_stem", "_law_place"] ["_law_source_here", "_law_most"] (defScope t__law_made) := ⟨rfl, rfl, rfl, by decide +kernel, rfl, by decide +kernel, by decide +kernel⟩
theorem k__law_made_0 : BlkOk ["_law_source_here", "_law_most", "_law_ladder_here", "_law_fits", "_law_one", "_law_stems", "_law_places", "_law_words", "_law_other", "_law_thick", "_law_stem", "_law_place"] (defScope t__law_made) {
                            kind := PySem.ScopeKind.function,
                            names := [(PySem.Str.ofString ".0", PySem.NameKind.local), (PySem.Str.ofString "_law_one", PySem.NameKind.local)],
                            isGenerator := false,
                            isCoroutine := false,
                            more := [] : PySem.Scope } [("_law_one", 4)] := ⟨rfl, by decide +kernel, by decide +kernel, by decide +kernel, by decide +kernel⟩
theorem k__law_made_1 : BlkOk ["_law_source_here", "_law_most", "_law_ladder_here", "_law_fits", "_law_one", "_law_stems", "_law_places", "_law_words", "_law_other", "_law_thick", "_law_stem", "_law_place"] (defScope t__law_made) {
                            kind := PySem.ScopeKind.function,
                            names := [(PySem.Str.ofString ".0", PySem.NameKind.local), (PySem.Str.ofString "_law_one", PySem.NameKind.local)],
                            isGenerator := false,
                            isCoroutine := false,
                            more := [] : PySem.Scope } [("_law_one", 4)] := ⟨rfl, by decide +kernel, by decide +kernel, by decide +kernel, by decide +kernel⟩
theorem k__law_made_2 : BlkOk ["_law_source_here", "_law_most", "_law_ladder_here", "_law_fits", "_law_one", "_law_stems", "_law_places", "_law_words", "_law_other", "_law_thick", "_law_stem", "_law_place"] (defScope t__law_made) {
                          kind := PySem.ScopeKind.function,
                          names := [
                            (PySem.Str.ofString ".0", PySem.NameKind.local),
                            (PySem.Str.ofString "_law_place", PySem.NameKind.local),
                            (PySem.Str.ofString "_law_of", PySem.NameKind.globalImplicit),
                            (PySem.Str.ofString "_law_source_here", PySem.NameKind.free),
                            (PySem.Str.ofString "_law_stem", PySem.NameKind.free),
                            (PySem.Str.ofString "_law_thick", PySem.NameKind.free)],
                          isGenerator := false,
                          isCoroutine := false,
                          more := [] : PySem.Scope } [("_law_place", 11)] := ⟨rfl, by decide +kernel, by decide +kernel, by decide +kernel, by decide +kernel⟩
theorem S__law_made (q : FX K mg) : Says P w K mg base [] 4 "_law_made" 2 d__law_made := by
  obtain ⟨fd, fn⟩ := q.d.def_ 8 (d := ⟨("_law_made", none), "_law_made", "_law_made", defArgs t__law_made, defBody t__law_made, defScope t__law_made, [], []⟩) rfl
  refine ⟨q.gl 15, fn.kp, fd, _, fn_mk (N := ["_law_source_here", "_law_most", "_law_ladder_here", "_law_fits", "_law_one", "_law_stems", "_law_places", "_law_words", "_law_other", "_law_thick", "_law_stem", "_law_place"]) (ps := ["_law_source_here", "_law_most"]) fn sc__law_made (fun cdv A outer s H E c own => ?_), fn.bindsN (ps := ["_law_source_here", "_law_most"]) fun _ _ _ _ _ _ us hl => match us, hl with | [_, _], _ => rfl⟩
  exact (ms_cons (mp_if (t_eq c (x_call c (S__law_pick q) (by decide) (amL_cons (amL_cons amL_nil)) rfl (ma_cons (me_var 0) (ma_cons me_int ma_nil))) me_int) (ms_cons (mp_set c.nd rfl (.inl rfl) (x_call c (S__law_ladder q) (by decide) (amL_cons (amL_cons amL_nil)) rfl (ma_cons (me_var 0) (ma_cons me_int ma_nil))))
    (ms_cons (mp_set c.nd rfl (.inl rfl) (x_call c (S__law_fits_of q) (by decide) (amL_cons amL_nil) rfl (ma_cons (me_var 2) ma_nil)))
    (ms_cons (mp_par c.calm c.nd rfl rfl (by decide) rfl rfl (me_lc (own := [("_law_one", 4)]) c.calm c.nd (mi_seq (x_ix c (me_var 2) me_str)) k__law_made_0 (fun s H C cl fp => (mg_name (c.blk _ _ _ _ _).nd rfl (.inl rfl))) (fun s H C cl fp => mpts_nil) (fun s H C cl fp => (x_ix (c.blk _ _ _ _ _) (me_var 4) me_int))) (me_lc (own := [("_law_one", 4)]) c.calm c.nd (mi_seq (x_ix c (me_var 2) me_str)) k__law_made_1 (fun s H C cl fp => (mg_name (c.blk _ _ _ _ _).nd rfl (.inl rfl))) (fun s H C cl fp => mpts_nil) (fun s H C cl fp => (x_ix (c.blk _ _ _ _ _) (me_var 4) me_int))) rfl)
    (ms_one (mp_ret (me_disp (mpp_cons me_str (me_var 5) (mpp_cons me_str (me_var 6) (mpp_cons me_str (x_call c (S__law_mixed q) (by decide) (amL_cons (amL_cons amL_nil)) rfl (ma_cons (me_var 0) (ma_cons (me_var 3) ma_nil))) mpp_nil))))))))) ms_nil)
    (ms_cons (mp_set c.nd rfl (.inl rfl) (me_lst (ma_cons me_str (ma_cons me_str (ma_cons me_str (ma_cons me_str (ma_cons me_str (ma_cons me_str (ma_cons me_str (ma_cons me_str (ma_cons me_str (ma_cons me_str ma_nil))))))))))))
    (ms_cons (mp_par c.calm c.nd rfl rfl (by decide) rfl rfl (x_call c (S__law_mixed q) (by decide) (amL_cons (amL_cons amL_nil)) rfl (ma_cons (me_var 0) (ma_cons (me_var 7) ma_nil))) (x_call c (S__law_mixed q) (by decide) (amL_cons (amL_cons amL_nil)) rfl (ma_cons (me_var 0) (ma_cons (me_var 7) ma_nil))) rfl)
    (ms_cons (mp_if (t_eq c (x_call c (S__law_pick q) (by decide) (amL_cons (amL_cons amL_nil)) rfl (ma_cons (me_var 0) (ma_cons me_int ma_nil))) me_int) (ms_one (mp_par c.calm c.nd rfl rfl (by decide) rfl rfl (x_call c (S__law_names q) (by decide) (amL_cons (amL_cons amL_nil)) rfl (ma_cons (me_var 0) (ma_cons me_int ma_nil))) (x_call c (S__law_names q) (by decide) (amL_cons (amL_cons amL_nil)) rfl (ma_cons (me_var 0) (ma_cons me_int ma_nil))) rfl)) ms_nil)
    (ms_cons (mp_par c.calm c.nd rfl rfl (by decide) rfl rfl (me_sl (me_var 4) mo_none (mo_some (x_call c (S__law_pick q) (by decide) (amL_cons (amL_cons amL_nil)) rfl (ma_cons (me_var 0) (ma_cons (x_add (me_var 1) me_int) ma_nil))))) (me_sl (me_var 8) mo_none (mo_some (x_call c (S__law_pick q) (by decide) (amL_cons (amL_cons amL_nil)) rfl (ma_cons (me_var 0) (ma_cons (x_add (me_var 1) me_int) ma_nil))))) rfl)
    (ms_cons (mp_asg (me_tup (ma_cons (x_call c (S__law_of q) (by decide) (amL_cons (amL_cons amL_nil)) rfl (ma_cons (me_var 0) (ma_cons (me_lst (ma_cons (me_lst (ma_cons me_int (ma_cons me_int ma_nil))) (ma_cons (me_lst (ma_cons me_int (ma_cons me_int (ma_cons me_int ma_nil)))) (ma_cons (me_lst (ma_cons me_int (ma_cons me_int (ma_cons me_int (ma_cons me_int ma_nil))))) ma_nil)))) ma_nil))) (ma_cons (me_lst ma_nil) ma_nil))) (mg_tup c.calm (mgs_cons (mg_name c.nd rfl (.inr rfl)) (mgs_cons (mg_name c.nd rfl (.inl rfl)) mgs_nil))))
    (ms_cons (mp_for own c.calm (mi_seq (me_var 5)) (mg_name c.nd rfl (.inr rfl)) (ms_one (mp_set c.nd rfl (.inl rfl) (x_add (me_var 3) (me_lc (own := [("_law_place", 11)]) c.calm c.nd (mi_seq (me_var 6)) k__law_made_2 (fun s H C cl fp => (mg_name (c.blk _ _ _ _ _).nd rfl (.inl rfl))) (fun s H C cl fp => (mpts_one (t_eq (c.blk _ _ _ _ _) (x_call (c.blk _ _ _ _ _) (S__law_of q) (by decide) (amL_cons (amL_cons amL_nil)) rfl (ma_cons (me_var 0) (ma_cons (me_var 9) ma_nil))) me_int))) (fun s H C cl fp => (me_tup (ma_cons (me_var 10) (ma_cons (me_var 11) ma_nil)))))))))
    (ms_one (mp_ret (me_disp (mpp_cons me_str (me_var 5) (mpp_cons me_str (me_var 6) (mpp_cons me_str (x_call c (S__law_mixed q) (by decide) (amL_cons (amL_cons amL_nil)) rfl (ma_cons (me_var 0) (ma_cons (me_var 3) ma_nil))) mpp_nil)))))))))))))
def b_is_list : SM :=
  sRet (eIsi [(.b "str", false), (.b "list", true), (.b "tuple", true), (.b "int", false), (.b "bool", false), (.b "dict", false), (.b "NoneType", false), (.own "Table", false)] (eVar 0))
def d_is_list : List MV → Sto → Re MV := runB 1 b_is_list
theorem sc_is_list : FnScope ["value"] ["value"] (defScope t_is_list) := ⟨rfl, rfl, rfl, by decide +kernel, rfl, by decide +kernel, by decide +kernel⟩
theorem S_is_list (q : FX K mg) : Says P w K mg base [] 1 "is_list" 1 d_is_list := by
  obtain ⟨fd, fn⟩ := q.d.def_ 9 (d := ⟨("is_list", none), "is_list", "is_list", defArgs t_is_list, defBody t_is_list, defScope t_is_list, [], []⟩) rfl
  refine ⟨q.gl 18, fn.kp, fd, _, fn_mk (N := ["value"]) (ps := ["value"]) fn sc_is_list (fun cdv A outer s H E c own => ?_), fn.bindsN (ps := ["value"]) fun _ _ _ _ _ _ us hl => match us, hl with | [_], _ => rfl⟩
  exact (ms_one (mp_ret (me_isiT (us := ([.b "list", .b "tuple"] : List Tk).map (Tk.val K)) (q.tab 0 (cs := [.b "list", .b "tuple"])) (by decide) rfl (q.fr 17) Mp.boot_isinstance (.cons (.ty _) (.cons (.ty _) .nil)) (me_var 0) (mc_cons (pe_bltn (v := .ty "list") rfl (q.fr 10) PySem.Pv.boot_list rfl) (mc_cons (pe_bltn (v := .ty "tuple") rfl (q.fr 16) PySem.Pv.boot_tuple rfl) mc_nil)))))
def b_is_word : SM :=
  sSeq (sIf (bOr (bNot (bTest (eIsi [(.b "str", true), (.b "list", false), (.b "tuple", false), (.b "int", false), (.b "bool", false), (.b "dict", false), (.b "NoneType", false), (.own "Table", false)] (eVar 0)))) (bOr (bTest (eOp pLt (eCall (f1 lenM) (aCons (eVar 0) (aNil))) (eC (.int 1)))) (bTest (eOp pGt (eCall (f1 lenM) (aCons (eVar 0) (aNil))) (eC (.int 12)))))) (sRet (eC (.bl false))) (sNext))
  (sSeq (sIf (bTest (eOp pNotIn (eOp pIx (eVar 0) (eC (.int 0))) (eC (.str "abcdefghijklmnopqrstuvwxyz")))) (sRet (eC (.bl false))) (sNext))
  (sRet (eCall (f1 allM) (aCons (eLc (wSeq (eVar 0)) (gN 1) (bYes) (eOr (eOp pIn (eVar 1) (eC (.str "abcdefghijklmnopqrstuvwxyz"))) (eOp pIn (eVar 1) (eC (.str "0123456789")))) [1]) (aNil)))))
def d_is_word : List MV → Sto → Re MV := runB 2 b_is_word
theorem sc_is_word : FnScope ["value", "sign"] ["value"] (defScope t_is_word) := ⟨rfl, rfl, rfl, by decide +kernel, rfl, by decide +kernel, by decide +kernel⟩
theorem k_is_word_0 : BlkOk ["value", "sign"] (defScope t_is_word) {
                          kind := PySem.ScopeKind.function,
                          names := [
                            (PySem.Str.ofString ".0", PySem.NameKind.local),
                            (PySem.Str.ofString "sign", PySem.NameKind.local),
                            (PySem.Str.ofString "LETTERS", PySem.NameKind.globalImplicit),
                            (PySem.Str.ofString "DIGITS", PySem.NameKind.globalImplicit)],
                          isGenerator := false,
                          isCoroutine := false,
                          more := [] : PySem.Scope } [("sign", 1)] := ⟨rfl, by decide +kernel, by decide +kernel, by decide +kernel, by decide +kernel⟩
theorem S_is_word (q : FX K mg) : Says P w K mg base [] 1 "is_word" 1 d_is_word := by
  obtain ⟨fd, fn⟩ := q.d.def_ 10 (d := ⟨("is_word", none), "is_word", "is_word", defArgs t_is_word, defBody t_is_word, defScope t_is_word, [], []⟩) rfl
  refine ⟨q.gl 24, fn.kp, fd, _, fn_mk (N := ["value", "sign"]) (ps := ["value"]) fn sc_is_word (fun cdv A outer s H E c own => ?_), fn.bindsN (ps := ["value"]) fun _ _ _ _ _ _ us hl => match us, hl with | [_], _ => rfl⟩
  exact (ms_cons (mp_if (PW.pt (mw_or (mt_not (mt_val (me_isi (u := Tk.val K ((.b "str" : Tk))) (q.tab 1 (cs := [.b "str"])) rfl (q.fr 17) Mp.boot_isinstance (.ty _) (me_var 0) (pe_bltn (v := .ty "str") rfl (q.fr 7) PySem.Pv.boot_str rfl)))) (mw_or (t_lt (x_len (q.fr 4) rfl (ma_cons (me_var 0) ma_nil)) me_int) (mw_oneO (t_gt (x_len (q.fr 4) rfl (ma_cons (me_var 0) ma_nil)) (me_gint rfl (q.int 20))))))) (ms_one (mp_ret me_bl)) ms_nil)
    (ms_cons (mp_if (t_notin c (x_ix c (me_var 0) me_int) (me_gstr rfl (q.str 21))) (ms_one (mp_ret me_bl)) ms_nil)
    (ms_one (mp_ret (x_all c (q.fr 23) rfl (ma_cons (me_lc (own := [("sign", 1)]) c.calm c.nd (mi_seq (me_var 0)) k_is_word_0 (fun s H C cl fp => (mg_name (c.blk _ _ _ _ _).nd rfl (.inl rfl))) (fun s H C cl fp => mpts_nil) (fun s H C cl fp => (me_or (x_in (c.blk _ _ _ _ _) (me_var 1) (me_gstr rfl (q.str 21))) (me_one (x_in (c.blk _ _ _ _ _) (me_var 1) (me_gstr rfl (q.str 22))))))) ma_nil))))))
def b_wrong_word : SM :=
  sSeq (sSet 1 (eDNewK))
  (sSeq (sFor (wEnum (eVar 0)) (gT [gN 2, gN 3]) (sSeq (sIf (bOr (bNot (bTest (eCall d_is_word (aCons (eVar 3) (aNil))))) (bTest (eOp pIn (eVar 3) (eVar 1)))) (sRet (eVar 2)) (sNext))
  (sDPutM (eVar 1) (eVar 3) (eC (.bl true)))))
  (sRet (eC .non)))
def d_wrong_word : List MV → Sto → Re MV := runB 4 b_wrong_word
theorem sc_wrong_word : FnScope ["values", "met", "number", "value"] ["values"] (defScope t_wrong_word) := ⟨rfl, rfl, rfl, by decide +kernel, rfl, by decide +kernel, by decide +kernel⟩
theorem S_wrong_word (q : FX K mg) : Says P w K mg base [] 2 "wrong_word" 1 d_wrong_word := by
  obtain ⟨fd, fn⟩ := q.d.def_ 11 (d := ⟨("wrong_word", none), "wrong_word", "wrong_word", defArgs t_wrong_word, defBody t_wrong_word, defScope t_wrong_word, [], []⟩) rfl
  refine ⟨q.gl 25, fn.kp, fd, _, fn_mk (N := ["values", "met", "number", "value"]) (ps := ["values"]) fn sc_wrong_word (fun cdv A outer s H E c own => ?_), fn.bindsN (ps := ["values"]) fun _ _ _ _ _ _ us hl => match us, hl with | [_], _ => rfl⟩
  exact (ms_cons (mp_set c.nd rfl (.inl rfl) me_dnewK)
    (ms_cons (mp_for own c.calm (mi_enum rfl (q.fr 19) (me_var 0)) (mg_tup c.calm (mgs_cons (mg_name c.nd rfl (.inl rfl)) (mgs_cons (mg_name c.nd rfl (.inl rfl)) mgs_nil))) (ms_cons (mp_if (PW.pt (mw_or (mt_not (mt_val (x_call c (S_is_word q) (by decide) (amL_cons amL_nil) rfl (ma_cons (me_var 3) ma_nil)))) (mw_oneO (t_in c (me_var 3) (me_var 1))))) (ms_one (mp_ret (me_var 2))) ms_nil)
    (ms_one (mp_dput c.u1 (me_var 1) (me_var 3) me_bl))))
    (ms_one (mp_ret me_non))))
def b_wrong_word_list : SM :=
  sSeq (sIf (bNot (bTest (eCall d_is_list (aCons (eVar 0) (aNil))))) (sRet (eTup (aCons (eVar 1) (aNil)))) (sNext))
  (sSeq (sSet 2 (eCall d_wrong_word (aCons (eVar 0) (aNil))))
  (sSeq (sIf (bTest (eUn pIsN (eVar 2))) (sRet (eC .non)) (sNext))
  (sRet (eTup (aCons (eVar 1) (aCons (eVar 2) (aNil)))))))
def d_wrong_word_list : List MV → Sto → Re MV := runB 3 b_wrong_word_list
theorem sc_wrong_word_list : FnScope ["values", "number", "at"] ["values", "number"] (defScope t_wrong_word_list) := ⟨rfl, rfl, rfl, by decide +kernel, rfl, by decide +kernel, by decide +kernel⟩
theorem S_wrong_word_list (q : FX K mg) : Says P w K mg base [] 3 "wrong_word_list" 2 d_wrong_word_list := by
  obtain ⟨fd, fn⟩ := q.d.def_ 12 (d := ⟨("wrong_word_list", none), "wrong_word_list", "wrong_word_list", defArgs t_wrong_word_list, defBody t_wrong_word_list, defScope t_wrong_word_list, [], []⟩) rfl
  refine ⟨q.gl 26, fn.kp, fd, _, fn_mk (N := ["values", "number", "at"]) (ps := ["values", "number"]) fn sc_wrong_word_list (fun cdv A outer s H E c own => ?_), fn.bindsN (ps := ["values", "number"]) fun _ _ _ _ _ _ us hl => match us, hl with | [_, _], _ => rfl⟩
  exact (ms_cons (mp_if (mt_not (mt_val (x_call c (S_is_list q) (by decide) (amL_cons amL_nil) rfl (ma_cons (me_var 0) ma_nil)))) (ms_one (mp_ret (me_tup (ma_cons (me_var 1) ma_nil)))) ms_nil)
    (ms_cons (mp_set c.nd rfl (.inl rfl) (x_call c (S_wrong_word q) (by decide) (amL_cons amL_nil) rfl (ma_cons (me_var 0) ma_nil)))
    (ms_cons (mp_if (mt_isN (me_var 2)) (ms_one (mp_ret me_non)) ms_nil)
    (ms_one (mp_ret (me_tup (ma_cons (me_var 1) (ma_cons (me_var 2) ma_nil))))))))
def b_is_tuple_of : SM :=
  sRet (eAnd (eIsi [(.b "str", false), (.b "list", false), (.b "tuple", true), (.b "int", false), (.b "bool", false), (.b "dict", false), (.b "NoneType", false), (.own "Table", false)] (eVar 0)) (eOp pEqA (eCall (f1 lenM) (aCons (eVar 0) (aNil))) (eVar 1)))
def d_is_tuple_of : List MV → Sto → Re MV := runB 2 b_is_tuple_of
theorem sc_is_tuple_of : FnScope ["value", "size"] ["value", "size"] (defScope t_is_tuple_of) := ⟨rfl, rfl, rfl, by decide +kernel, rfl, by decide +kernel, by decide +kernel⟩
theorem S_is_tuple_of (q : FX K mg) : Says P w K mg base [] 1 "is_tuple_of" 2 d_is_tuple_of := by
  obtain ⟨fd, fn⟩ := q.d.def_ 13 (d := ⟨("is_tuple_of", none), "is_tuple_of", "is_tuple_of", defArgs t_is_tuple_of, defBody t_is_tuple_of, defScope t_is_tuple_of, [], []⟩) rfl
  refine ⟨q.gl 27, fn.kp, fd, _, fn_mk (N := ["value", "size"]) (ps := ["value", "size"]) fn sc_is_tuple_of (fun cdv A outer s H E c own => ?_), fn.bindsN (ps := ["value", "size"]) fun _ _ _ _ _ _ us hl => match us, hl with | [_, _], _ => rfl⟩
  exact (ms_one (mp_ret (me_and (me_isi (u := Tk.val K ((.b "tuple" : Tk))) (q.tab 2 (cs := [.b "tuple"])) rfl (q.fr 17) Mp.boot_isinstance (.ty _) (me_var 0) (pe_bltn (v := .ty "tuple") rfl (q.fr 16) PySem.Pv.boot_tuple rfl)) (me_one (x_eq c (x_len (q.fr 4) rfl (ma_cons (me_var 0) ma_nil)) (me_var 1))))))
def b_wrong_fits_part : SM :=
  sSeq (sIf (bNot (bTest (eCall d_is_list (aCons (eVar 2) (aNil))))) (sRet (eTup (aCons (eC (.int 2)) (aNil)))) (sNext))
  (sSeq (sSet 3 (eDNewT))
  (sSeq (sFor (wEnum (eVar 2)) (gT [gN 4, gN 5]) (sSeq (sIf (bNot (bTest (eCall d_is_tuple_of (aCons (eVar 5) (aCons (eC (.int 2)) (aNil)))))) (sRet (eTup (aCons (eC (.int 2)) (aCons (eVar 4) (aNil))))) (sNext))
  (sSeq (sIf (bTest (eOp pNotIn (eOp pIx (eVar 5) (eC (.int 0))) (eVar 0))) (sRet (eTup (aCons (eC (.int 2)) (aCons (eVar 4) (aCons (eC (.int 0)) (aNil)))))) (sNext))
  (sSeq (sIf (bTest (eOp pNotIn (eOp pIx (eVar 5) (eC (.int 1))) (eVar 1))) (sRet (eTup (aCons (eC (.int 2)) (aCons (eVar 4) (aCons (eC (.int 1)) (aNil)))))) (sNext))
  (sSeq (sIf (bTest (eOp pIn (eVar 5) (eVar 3))) (sRet (eTup (aCons (eC (.int 2)) (aCons (eVar 4) (aNil))))) (sNext))
  (sDPutM (eVar 3) (eVar 5) (eC (.bl true))))))))
  (sRet (eC .non))))
def d_wrong_fits_part : List MV → Sto → Re MV := runB 6 b_wrong_fits_part
theorem sc_wrong_fits_part : FnScope ["stems", "places", "fits", "met", "number", "fit"] ["stems", "places", "fits"] (defScope t_wrong_fits_part) := ⟨rfl, rfl, rfl, by decide +kernel, rfl, by decide +kernel, by decide +kernel⟩
theorem S_wrong_fits_part (q : FX K mg) : Says P w K mg base [] 2 "wrong_fits_part" 3 d_wrong_fits_part := by
  obtain ⟨fd, fn⟩ := q.d.def_ 14 (d := ⟨("wrong_fits_part", none), "wrong_fits_part", "wrong_fits_part", defArgs t_wrong_fits_part, defBody t_wrong_fits_part, defScope t_wrong_fits_part, [], []⟩) rfl
  refine ⟨q.gl 28, fn.kp, fd, _, fn_mk (N := ["stems", "places", "fits", "met", "number", "fit"]) (ps := ["stems", "places", "fits"]) fn sc_wrong_fits_part (fun cdv A outer s H E c own => ?_), fn.bindsN (ps := ["stems", "places", "fits"]) fun _ _ _ _ _ _ us hl => match us, hl with | [_, _, _], _ => rfl⟩
  exact (ms_cons (mp_if (mt_not (mt_val (x_call c (S_is_list q) (by decide) (amL_cons amL_nil) rfl (ma_cons (me_var 2) ma_nil)))) (ms_one (mp_ret (me_tup (ma_cons me_int ma_nil)))) ms_nil)
    (ms_cons (mp_set c.nd rfl (.inl rfl) me_dnewT)
    (ms_cons (mp_for own c.calm (mi_enum rfl (q.fr 19) (me_var 2)) (mg_tup c.calm (mgs_cons (mg_name c.nd rfl (.inl rfl)) (mgs_cons (mg_name c.nd rfl (.inl rfl)) mgs_nil))) (ms_cons (mp_if (mt_not (mt_val (x_call c (S_is_tuple_of q) (by decide) (amL_cons (amL_cons amL_nil)) rfl (ma_cons (me_var 5) (ma_cons me_int ma_nil))))) (ms_one (mp_ret (me_tup (ma_cons me_int (ma_cons (me_var 4) ma_nil))))) ms_nil)
    (ms_cons (mp_if (t_notin c (x_ix c (me_var 5) me_int) (me_var 0)) (ms_one (mp_ret (me_tup (ma_cons me_int (ma_cons (me_var 4) (ma_cons me_int ma_nil)))))) ms_nil)
    (ms_cons (mp_if (t_notin c (x_ix c (me_var 5) me_int) (me_var 1)) (ms_one (mp_ret (me_tup (ma_cons me_int (ma_cons (me_var 4) (ma_cons me_int ma_nil)))))) ms_nil)
    (ms_cons (mp_if (t_in c (me_var 5) (me_var 3)) (ms_one (mp_ret (me_tup (ma_cons me_int (ma_cons (me_var 4) ma_nil))))) ms_nil)
    (ms_one (mp_dput c.u1 (me_var 3) (me_var 5) me_bl)))))))
    (ms_one (mp_ret me_non)))))
def b_wrong_table_part : SM :=
  sSeq (sSet 3 (eCall d_wrong_word_list (aCons (eVar 0) (aCons (eC (.int 0)) (aNil)))))
  (sSeq (sIf (bTest (eUn pIsN (eVar 3))) (sSet 3 (eCall d_wrong_word_list (aCons (eVar 1) (aCons (eC (.int 1)) (aNil))))) (sNext))
  (sSeq (sIf (bTest (eUn pIsN (eVar 3))) (sSet 3 (eCall d_wrong_fits_part (aCons (eVar 0) (aCons (eVar 1) (aCons (eVar 2) (aNil)))))) (sNext))
  (sRet (eVar 3))))
def d_wrong_table_part : List MV → Sto → Re MV := runB 4 b_wrong_table_part
theorem sc_wrong_table_part : FnScope ["stems", "places", "fits", "path"] ["stems", "places", "fits"] (defScope t_wrong_table_part) := ⟨rfl, rfl, rfl, by decide +kernel, rfl, by decide +kernel, by decide +kernel⟩
theorem S_wrong_table_part (q : FX K mg) : Says P w K mg base [] 4 "wrong_table_part" 3 d_wrong_table_part := by
  obtain ⟨fd, fn⟩ := q.d.def_ 15 (d := ⟨("wrong_table_part", none), "wrong_table_part", "wrong_table_part", defArgs t_wrong_table_part, defBody t_wrong_table_part, defScope t_wrong_table_part, [], []⟩) rfl
  refine ⟨q.gl 29, fn.kp, fd, _, fn_mk (N := ["stems", "places", "fits", "path"]) (ps := ["stems", "places", "fits"]) fn sc_wrong_table_part (fun cdv A outer s H E c own => ?_), fn.bindsN (ps := ["stems", "places", "fits"]) fun _ _ _ _ _ _ us hl => match us, hl with | [_, _, _], _ => rfl⟩
  exact (ms_cons (mp_set c.nd rfl (.inl rfl) (x_call c (S_wrong_word_list q) (by decide) (amL_cons (amL_cons amL_nil)) rfl (ma_cons (me_var 0) (ma_cons me_int ma_nil))))
    (ms_cons (mp_if (mt_isN (me_var 3)) (ms_one (mp_set c.nd rfl (.inl rfl) (x_call c (S_wrong_word_list q) (by decide) (amL_cons (amL_cons amL_nil)) rfl (ma_cons (me_var 1) (ma_cons me_int ma_nil))))) ms_nil)
    (ms_cons (mp_if (mt_isN (me_var 3)) (ms_one (mp_set c.nd rfl (.inl rfl) (x_call c (S_wrong_fits_part q) (by decide) (amL_cons (amL_cons (amL_cons amL_nil))) rfl (ma_cons (me_var 0) (ma_cons (me_var 1) (ma_cons (me_var 2) ma_nil)))))) ms_nil)
    (ms_one (mp_ret (me_var 3))))))
def b_fits_in_order : SM :=
  sSeq (sSet 3 (eDc (wEnum (eVar 0)) (gT [gN 6, gN 7]) (bYes) (eVar 7) (eVar 6) [6, 7]))
  (sSeq (sSet 4 (eDc (wEnum (eVar 1)) (gT [gN 6, gN 8]) (bYes) (eVar 8) (eVar 6) [6, 8]))
  (sSeq (sSet 5 (eCall bSorted (aCons (eLc (wSeq (eVar 2)) (gT [gN 7, gN 8]) (bYes) (eTup (aCons (eOp pIx (eVar 3) (eVar 7)) (aCons (eOp pIx (eVar 4) (eVar 8)) (aNil)))) [7, 8]) (aNil))))
  (sRet (eLc (wSeq (eVar 5)) (gN 9) (bYes) (eTup (aCons (eOp pIx (eVar 0) (eOp pIx (eVar 9) (eC (.int 0)))) (aCons (eOp pIx (eVar 1) (eOp pIx (eVar 9) (eC (.int 1)))) (aNil)))) [9]))))
def d_fits_in_order : List MV → Sto → Re MV := runB 10 b_fits_in_order
theorem sc_fits_in_order : FnScope ["stems", "places", "fits", "stem_numbers", "place_numbers", "rows", "number", "stem", "place", "row"] ["stems", "places", "fits"] (defScope t_fits_in_order) := ⟨rfl, rfl, rfl, by decide +kernel, rfl, by decide +kernel, by decide +kernel⟩
theorem k_fits_in_order_0 : BlkOk ["stems", "places", "fits", "stem_numbers", "place_numbers", "rows", "number", "stem", "place", "row"] (defScope t_fits_in_order) {
                    kind := PySem.ScopeKind.function,
                    names := [
                      (PySem.Str.ofString ".0", PySem.NameKind.local),
                      (PySem.Str.ofString "number", PySem.NameKind.local),
                      (PySem.Str.ofString "stem", PySem.NameKind.local)],
                    isGenerator := false,
                    isCoroutine := false,
                    more := [] : PySem.Scope } [("number", 6), ("stem", 7)] := ⟨rfl, by decide +kernel, by decide +kernel, by decide +kernel, by decide +kernel⟩
theorem k_fits_in_order_1 : BlkOk ["stems", "places", "fits", "stem_numbers", "place_numbers", "rows", "number", "stem", "place", "row"] (defScope t_fits_in_order) {
                    kind := PySem.ScopeKind.function,
                    names := [
                      (PySem.Str.ofString ".0", PySem.NameKind.local),
                      (PySem.Str.ofString "number", PySem.NameKind.local),
                      (PySem.Str.ofString "place", PySem.NameKind.local)],
                    isGenerator := false,
                    isCoroutine := false,
                    more := [] : PySem.Scope } [("number", 6), ("place", 8)] := ⟨rfl, by decide +kernel, by decide +kernel, by decide +kernel, by decide +kernel⟩
theorem k_fits_in_order_2 : BlkOk ["stems", "places", "fits", "stem_numbers", "place_numbers", "rows", "number", "stem", "place", "row"] (defScope t_fits_in_order) {
                        kind := PySem.ScopeKind.function,
                        names := [
                          (PySem.Str.ofString ".0", PySem.NameKind.local),
                          (PySem.Str.ofString "stem", PySem.NameKind.local),
                          (PySem.Str.ofString "place", PySem.NameKind.local),
                          (PySem.Str.ofString "place_numbers", PySem.NameKind.free),
                          (PySem.Str.ofString "stem_numbers", PySem.NameKind.free)],
                        isGenerator := false,
                        isCoroutine := false,
                        more := [] : PySem.Scope } [("stem", 7), ("place", 8)] := ⟨rfl, by decide +kernel, by decide +kernel, by decide +kernel, by decide +kernel⟩
theorem k_fits_in_order_3 : BlkOk ["stems", "places", "fits", "stem_numbers", "place_numbers", "rows", "number", "stem", "place", "row"] (defScope t_fits_in_order) {
                      kind := PySem.ScopeKind.function,
                      names := [
                        (PySem.Str.ofString ".0", PySem.NameKind.local),
                        (PySem.Str.ofString "row", PySem.NameKind.local),
                        (PySem.Str.ofString "places", PySem.NameKind.free),
                        (PySem.Str.ofString "stems", PySem.NameKind.free)],
                      isGenerator := false,
                      isCoroutine := false,
                      more := [] : PySem.Scope } [("row", 9)] := ⟨rfl, by decide +kernel, by decide +kernel, by decide +kernel, by decide +kernel⟩
theorem S_fits_in_order (q : FX K mg) : Says P w K mg base [] 1 "fits_in_order" 3 d_fits_in_order := by
  obtain ⟨fd, fn⟩ := q.d.def_ 16 (d := ⟨("fits_in_order", none), "fits_in_order", "fits_in_order", defArgs t_fits_in_order, defBody t_fits_in_order, defScope t_fits_in_order, [], []⟩) rfl
  refine ⟨q.gl 31, fn.kp, fd, _, fn_mk (N := ["stems", "places", "fits", "stem_numbers", "place_numbers", "rows", "number", "stem", "place", "row"]) (ps := ["stems", "places", "fits"]) fn sc_fits_in_order (fun cdv A outer s H E c own => ?_), fn.bindsN (ps := ["stems", "places", "fits"]) fun _ _ _ _ _ _ us hl => match us, hl with | [_, _, _], _ => rfl⟩
  exact (ms_cons (mp_set c.nd rfl (.inr rfl) (me_dc (own := [("number", 6), ("stem", 7)]) c.calm c.nd (mi_enum rfl (q.fr 19) (me_var 0)) k_fits_in_order_0 (fun s H C cl fp => (mg_tup (c.blk _ _ _ _ _).calm (mgs_cons (mg_name (c.blk _ _ _ _ _).nd rfl (.inl rfl)) (mgs_cons (mg_name (c.blk _ _ _ _ _).nd rfl (.inl rfl)) mgs_nil)))) (fun s H C cl fp => mpts_nil) (fun s H C cl fp => (me_var 7)) (fun s H C cl fp => (me_var 6))))
    (ms_cons (mp_set c.nd rfl (.inr rfl) (me_dc (own := [("number", 6), ("place", 8)]) c.calm c.nd (mi_enum rfl (q.fr 19) (me_var 1)) k_fits_in_order_1 (fun s H C cl fp => (mg_tup (c.blk _ _ _ _ _).calm (mgs_cons (mg_name (c.blk _ _ _ _ _).nd rfl (.inl rfl)) (mgs_cons (mg_name (c.blk _ _ _ _ _).nd rfl (.inl rfl)) mgs_nil)))) (fun s H C cl fp => mpts_nil) (fun s H C cl fp => (me_var 8)) (fun s H C cl fp => (me_var 6))))
    (ms_cons (mp_set c.nd rfl (.inl rfl) (x_sorted (q.fr 30) rfl (ma_cons (me_lc (own := [("stem", 7), ("place", 8)]) c.calm c.nd (mi_seq (me_var 2)) k_fits_in_order_2 (fun s H C cl fp => (mg_tup (c.blk _ _ _ _ _).calm (mgs_cons (mg_name (c.blk _ _ _ _ _).nd rfl (.inl rfl)) (mgs_cons (mg_name (c.blk _ _ _ _ _).nd rfl (.inl rfl)) mgs_nil)))) (fun s H C cl fp => mpts_nil) (fun s H C cl fp => (me_tup (ma_cons (x_ix (c.blk _ _ _ _ _) (me_var 3) (me_var 7)) (ma_cons (x_ix (c.blk _ _ _ _ _) (me_var 4) (me_var 8)) ma_nil))))) ma_nil)))
    (ms_one (mp_ret (me_lc (own := [("row", 9)]) c.calm c.nd (mi_seq (me_var 5)) k_fits_in_order_3 (fun s H C cl fp => (mg_name (c.blk _ _ _ _ _).nd rfl (.inl rfl))) (fun s H C cl fp => mpts_nil) (fun s H C cl fp => (me_tup (ma_cons (x_ix (c.blk _ _ _ _ _) (me_var 0) (x_ix (c.blk _ _ _ _ _) (me_var 9) me_int)) (ma_cons (x_ix (c.blk _ _ _ _ _) (me_var 1) (x_ix (c.blk _ _ _ _ _) (me_var 9) me_int)) ma_nil))))))))))
def b_Table_u_init__ : SM :=
  sSeq (sSet 4 (eCall d_wrong_table_part (aCons (eVar 1) (aCons (eVar 2) (aCons (eVar 3) (aNil))))))
  (sSeq (sIf (bTest (eUn pNotN (eVar 4))) (sNever) (sNext))
  (sSeq (sSet 5 (eCall d_fits_in_order (aCons (eVar 1) (aCons (eVar 2) (aCons (eVar 3) (aNil))))))
  (sSeq (sSet 7 (eDc (wSeq (eVar 1)) (gN 6) (bYes) (eVar 6) (eLst (aNil)) [6]))
  (sSeq (sSet 9 (eDc (wSeq (eVar 2)) (gN 8) (bYes) (eVar 8) (eLst (aNil)) [8]))
  (sSeq (sFor (wSeq (eVar 5)) (gT [gN 6, gN 8]) (sSeq (sDrop (eBm mAppend (eOp pIx (eVar 7) (eVar 6)) (aCons (eVar 8) (aNil))))
  (sDrop (eBm mAppend (eOp pIx (eVar 9) (eVar 8)) (aCons (eVar 6) (aNil))))))
  (sSeq (sFldM "Table" "_stems" (eVar 0) (eCall bTuple (aCons (eVar 1) (aNil))))
  (sSeq (sFldM "Table" "_places" (eVar 0) (eCall bTuple (aCons (eVar 2) (aNil))))
  (sSeq (sFldM "Table" "_fits" (eVar 0) (eCall bTuple (aCons (eVar 5) (aNil))))
  (sSeq (sFldM "Table" "_by_stem" (eVar 0) (eVar 7))
  (sFldM "Table" "_by_place" (eVar 0) (eVar 9)))))))))))
def d_Table_u_init__ : List MV → Sto → Re MV := runB 10 b_Table_u_init__
theorem sc_Table_u_init__ : FnScope ["self", "stems", "places", "fits", "path", "told", "stem", "by_stem", "place", "by_place"] ["self", "stems", "places", "fits"] (defScope t_Table_u_init__) := ⟨rfl, rfl, rfl, by decide +kernel, rfl, by decide +kernel, by decide +kernel⟩
theorem k_Table_u_init___0 : BlkOk ["self", "stems", "places", "fits", "path", "told", "stem", "by_stem", "place", "by_place"] (defScope t_Table_u_init__) {
                        kind := PySem.ScopeKind.function,
                        names := [(PySem.Str.ofString ".0", PySem.NameKind.local), (PySem.Str.ofString "stem", PySem.NameKind.local)],
                        isGenerator := false,
                        isCoroutine := false,
                        more := [] : PySem.Scope } [("stem", 6)] := ⟨rfl, by decide +kernel, by decide +kernel, by decide +kernel, by decide +kernel⟩
theorem k_Table_u_init___1 : BlkOk ["self", "stems", "places", "fits", "path", "told", "stem", "by_stem", "place", "by_place"] (defScope t_Table_u_init__) {
                        kind := PySem.ScopeKind.function,
                        names := [(PySem.Str.ofString ".0", PySem.NameKind.local), (PySem.Str.ofString "place", PySem.NameKind.local)],
                        isGenerator := false,
                        isCoroutine := false,
                        more := [] : PySem.Scope } [("place", 8)] := ⟨rfl, by decide +kernel, by decide +kernel, by decide +kernel, by decide +kernel⟩
theorem S_Table_u_init__ (q : FX K mg) : SaysI P w K mg base [] 5 "Table" 3 d_Table_u_init__ := by
  obtain ⟨fd, fn⟩ := q.d.def_ 17 (d := ⟨("Table", some "__init__"), "__init__", "Table.__init__", defArgs t_Table_u_init__, defBody t_Table_u_init__, defScope t_Table_u_init__, [], []⟩) rfl
  refine ⟨q.gl 38, q.mk' 39, fd, _, fn_mk (N := ["self", "stems", "places", "fits", "path", "told", "stem", "by_stem", "place", "by_place"]) (ps := ["self", "stems", "places", "fits"]) fn sc_Table_u_init__ (fun cdv A outer s H E c own => ?_), fn.bindsN (ps := ["self", "stems", "places", "fits"]) fun _ _ _ _ _ _ us hl => match us, hl with | [_, _, _, _], _ => rfl⟩
  exact (ms_cons (mp_set c.nd rfl (.inl rfl) (x_call c (S_wrong_table_part q) (by decide) (amL_cons (amL_cons (amL_cons amL_nil))) rfl (ma_cons (me_var 1) (ma_cons (me_var 2) (ma_cons (me_var 3) ma_nil)))))
    (ms_cons (mp_if (mt_notN (me_var 4)) (ms_one mp_never) ms_nil)
    (ms_cons (mp_set c.nd rfl (.inl rfl) (x_call c (S_fits_in_order q) (by decide) (amL_cons (amL_cons (amL_cons amL_nil))) rfl (ma_cons (me_var 1) (ma_cons (me_var 2) (ma_cons (me_var 3) ma_nil)))))
    (ms_cons (mp_setDc (own := [("stem", 6)]) c.calm c.nd rfl rfl (swD rfl rfl rfl rfl) (mi_seq (me_var 1)) k_Table_u_init___0 (fun s H C cl fp => (mg_name (c.blk _ _ _ _ _).nd rfl (.inl rfl))) (fun s H C cl fp => mpts_nil) (fun s H C cl fp => (me_var 6)) (fun s H C cl fp => (me_lst ma_nil)))
    (ms_cons (mp_setDc (own := [("place", 8)]) c.calm c.nd rfl rfl (swD rfl rfl rfl rfl) (mi_seq (me_var 2)) k_Table_u_init___1 (fun s H C cl fp => (mg_name (c.blk _ _ _ _ _).nd rfl (.inl rfl))) (fun s H C cl fp => mpts_nil) (fun s H C cl fp => (me_var 8)) (fun s H C cl fp => (me_lst ma_nil)))
    (ms_cons (mp_for own c.calm (mi_seq (me_var 5)) (mg_tup c.calm (mgs_cons (mg_name c.nd rfl (.inl rfl)) (mgs_cons (mg_name c.nd rfl (.inl rfl)) mgs_nil))) (ms_cons (mp_expr (me_append (x_ix c (me_var 7) (me_var 6)) (ma_cons (me_var 8) ma_nil)))
    (ms_one (mp_expr (me_append (x_ix c (me_var 9) (me_var 8)) (ma_cons (me_var 6) ma_nil))))))
    (ms_cons (mp_fld (q.cls 32) (q.no 33) (me_var 0) (x_tuple (q.fr 16) rfl (ma_cons (me_var 1) ma_nil)))
    (ms_cons (mp_fld (q.cls 32) (q.no 34) (me_var 0) (x_tuple (q.fr 16) rfl (ma_cons (me_var 2) ma_nil)))
    (ms_cons (mp_fld (q.cls 32) (q.no 35) (me_var 0) (x_tuple (q.fr 16) rfl (ma_cons (me_var 5) ma_nil)))
    (ms_cons (mp_fld (q.cls 32) (q.no 36) (me_var 0) (me_var 7))
    (ms_one (mp_fld (q.cls 32) (q.no 37) (me_var 0) (me_var 9)))))))))))))
def b__law_table_of : SM :=
  sRet (eMake "Table" d_Table_u_init__ (aCons (eOp pIx (eVar 0) (eC (.str "stems"))) (aCons (eOp pIx (eVar 0) (eC (.str "places"))) (aCons (eOp pIx (eVar 0) (eC (.str "fits"))) (aNil)))))
def d__law_table_of : List MV → Sto → Re MV := runB 1 b__law_table_of
theorem sc__law_table_of : FnScope ["_law_table"] ["_law_table"] (defScope t__law_table_of) := ⟨rfl, rfl, rfl, by decide +kernel, rfl, by decide +kernel, by decide +kernel⟩
theorem S__law_table_of (q : FX K mg) : Says P w K mg base [] 7 "_law_table_of" 1 d__law_table_of := by
  obtain ⟨fd, fn⟩ := q.d.def_ 18 (d := ⟨("_law_table_of", none), "_law_table_of", "_law_table_of", defArgs t__law_table_of, defBody t__law_table_of, defScope t__law_table_of, [], []⟩) rfl
  refine ⟨q.gl 40, fn.kp, fd, _, fn_mk (N := ["_law_table"]) (ps := ["_law_table"]) fn sc__law_table_of (fun cdv A outer s H E c own => ?_), fn.bindsN (ps := ["_law_table"]) fun _ _ _ _ _ _ us hl => match us, hl with | [_], _ => rfl⟩
  exact (ms_one (mp_ret (x_make c (S_Table_u_init__ q) (by decide) (amL_cons (amL_cons (amL_cons amL_nil))) rfl (ma_cons (x_ix c (me_var 0) me_str) (ma_cons (x_ix c (me_var 0) me_str) (ma_cons (x_ix c (me_var 0) me_str) ma_nil))))))
def b__law_turned_table : SM :=
  sSeq (sSet 1 (eLc (wSeq (eOp pIx (eVar 0) (eC (.str "fits")))) (gT [gN 2, gN 3]) (bYes) (eTup (aCons (eVar 3) (aCons (eVar 2) (aNil)))) [2, 3]))
  (sRet (eDisp [(eC (.str "stems"), eOp pIx (eVar 0) (eC (.str "places"))), (eC (.str "places"), eOp pIx (eVar 0) (eC (.str "stems"))), (eC (.str "fits"), eVar 1)]))
def d__law_turned_table : List MV → Sto → Re MV := runB 4 b__law_turned_table
theorem sc__law_turned_table : FnScope ["_law_table", "_law_turned_fits", "_law_stem", "_law_place"] ["_law_table"] (defScope t__law_turned_table) := ⟨rfl, rfl, rfl, by decide +kernel, rfl, by decide +kernel, by decide +kernel⟩
theorem k__law_turned_table_0 : BlkOk ["_law_table", "_law_turned_fits", "_law_stem", "_law_place"] (defScope t__law_turned_table) {
                    kind := PySem.ScopeKind.function,
                    names := [
                      (PySem.Str.ofString ".0", PySem.NameKind.local),
                      (PySem.Str.ofString "_law_stem", PySem.NameKind.local),
                      (PySem.Str.ofString "_law_place", PySem.NameKind.local)],
                    isGenerator := false,
                    isCoroutine := false,
                    more := [] : PySem.Scope } [("_law_stem", 2), ("_law_place", 3)] := ⟨rfl, by decide +kernel, by decide +kernel, by decide +kernel, by decide +kernel⟩
theorem S__law_turned_table (q : FX K mg) : Says P w K mg base [] 1 "_law_turned_table" 1 d__law_turned_table := by
  obtain ⟨fd, fn⟩ := q.d.def_ 19 (d := ⟨("_law_turned_table", none), "_law_turned_table", "_law_turned_table", defArgs t__law_turned_table, defBody t__law_turned_table, defScope t__law_turned_table, [], []⟩) rfl
  refine ⟨q.gl 41, fn.kp, fd, _, fn_mk (N := ["_law_table", "_law_turned_fits", "_law_stem", "_law_place"]) (ps := ["_law_table"]) fn sc__law_turned_table (fun cdv A outer s H E c own => ?_), fn.bindsN (ps := ["_law_table"]) fun _ _ _ _ _ _ us hl => match us, hl with | [_], _ => rfl⟩
  exact (ms_cons (mp_setLc (own := [("_law_stem", 2), ("_law_place", 3)]) c.calm c.nd rfl rfl (sw_true rfl rfl rfl rfl) (mi_seq (x_ix c (me_var 0) me_str)) k__law_turned_table_0 (fun s H C cl fp => (mg_tup (c.blk _ _ _ _ _).calm (mgs_cons (mg_name (c.blk _ _ _ _ _).nd rfl (.inl rfl)) (mgs_cons (mg_name (c.blk _ _ _ _ _).nd rfl (.inl rfl)) mgs_nil)))) (fun s H C cl fp => mpts_nil) (fun s H C cl fp => (me_tup (ma_cons (me_var 3) (ma_cons (me_var 2) ma_nil)))))
    (ms_one (mp_ret (me_disp (mpp_cons me_str (x_ix c (me_var 0) me_str) (mpp_cons me_str (x_ix c (me_var 0) me_str) (mpp_cons me_str (me_var 1) mpp_nil)))))))
def b_Table_fits : SM :=
  sRet (eCall bList (aCons (eFld "Table" "_fits" (eVar 0)) (aNil)))
def d_Table_fits : List MV → Sto → Re MV := runB 1 b_Table_fits
theorem sc_Table_fits : FnScope ["self"] ["self"] (defScope t_Table_fits) := ⟨rfl, rfl, rfl, by decide +kernel, rfl, by decide +kernel, by decide +kernel⟩
theorem S_Table_fits (q : FX K mg) : SaysM P w K mg base [] 1 "Table" "fits" 0 d_Table_fits := by
  obtain ⟨fd, fn⟩ := q.d.def_ 20 (d := ⟨("Table", some "fits"), "fits", "Table.fits", defArgs t_Table_fits, defBody t_Table_fits, defScope t_Table_fits, [], []⟩) rfl
  refine ⟨q.cls 32, q.me 42, fd, _, fn_mk (N := ["self"]) (ps := ["self"]) fn sc_Table_fits (fun cdv A outer s H E c own => ?_), fn.bindsN (ps := ["self"]) fun _ _ _ _ _ _ us hl => match us, hl with | [_], _ => rfl⟩
  exact (ms_one (mp_ret (x_list (q.fr 10) rfl (ma_cons (me_fld (q.cls 32) (q.no 35) (me_var 0)) ma_nil))))
def b_Table_stems : SM :=
  sRet (eCall bList (aCons (eFld "Table" "_stems" (eVar 0)) (aNil)))
def d_Table_stems : List MV → Sto → Re MV := runB 1 b_Table_stems
theorem sc_Table_stems : FnScope ["self"] ["self"] (defScope t_Table_stems) := ⟨rfl, rfl, rfl, by decide +kernel, rfl, by decide +kernel, by decide +kernel⟩
theorem S_Table_stems (q : FX K mg) : SaysM P w K mg base [] 1 "Table" "stems" 0 d_Table_stems := by
  obtain ⟨fd, fn⟩ := q.d.def_ 21 (d := ⟨("Table", some "stems"), "stems", "Table.stems", defArgs t_Table_stems, defBody t_Table_stems, defScope t_Table_stems, [], []⟩) rfl
  refine ⟨q.cls 32, q.me 43, fd, _, fn_mk (N := ["self"]) (ps := ["self"]) fn sc_Table_stems (fun cdv A outer s H E c own => ?_), fn.bindsN (ps := ["self"]) fun _ _ _ _ _ _ us hl => match us, hl with | [_], _ => rfl⟩
  exact (ms_one (mp_ret (x_list (q.fr 10) rfl (ma_cons (me_fld (q.cls 32) (q.no 33) (me_var 0)) ma_nil))))
def b_Table_places : SM :=
  sRet (eCall bList (aCons (eFld "Table" "_places" (eVar 0)) (aNil)))
def d_Table_places : List MV → Sto → Re MV := runB 1 b_Table_places
theorem sc_Table_places : FnScope ["self"] ["self"] (defScope t_Table_places) := ⟨rfl, rfl, rfl, by decide +kernel, rfl, by decide +kernel, by decide +kernel⟩
theorem S_Table_places (q : FX K mg) : SaysM P w K mg base [] 1 "Table" "places" 0 d_Table_places := by
  obtain ⟨fd, fn⟩ := q.d.def_ 22 (d := ⟨("Table", some "places"), "places", "Table.places", defArgs t_Table_places, defBody t_Table_places, defScope t_Table_places, [], []⟩) rfl
  refine ⟨q.cls 32, q.me 44, fd, _, fn_mk (N := ["self"]) (ps := ["self"]) fn sc_Table_places (fun cdv A outer s H E c own => ?_), fn.bindsN (ps := ["self"]) fun _ _ _ _ _ _ us hl => match us, hl with | [_], _ => rfl⟩
  exact (ms_one (mp_ret (x_list (q.fr 10) rfl (ma_cons (me_fld (q.cls 32) (q.no 34) (me_var 0)) ma_nil))))
def b_turned : SM :=
  sRet (eMake "Table" d_Table_u_init__ (aCons (eMeth "Table" "places" d_Table_places (eVar 0) aNil) (aCons (eMeth "Table" "stems" d_Table_stems (eVar 0) aNil) (aCons (eLc (wSeq (eMeth "Table" "fits" d_Table_fits (eVar 0) aNil)) (gT [gN 1, gN 2]) (bYes) (eTup (aCons (eVar 2) (aCons (eVar 1) (aNil)))) [1, 2]) (aNil)))))
def d_turned : List MV → Sto → Re MV := runB 3 b_turned
theorem sc_turned : FnScope ["table", "stem", "place"] ["table"] (defScope t_turned) := ⟨rfl, rfl, rfl, by decide +kernel, rfl, by decide +kernel, by decide +kernel⟩
theorem k_turned_0 : BlkOk ["table", "stem", "place"] (defScope t_turned) {
                          kind := PySem.ScopeKind.function,
                          names := [
                            (PySem.Str.ofString ".0", PySem.NameKind.local),
                            (PySem.Str.ofString "stem", PySem.NameKind.local),
                            (PySem.Str.ofString "place", PySem.NameKind.local)],
                          isGenerator := false,
                          isCoroutine := false,
                          more := [] : PySem.Scope } [("stem", 1), ("place", 2)] := ⟨rfl, by decide +kernel, by decide +kernel, by decide +kernel, by decide +kernel⟩
theorem S_turned (q : FX K mg) : Says P w K mg base [] 7 "turned" 1 d_turned := by
  obtain ⟨fd, fn⟩ := q.d.def_ 23 (d := ⟨("turned", none), "turned", "turned", defArgs t_turned, defBody t_turned, defScope t_turned, [], []⟩) rfl
  refine ⟨q.gl 45, fn.kp, fd, _, fn_mk (N := ["table", "stem", "place"]) (ps := ["table"]) fn sc_turned (fun cdv A outer s H E c own => ?_), fn.bindsN (ps := ["table"]) fun _ _ _ _ _ _ us hl => match us, hl with | [_], _ => rfl⟩
  exact (ms_one (mp_ret (x_make c (S_Table_u_init__ q) (by decide) (amL_cons (amL_cons (amL_cons amL_nil))) rfl (ma_cons (x_meth0 c (S_Table_places q) (by decide) (me_var 0)) (ma_cons (x_meth0 c (S_Table_stems q) (by decide) (me_var 0)) (ma_cons (me_lc (own := [("stem", 1), ("place", 2)]) c.calm c.nd (mi_seq (x_meth0 c (S_Table_fits q) (by decide) (me_var 0))) k_turned_0 (fun s H C cl fp => (mg_tup (c.blk _ _ _ _ _).calm (mgs_cons (mg_name (c.blk _ _ _ _ _).nd rfl (.inl rfl)) (mgs_cons (mg_name (c.blk _ _ _ _ _).nd rfl (.inl rfl)) mgs_nil)))) (fun s H C cl fp => mpts_nil) (fun s H C cl fp => (me_tup (ma_cons (me_var 2) (ma_cons (me_var 1) ma_nil))))) ma_nil))))))
def b__law_sorted_fits : SM :=
  sSeq (sSet 1 (eLst (aNil)))
  (sSeq (sFor (wSeq (eOp pIx (eVar 0) (eC (.str "stems")))) (gN 2) (sSet 1 (eOp pAdd (eVar 1) (eLc (wSeq (eOp pIx (eVar 0) (eC (.str "places")))) (gN 3) (bTest (eOp pIn (eTup (aCons (eVar 2) (aCons (eVar 3) (aNil)))) (eOp pIx (eVar 0) (eC (.str "fits"))))) (eTup (aCons (eVar 2) (aCons (eVar 3) (aNil)))) [3]))))
  (sRet (eVar 1)))
def d__law_sorted_fits : List MV → Sto → Re MV := runB 4 b__law_sorted_fits
theorem sc__law_sorted_fits : FnScope ["_law_table", "_law_found", "_law_stem", "_law_place"] ["_law_table"] (defScope t__law_sorted_fits) := ⟨rfl, rfl, rfl, by decide +kernel, rfl, by decide +kernel, by decide +kernel⟩
theorem k__law_sorted_fits_0 : BlkOk ["_law_table", "_law_found", "_law_stem", "_law_place"] (defScope t__law_sorted_fits) {
                          kind := PySem.ScopeKind.function,
                          names := [
                            (PySem.Str.ofString ".0", PySem.NameKind.local),
                            (PySem.Str.ofString "_law_place", PySem.NameKind.local),
                            (PySem.Str.ofString "_law_stem", PySem.NameKind.free),
                            (PySem.Str.ofString "_law_table", PySem.NameKind.free)],
                          isGenerator := false,
                          isCoroutine := false,
                          more := [] : PySem.Scope } [("_law_place", 3)] := ⟨rfl, by decide +kernel, by decide +kernel, by decide +kernel, by decide +kernel⟩
theorem S__law_sorted_fits (q : FX K mg) : Says P w K mg base [] 1 "_law_sorted_fits" 1 d__law_sorted_fits := by
  obtain ⟨fd, fn⟩ := q.d.def_ 24 (d := ⟨("_law_sorted_fits", none), "_law_sorted_fits", "_law_sorted_fits", defArgs t__law_sorted_fits, defBody t__law_sorted_fits, defScope t__law_sorted_fits, [], []⟩) rfl
  refine ⟨q.gl 46, fn.kp, fd, _, fn_mk (N := ["_law_table", "_law_found", "_law_stem", "_law_place"]) (ps := ["_law_table"]) fn sc__law_sorted_fits (fun cdv A outer s H E c own => ?_), fn.bindsN (ps := ["_law_table"]) fun _ _ _ _ _ _ us hl => match us, hl with | [_], _ => rfl⟩
  exact (ms_cons (mp_set c.nd rfl (.inl rfl) (me_lst ma_nil))
    (ms_cons (mp_for own c.calm (mi_seq (x_ix c (me_var 0) me_str)) (mg_name c.nd rfl (.inr rfl)) (ms_one (mp_set c.nd rfl (.inl rfl) (x_add (me_var 1) (me_lc (own := [("_law_place", 3)]) c.calm c.nd (mi_seq (x_ix c (me_var 0) me_str)) k__law_sorted_fits_0 (fun s H C cl fp => (mg_name (c.blk _ _ _ _ _).nd rfl (.inl rfl))) (fun s H C cl fp => (mpts_one (t_in (c.blk _ _ _ _ _) (me_tup (ma_cons (me_var 2) (ma_cons (me_var 3) ma_nil))) (x_ix (c.blk _ _ _ _ _) (me_var 0) me_str)))) (fun s H C cl fp => (me_tup (ma_cons (me_var 2) (ma_cons (me_var 3) ma_nil)))))))))
    (ms_one (mp_ret (me_var 1)))))
def b_check_known : SM :=
  sIf (bTest (eOp pNotIn (eVar 0) (eVar 1))) (sNever) (sNext)
def d_check_known : List MV → Sto → Re MV := runB 2 b_check_known
theorem sc_check_known : FnScope ["value", "known"] ["value", "known"] (defScope t_check_known) := ⟨rfl, rfl, rfl, by decide +kernel, rfl, by decide +kernel, by decide +kernel⟩
theorem S_check_known (q : FX K mg) : Says P w K mg base [] 1 "check_known" 2 d_check_known := by
  obtain ⟨fd, fn⟩ := q.d.def_ 25 (d := ⟨("check_known", none), "check_known", "check_known", defArgs t_check_known, defBody t_check_known, defScope t_check_known, [], []⟩) rfl
  refine ⟨q.gl 48, fn.kp, fd, _, fn_mk (N := ["value", "known"]) (ps := ["value", "known"]) fn sc_check_known (fun cdv A outer s H E c own => ?_), fn.bindsN (ps := ["value", "known"]) fun _ _ _ _ _ _ us hl => match us, hl with | [_, _], _ => rfl⟩
  exact (ms_one (mp_if (t_notin c (me_var 0) (me_var 1)) (ms_one mp_never) ms_nil))
def b_Table_is_fit : SM :=
  sSeq (sDrop (eCall d_check_known (aCons (eVar 1) (aCons (eFld "Table" "_stems" (eVar 0)) (aNil)))))
  (sSeq (sDrop (eCall d_check_known (aCons (eVar 2) (aCons (eFld "Table" "_places" (eVar 0)) (aNil)))))
  (sRet (eOp pIn (eVar 2) (eOp pIx (eFld "Table" "_by_stem" (eVar 0)) (eVar 1)))))
def d_Table_is_fit : List MV → Sto → Re MV := runB 3 b_Table_is_fit
theorem sc_Table_is_fit : FnScope ["self", "stem", "place"] ["self", "stem", "place"] (defScope t_Table_is_fit) := ⟨rfl, rfl, rfl, by decide +kernel, rfl, by decide +kernel, by decide +kernel⟩
theorem S_Table_is_fit (q : FX K mg) : SaysM P w K mg base [] 2 "Table" "is_fit" 2 d_Table_is_fit := by
  obtain ⟨fd, fn⟩ := q.d.def_ 26 (d := ⟨("Table", some "is_fit"), "is_fit", "Table.is_fit", defArgs t_Table_is_fit, defBody t_Table_is_fit, defScope t_Table_is_fit, [], []⟩) rfl
  refine ⟨q.cls 32, q.me 49, fd, _, fn_mk (N := ["self", "stem", "place"]) (ps := ["self", "stem", "place"]) fn sc_Table_is_fit (fun cdv A outer s H E c own => ?_), fn.bindsN (ps := ["self", "stem", "place"]) fun _ _ _ _ _ _ us hl => match us, hl with | [_, _, _], _ => rfl⟩
  exact (ms_cons (mp_expr (x_call c (S_check_known q) (by decide) (amL_cons (amL_cons amL_nil)) rfl (ma_cons (me_var 1) (ma_cons (me_fld (q.cls 32) (q.no 33) (me_var 0)) ma_nil))))
    (ms_cons (mp_expr (x_call c (S_check_known q) (by decide) (amL_cons (amL_cons amL_nil)) rfl (ma_cons (me_var 2) (ma_cons (me_fld (q.cls 32) (q.no 34) (me_var 0)) ma_nil))))
    (ms_one (mp_ret (x_in c (me_var 2) (x_ix c (me_fld (q.cls 32) (q.no 36) (me_var 0)) (me_var 1)))))))
def b_Table_fits_of : SM :=
  sSeq (sDrop (eCall d_check_known (aCons (eVar 1) (aCons (eFld "Table" "_stems" (eVar 0)) (aNil)))))
  (sRet (eCall bList (aCons (eOp pIx (eFld "Table" "_by_stem" (eVar 0)) (eVar 1)) (aNil))))
def d_Table_fits_of : List MV → Sto → Re MV := runB 2 b_Table_fits_of
theorem sc_Table_fits_of : FnScope ["self", "stem"] ["self", "stem"] (defScope t_Table_fits_of) := ⟨rfl, rfl, rfl, by decide +kernel, rfl, by decide +kernel, by decide +kernel⟩
theorem S_Table_fits_of (q : FX K mg) : SaysM P w K mg base [] 2 "Table" "fits_of" 1 d_Table_fits_of := by
  obtain ⟨fd, fn⟩ := q.d.def_ 27 (d := ⟨("Table", some "fits_of"), "fits_of", "Table.fits_of", defArgs t_Table_fits_of, defBody t_Table_fits_of, defScope t_Table_fits_of, [], []⟩) rfl
  refine ⟨q.cls 32, q.me 50, fd, _, fn_mk (N := ["self", "stem"]) (ps := ["self", "stem"]) fn sc_Table_fits_of (fun cdv A outer s H E c own => ?_), fn.bindsN (ps := ["self", "stem"]) fun _ _ _ _ _ _ us hl => match us, hl with | [_, _], _ => rfl⟩
  exact (ms_cons (mp_expr (x_call c (S_check_known q) (by decide) (amL_cons (amL_cons amL_nil)) rfl (ma_cons (me_var 1) (ma_cons (me_fld (q.cls 32) (q.no 33) (me_var 0)) ma_nil))))
    (ms_one (mp_ret (x_list (q.fr 10) rfl (ma_cons (x_ix c (me_fld (q.cls 32) (q.no 36) (me_var 0)) (me_var 1)) ma_nil)))))
def b_Table_fits_at : SM :=
  sSeq (sDrop (eCall d_check_known (aCons (eVar 1) (aCons (eFld "Table" "_places" (eVar 0)) (aNil)))))
  (sRet (eCall bList (aCons (eOp pIx (eFld "Table" "_by_place" (eVar 0)) (eVar 1)) (aNil))))
def d_Table_fits_at : List MV → Sto → Re MV := runB 2 b_Table_fits_at
theorem sc_Table_fits_at : FnScope ["self", "place"] ["self", "place"] (defScope t_Table_fits_at) := ⟨rfl, rfl, rfl, by decide +kernel, rfl, by decide +kernel, by decide +kernel⟩
theorem S_Table_fits_at (q : FX K mg) : SaysM P w K mg base [] 2 "Table" "fits_at" 1 d_Table_fits_at := by
  obtain ⟨fd, fn⟩ := q.d.def_ 28 (d := ⟨("Table", some "fits_at"), "fits_at", "Table.fits_at", defArgs t_Table_fits_at, defBody t_Table_fits_at, defScope t_Table_fits_at, [], []⟩) rfl
  refine ⟨q.cls 32, q.me 51, fd, _, fn_mk (N := ["self", "place"]) (ps := ["self", "place"]) fn sc_Table_fits_at (fun cdv A outer s H E c own => ?_), fn.bindsN (ps := ["self", "place"]) fun _ _ _ _ _ _ us hl => match us, hl with | [_, _], _ => rfl⟩
  exact (ms_cons (mp_expr (x_call c (S_check_known q) (by decide) (amL_cons (amL_cons amL_nil)) rfl (ma_cons (me_var 1) (ma_cons (me_fld (q.cls 32) (q.no 34) (me_var 0)) ma_nil))))
    (ms_one (mp_ret (x_list (q.fr 10) rfl (ma_cons (x_ix c (me_fld (q.cls 32) (q.no 37) (me_var 0)) (me_var 1)) ma_nil)))))
def b__law_told_right : SM :=
  sSeq (sSet 2 (eLst (aCons (eOp pIx (eVar 0) (eC (.str "stems"))) (aCons (eOp pIx (eVar 0) (eC (.str "places"))) (aCons (eCall d__law_sorted_fits (aCons (eVar 0) (aNil))) (aNil))))))
  (sSeq (sFor (wRng1 (eC (.int 2))) (gN 3) (sSeq (sSet 4 (eLst (aCons (eMeth "Table" "stems" d_Table_stems (eVar 1) aNil) (aCons (eMeth "Table" "places" d_Table_places (eVar 1) aNil) (aCons (eMeth "Table" "fits" d_Table_fits (eVar 1) aNil) (aNil))))))
  (sSeq (sIf (bTest (eOp pNeA (eCall (f1 reprM) (aCons (eVar 4) (aNil))) (eCall (f1 reprM) (aCons (eVar 2) (aNil))))) (sRet (eC (.bl false))) (sNext))
  (sSeq (sFor (wSeq (eOp pIx (eVar 0) (eC (.str "stems")))) (gN 5) (sSeq (sSet 7 (eLc (wSeq (eOp pIx (eVar 0) (eC (.str "places")))) (gN 6) (bYes) (eMeth "Table" "is_fit" d_Table_is_fit (eVar 1) (aCons (eVar 5) (aCons (eVar 6) (aNil)))) [6]))
  (sSeq (sIf (bTest (eOp pNeA (eCall (f1 reprM) (aCons (eVar 7) (aNil))) (eCall (f1 reprM) (aCons (eLc (wSeq (eOp pIx (eVar 0) (eC (.str "places")))) (gN 6) (bYes) (eOp pIn (eTup (aCons (eVar 5) (aCons (eVar 6) (aNil)))) (eOp pIx (eVar 2) (eC (.int 2)))) [6]) (aNil))))) (sRet (eC (.bl false))) (sNext))
  (sSeq (sDrop (eBm mAppend (eVar 4) (aCons (eMeth "Table" "fits_of" d_Table_fits_of (eVar 1) (aCons (eVar 5) (aNil))) (aNil))))
  (sIf (bTest (eOp pNeA (eOp pIx (eVar 4) (eUn pNeg (eC (.int 1)))) (eLc (wSeq (eOp pIx (eVar 2) (eC (.int 2)))) (gN 9) (bTest (eOp pEqA (eOp pIx (eVar 9) (eC (.int 0))) (eVar 5))) (eOp pIx (eVar 9) (eC (.int 1))) [9]))) (sRet (eC (.bl false))) (sNext))))))
  (sSeq (sFor (wSeq (eOp pIx (eVar 0) (eC (.str "places")))) (gN 6) (sSeq (sDrop (eBm mAppend (eVar 4) (aCons (eMeth "Table" "fits_at" d_Table_fits_at (eVar 1) (aCons (eVar 6) (aNil))) (aNil))))
  (sIf (bTest (eOp pNeA (eOp pIx (eVar 4) (eUn pNeg (eC (.int 1)))) (eLc (wSeq (eOp pIx (eVar 2) (eC (.int 2)))) (gN 9) (bTest (eOp pEqA (eOp pIx (eVar 9) (eC (.int 1))) (eVar 6))) (eOp pIx (eVar 9) (eC (.int 0))) [9]))) (sRet (eC (.bl false))) (sNext))))
  (sFor (wSeq (eVar 4)) (gN 8) (sDrop (eBm mAppend (eVar 8) (aCons (eC .non) (aNil))))))))))
  (sRet (eOp pEqA (eCall (f1 reprM) (aCons (eLst (aCons (eMeth "Table" "stems" d_Table_stems (eVar 1) aNil) (aCons (eMeth "Table" "places" d_Table_places (eVar 1) aNil) (aCons (eMeth "Table" "fits" d_Table_fits (eVar 1) aNil) (aNil))))) (aNil))) (eCall (f1 reprM) (aCons (eVar 2) (aNil))))))
def d__law_told_right : List MV → Sto → Re MV := runB 10 b__law_told_right
theorem sc__law_told_right : FnScope ["_law_table", "_law_made_here", "_law_due", "_law_lap", "_law_told", "_law_stem", "_law_place", "_law_is_let", "_law_some", "_law_pair"] ["_law_table", "_law_made_here"] (defScope t__law_told_right) := ⟨rfl, rfl, rfl, by decide +kernel, rfl, by decide +kernel, by decide +kernel⟩
theorem k__law_told_right_0 : BlkOk ["_law_table", "_law_made_here", "_law_due", "_law_lap", "_law_told", "_law_stem", "_law_place", "_law_is_let", "_law_some", "_law_pair"] (defScope t__law_told_right) {
                            kind := PySem.ScopeKind.function,
                            names := [
                              (PySem.Str.ofString ".0", PySem.NameKind.local),
                              (PySem.Str.ofString "_law_place", PySem.NameKind.local),
                              (PySem.Str.ofString "_law_made_here", PySem.NameKind.free),
                              (PySem.Str.ofString "_law_stem", PySem.NameKind.free)],
                            isGenerator := false,
                            isCoroutine := false,
                            more := [] : PySem.Scope } [("_law_place", 6)] := ⟨rfl, by decide +kernel, by decide +kernel, by decide +kernel, by decide +kernel⟩
theorem k__law_told_right_1 : BlkOk ["_law_table", "_law_made_here", "_law_due", "_law_lap", "_law_told", "_law_stem", "_law_place", "_law_is_let", "_law_some", "_law_pair"] (defScope t__law_told_right) {
                                    kind := PySem.ScopeKind.function,
                                    names := [
                                      (PySem.Str.ofString ".0", PySem.NameKind.local),
                                      (PySem.Str.ofString "_law_place", PySem.NameKind.local),
                                      (PySem.Str.ofString "_law_due", PySem.NameKind.free),
                                      (PySem.Str.ofString "_law_stem", PySem.NameKind.free)],
                                    isGenerator := false,
                                    isCoroutine := false,
                                    more := [] : PySem.Scope } [("_law_place", 6)] := ⟨rfl, by decide +kernel, by decide +kernel, by decide +kernel, by decide +kernel⟩
theorem k__law_told_right_2 : BlkOk ["_law_table", "_law_made_here", "_law_due", "_law_lap", "_law_told", "_law_stem", "_law_place", "_law_is_let", "_law_some", "_law_pair"] (defScope t__law_told_right) {
                                kind := PySem.ScopeKind.function,
                                names := [
                                  (PySem.Str.ofString ".0", PySem.NameKind.local),
                                  (PySem.Str.ofString "_law_pair", PySem.NameKind.local),
                                  (PySem.Str.ofString "_law_stem", PySem.NameKind.free)],
                                isGenerator := false,
                                isCoroutine := false,
                                more := [] : PySem.Scope } [("_law_pair", 9)] := ⟨rfl, by decide +kernel, by decide +kernel, by decide +kernel, by decide +kernel⟩
theorem k__law_told_right_3 : BlkOk ["_law_table", "_law_made_here", "_law_due", "_law_lap", "_law_told", "_law_stem", "_law_place", "_law_is_let", "_law_some", "_law_pair"] (defScope t__law_told_right) {
                                kind := PySem.ScopeKind.function,
                                names := [
                                  (PySem.Str.ofString ".0", PySem.NameKind.local),
                                  (PySem.Str.ofString "_law_pair", PySem.NameKind.local),
                                  (PySem.Str.ofString "_law_place", PySem.NameKind.free)],
                                isGenerator := false,
                                isCoroutine := false,
                                more := [] : PySem.Scope } [("_law_pair", 9)] := ⟨rfl, by decide +kernel, by decide +kernel, by decide +kernel, by decide +kernel⟩
theorem S__law_told_right (q : FX K mg) : Says P w K mg base [] 3 "_law_told_right" 2 d__law_told_right := by
  obtain ⟨fd, fn⟩ := q.d.def_ 29 (d := ⟨("_law_told_right", none), "_law_told_right", "_law_told_right", defArgs t__law_told_right, defBody t__law_told_right, defScope t__law_told_right, [], []⟩) rfl
  refine ⟨q.gl 52, fn.kp, fd, _, fn_mk (N := ["_law_table", "_law_made_here", "_law_due", "_law_lap", "_law_told", "_law_stem", "_law_place", "_law_is_let", "_law_some", "_law_pair"]) (ps := ["_law_table", "_law_made_here"]) fn sc__law_told_right (fun cdv A outer s H E c own => ?_), fn.bindsN (ps := ["_law_table", "_law_made_here"]) fun _ _ _ _ _ _ us hl => match us, hl with | [_, _], _ => rfl⟩
  exact (ms_cons (mp_set c.nd rfl (.inr rfl) (me_lst (ma_cons (x_ix c (me_var 0) me_str) (ma_cons (x_ix c (me_var 0) me_str) (ma_cons (x_call c (S__law_sorted_fits q) (by decide) (amL_cons amL_nil) rfl (ma_cons (me_var 0) ma_nil)) ma_nil)))))
    (ms_cons (mp_for own c.calm (mi_rng1 rfl (q.fr 3) me_int) (mg_name c.nd rfl (.inl rfl)) (ms_cons (mp_set c.nd rfl (.inl rfl) (me_lst (ma_cons (x_meth0 c (S_Table_stems q) (by decide) (me_var 1)) (ma_cons (x_meth0 c (S_Table_places q) (by decide) (me_var 1)) (ma_cons (x_meth0 c (S_Table_fits q) (by decide) (me_var 1)) ma_nil)))))
    (ms_cons (mp_if (t_ne c (x_repr c (q.fr 47) rfl (ma_cons (me_var 4) ma_nil)) (x_repr c (q.fr 47) rfl (ma_cons (me_var 2) ma_nil))) (ms_one (mp_ret me_bl)) ms_nil)
    (ms_cons (mp_for own c.calm (mi_seq (x_ix c (me_var 0) me_str)) (mg_name c.nd rfl (.inr rfl)) (ms_cons (mp_setLc (own := [("_law_place", 6)]) c.calm c.nd rfl rfl (sw_true rfl rfl rfl rfl) (mi_seq (x_ix c (me_var 0) me_str)) k__law_told_right_0 (fun s H C cl fp => (mg_name (c.blk _ _ _ _ _).nd rfl (.inl rfl))) (fun s H C cl fp => mpts_nil) (fun s H C cl fp => (x_meth (c.blk _ _ _ _ _) (S_Table_is_fit q) (by decide) (amL_cons (amL_cons amL_nil)) (me_var 1) (ma_cons (me_var 5) (ma_cons (me_var 6) ma_nil)))))
    (ms_cons (mp_if (t_ne c (x_repr c (q.fr 47) rfl (ma_cons (me_var 7) ma_nil)) (x_repr c (q.fr 47) rfl (ma_cons (me_lc (own := [("_law_place", 6)]) c.calm c.nd (mi_seq (x_ix c (me_var 0) me_str)) k__law_told_right_1 (fun s H C cl fp => (mg_name (c.blk _ _ _ _ _).nd rfl (.inl rfl))) (fun s H C cl fp => mpts_nil) (fun s H C cl fp => (x_in (c.blk _ _ _ _ _) (me_tup (ma_cons (me_var 5) (ma_cons (me_var 6) ma_nil))) (x_ix (c.blk _ _ _ _ _) (me_var 2) me_int)))) ma_nil))) (ms_one (mp_ret me_bl)) ms_nil)
    (ms_cons (mp_expr (me_append (me_var 4) (ma_cons (x_meth c (S_Table_fits_of q) (by decide) (amL_cons amL_nil) (me_var 1) (ma_cons (me_var 5) ma_nil)) ma_nil)))
    (ms_one (mp_if (t_ne c (x_ix c (me_var 4) (x_neg me_int)) (me_lc (own := [("_law_pair", 9)]) c.calm c.nd (mi_seq (x_ix c (me_var 2) me_int)) k__law_told_right_2 (fun s H C cl fp => (mg_name (c.blk _ _ _ _ _).nd rfl (.inl rfl))) (fun s H C cl fp => (mpts_one (t_eq (c.blk _ _ _ _ _) (x_ix (c.blk _ _ _ _ _) (me_var 9) me_int) (me_var 5)))) (fun s H C cl fp => (x_ix (c.blk _ _ _ _ _) (me_var 9) me_int)))) (ms_one (mp_ret me_bl)) ms_nil))))))
    (ms_cons (mp_for own c.calm (mi_seq (x_ix c (me_var 0) me_str)) (mg_name c.nd rfl (.inr rfl)) (ms_cons (mp_expr (me_append (me_var 4) (ma_cons (x_meth c (S_Table_fits_at q) (by decide) (amL_cons amL_nil) (me_var 1) (ma_cons (me_var 6) ma_nil)) ma_nil)))
    (ms_one (mp_if (t_ne c (x_ix c (me_var 4) (x_neg me_int)) (me_lc (own := [("_law_pair", 9)]) c.calm c.nd (mi_seq (x_ix c (me_var 2) me_int)) k__law_told_right_3 (fun s H C cl fp => (mg_name (c.blk _ _ _ _ _).nd rfl (.inl rfl))) (fun s H C cl fp => (mpts_one (t_eq (c.blk _ _ _ _ _) (x_ix (c.blk _ _ _ _ _) (me_var 9) me_int) (me_var 6)))) (fun s H C cl fp => (x_ix (c.blk _ _ _ _ _) (me_var 9) me_int)))) (ms_one (mp_ret me_bl)) ms_nil))))
    (ms_one (mp_for own c.calm (mi_seq (me_var 4)) (mg_name c.nd rfl (.inl rfl)) (ms_one (mp_expr (me_append (me_var 8) (ma_cons me_non ma_nil)))))))))))
    (ms_one (mp_ret (x_eq c (x_repr c (q.fr 47) rfl (ma_cons (me_lst (ma_cons (x_meth0 c (S_Table_stems q) (by decide) (me_var 1)) (ma_cons (x_meth0 c (S_Table_places q) (by decide) (me_var 1)) (ma_cons (x_meth0 c (S_Table_fits q) (by decide) (me_var 1)) ma_nil)))) ma_nil)) (x_repr c (q.fr 47) rfl (ma_cons (me_var 2) ma_nil)))))))
def b_Table_u_eq__ : SM :=
  sRet (eAnd (eIsi [(.b "str", false), (.b "list", false), (.b "tuple", false), (.b "int", false), (.b "bool", false), (.b "dict", false), (.b "NoneType", false), (.own "Table", true)] (eVar 1)) (eAnd (eOp pEqA (eFld "Table" "_stems" (eVar 0)) (eFld "Table" "_stems" (eVar 1))) (eAnd (eOp pEqA (eFld "Table" "_places" (eVar 0)) (eFld "Table" "_places" (eVar 1))) (eOp pEqA (eFld "Table" "_fits" (eVar 0)) (eFld "Table" "_fits" (eVar 1))))))
def d_Table_u_eq__ : List MV → Sto → Re MV := runB 2 b_Table_u_eq__
theorem sc_Table_u_eq__ : FnScope ["self", "other"] ["self", "other"] (defScope t_Table_u_eq__) := ⟨rfl, rfl, rfl, by decide +kernel, rfl, by decide +kernel, by decide +kernel⟩
theorem S_Table_u_eq__ (q : FX K mg) : SaysM P w K mg base [] 1 "Table" "__eq__" 1 d_Table_u_eq__ := by
  obtain ⟨fd, fn⟩ := q.d.def_ 30 (d := ⟨("Table", some "__eq__"), "__eq__", "Table.__eq__", defArgs t_Table_u_eq__, defBody t_Table_u_eq__, defScope t_Table_u_eq__, [], []⟩) rfl
  refine ⟨q.cls 32, q.me 53, fd, _, fn_mk (N := ["self", "other"]) (ps := ["self", "other"]) fn sc_Table_u_eq__ (fun cdv A outer s H E c own => ?_), fn.bindsN (ps := ["self", "other"]) fun _ _ _ _ _ _ us hl => match us, hl with | [_, _], _ => rfl⟩
  exact (ms_one (mp_ret (me_and (me_isi (u := Tk.val K ((.own "Table" : Tk))) (q.tab 3 (cs := [.own "Table"])) rfl (q.fr 17) Mp.boot_isinstance (.own _) (me_var 1) (pe_glob (v := .ref (He.ga K "Table")) rfl (q.gl 38) rfl)) (me_and (x_eq c (me_fld (q.cls 32) (q.no 33) (me_var 0)) (me_fld (q.cls 32) (q.no 33) (me_var 1))) (me_and (x_eq c (me_fld (q.cls 32) (q.no 34) (me_var 0)) (me_fld (q.cls 32) (q.no 34) (me_var 1))) (me_one (x_eq c (me_fld (q.cls 32) (q.no 35) (me_var 0)) (me_fld (q.cls 32) (q.no 35) (me_var 1)))))))))
def b__law_some_of : SM :=
  sRet (eLc (wSeq (eVar 1)) (gN 2) (bTest (eOp pEqA (eCall d__law_pick (aCons (eVar 0) (aCons (eC (.int 2)) (aNil)))) (eC (.int 0)))) (eVar 2) [2])
def d__law_some_of : List MV → Sto → Re MV := runB 3 b__law_some_of
theorem sc__law_some_of : FnScope ["_law_source_here", "_law_things", "_law_one"] ["_law_source_here", "_law_things"] (defScope t__law_some_of) := ⟨rfl, rfl, rfl, by decide +kernel, rfl, by decide +kernel, by decide +kernel⟩
theorem k__law_some_of_0 : BlkOk ["_law_source_here", "_law_things", "_law_one"] (defScope t__law_some_of) {
                      kind := PySem.ScopeKind.function,
                      names := [
                        (PySem.Str.ofString ".0", PySem.NameKind.local),
                        (PySem.Str.ofString "_law_one", PySem.NameKind.local),
                        (PySem.Str.ofString "_law_pick", PySem.NameKind.globalImplicit),
                        (PySem.Str.ofString "_law_source_here", PySem.NameKind.free)],
                      isGenerator := false,
                      isCoroutine := false,
                      more := [] : PySem.Scope } [("_law_one", 2)] := ⟨rfl, by decide +kernel, by decide +kernel, by decide +kernel, by decide +kernel⟩
theorem S__law_some_of (q : FX K mg) : Says P w K mg base [] 2 "_law_some_of" 2 d__law_some_of := by
  obtain ⟨fd, fn⟩ := q.d.def_ 31 (d := ⟨("_law_some_of", none), "_law_some_of", "_law_some_of", defArgs t__law_some_of, defBody t__law_some_of, defScope t__law_some_of, [], []⟩) rfl
  refine ⟨q.gl 54, fn.kp, fd, _, fn_mk (N := ["_law_source_here", "_law_things", "_law_one"]) (ps := ["_law_source_here", "_law_things"]) fn sc__law_some_of (fun cdv A outer s H E c own => ?_), fn.bindsN (ps := ["_law_source_here", "_law_things"]) fun _ _ _ _ _ _ us hl => match us, hl with | [_, _], _ => rfl⟩
  exact (ms_one (mp_ret (me_lc (own := [("_law_one", 2)]) c.calm c.nd (mi_seq (me_var 1)) k__law_some_of_0 (fun s H C cl fp => (mg_name (c.blk _ _ _ _ _).nd rfl (.inl rfl))) (fun s H C cl fp => (mpts_one (t_eq (c.blk _ _ _ _ _) (x_call (c.blk _ _ _ _ _) (S__law_pick q) (by decide) (amL_cons (amL_cons amL_nil)) rfl (ma_cons (me_var 0) (ma_cons me_int ma_nil))) me_int))) (fun s H C cl fp => (me_var 2)))))
def b_part_of : SM :=
  sSeq (sFor (wSeq (eVar 1)) (gN 3) (sDrop (eCall d_check_known (aCons (eVar 3) (aCons (eMeth "Table" "stems" d_Table_stems (eVar 0) aNil) (aNil))))))
  (sSeq (sFor (wSeq (eVar 2)) (gN 4) (sDrop (eCall d_check_known (aCons (eVar 4) (aCons (eMeth "Table" "places" d_Table_places (eVar 0) aNil) (aNil))))))
  (sRet (eMake "Table" d_Table_u_init__ (aCons (eLc (wSeq (eMeth "Table" "stems" d_Table_stems (eVar 0) aNil)) (gN 3) (bTest (eOp pIn (eVar 3) (eVar 1))) (eVar 3) [3]) (aCons (eLc (wSeq (eMeth "Table" "places" d_Table_places (eVar 0) aNil)) (gN 4) (bTest (eOp pIn (eVar 4) (eVar 2))) (eVar 4) [4]) (aCons (eLc (wSeq (eMeth "Table" "fits" d_Table_fits (eVar 0) aNil)) (gN 5) (bAnd (bTest (eOp pIn (eOp pIx (eVar 5) (eC (.int 0))) (eVar 1))) (bTest (eOp pIn (eOp pIx (eVar 5) (eC (.int 1))) (eVar 2)))) (eVar 5) [5]) (aNil)))))))
def d_part_of : List MV → Sto → Re MV := runB 6 b_part_of
theorem sc_part_of : FnScope ["table", "stems", "places", "stem", "place", "fit"] ["table", "stems", "places"] (defScope t_part_of) := ⟨rfl, rfl, rfl, by decide +kernel, rfl, by decide +kernel, by decide +kernel⟩
theorem k_part_of_0 : BlkOk ["table", "stems", "places", "stem", "place", "fit"] (defScope t_part_of) {
                          kind := PySem.ScopeKind.function,
                          names := [
                            (PySem.Str.ofString ".0", PySem.NameKind.local),
                            (PySem.Str.ofString "fit", PySem.NameKind.local),
                            (PySem.Str.ofString "places", PySem.NameKind.free),
                            (PySem.Str.ofString "stems", PySem.NameKind.free)],
                          isGenerator := false,
                          isCoroutine := false,
                          more := [] : PySem.Scope } [("fit", 5)] := ⟨rfl, by decide +kernel, by decide +kernel, by decide +kernel, by decide +kernel⟩
theorem k_part_of_1 : BlkOk ["table", "stems", "places", "stem", "place", "fit"] (defScope t_part_of) {
                          kind := PySem.ScopeKind.function,
                          names := [
                            (PySem.Str.ofString ".0", PySem.NameKind.local),
                            (PySem.Str.ofString "place", PySem.NameKind.local),
                            (PySem.Str.ofString "places", PySem.NameKind.free)],
                          isGenerator := false,
                          isCoroutine := false,
                          more := [] : PySem.Scope } [("place", 4)] := ⟨rfl, by decide +kernel, by decide +kernel, by decide +kernel, by decide +kernel⟩
theorem k_part_of_2 : BlkOk ["table", "stems", "places", "stem", "place", "fit"] (defScope t_part_of) {
                          kind := PySem.ScopeKind.function,
                          names := [
                            (PySem.Str.ofString ".0", PySem.NameKind.local),
                            (PySem.Str.ofString "stem", PySem.NameKind.local),
                            (PySem.Str.ofString "stems", PySem.NameKind.free)],
                          isGenerator := false,
                          isCoroutine := false,
                          more := [] : PySem.Scope } [("stem", 3)] := ⟨rfl, by decide +kernel, by decide +kernel, by decide +kernel, by decide +kernel⟩
theorem S_part_of (q : FX K mg) : Says P w K mg base [] 7 "part_of" 3 d_part_of := by
  obtain ⟨fd, fn⟩ := q.d.def_ 32 (d := ⟨("part_of", none), "part_of", "part_of", defArgs t_part_of, defBody t_part_of, defScope t_part_of, [], []⟩) rfl
  refine ⟨q.gl 55, fn.kp, fd, _, fn_mk (N := ["table", "stems", "places", "stem", "place", "fit"]) (ps := ["table", "stems", "places"]) fn sc_part_of (fun cdv A outer s H E c own => ?_), fn.bindsN (ps := ["table", "stems", "places"]) fun _ _ _ _ _ _ us hl => match us, hl with | [_, _, _], _ => rfl⟩
  exact (ms_cons (mp_for own c.calm (mi_seq (me_var 1)) (mg_name c.nd rfl (.inl rfl)) (ms_one (mp_expr (x_call c (S_check_known q) (by decide) (amL_cons (amL_cons amL_nil)) rfl (ma_cons (me_var 3) (ma_cons (x_meth0 c (S_Table_stems q) (by decide) (me_var 0)) ma_nil))))))
    (ms_cons (mp_for own c.calm (mi_seq (me_var 2)) (mg_name c.nd rfl (.inl rfl)) (ms_one (mp_expr (x_call c (S_check_known q) (by decide) (amL_cons (amL_cons amL_nil)) rfl (ma_cons (me_var 4) (ma_cons (x_meth0 c (S_Table_places q) (by decide) (me_var 0)) ma_nil))))))
    (ms_one (mp_ret (x_make c (S_Table_u_init__ q) (by decide) (amL_cons (amL_cons (amL_cons amL_nil))) rfl (ma_cons (me_lc (own := [("stem", 3)]) c.calm c.nd (mi_seq (x_meth0 c (S_Table_stems q) (by decide) (me_var 0))) k_part_of_2 (fun s H C cl fp => (mg_name (c.blk _ _ _ _ _).nd rfl (.inl rfl))) (fun s H C cl fp => (mpts_one (t_in (c.blk _ _ _ _ _) (me_var 3) (me_var 1)))) (fun s H C cl fp => (me_var 3))) (ma_cons (me_lc (own := [("place", 4)]) c.calm c.nd (mi_seq (x_meth0 c (S_Table_places q) (by decide) (me_var 0))) k_part_of_1 (fun s H C cl fp => (mg_name (c.blk _ _ _ _ _).nd rfl (.inl rfl))) (fun s H C cl fp => (mpts_one (t_in (c.blk _ _ _ _ _) (me_var 4) (me_var 2)))) (fun s H C cl fp => (me_var 4))) (ma_cons (me_lc (own := [("fit", 5)]) c.calm c.nd (mi_seq (x_meth0 c (S_Table_fits q) (by decide) (me_var 0))) k_part_of_0 (fun s H C cl fp => (mg_name (c.blk _ _ _ _ _).nd rfl (.inl rfl))) (fun s H C cl fp => (mpts_one (PW.pt (mw_and (t_in (c.blk _ _ _ _ _) (x_ix (c.blk _ _ _ _ _) (me_var 5) me_int) (me_var 1)) (mw_one (t_in (c.blk _ _ _ _ _) (x_ix (c.blk _ _ _ _ _) (me_var 5) me_int) (me_var 2))))))) (fun s H C cl fp => (me_var 5))) ma_nil))))))))
def b_law : SM :=
  sSeq (sSet 1 (eCall d__law_source (aCons (eVar 0) (aNil))))
  (sSeq (sFor (wRng1 (eC (.int 4))) (gN 2) (sSeq (sSet 3 (eCall d__law_made (aCons (eVar 1) (aCons (eC (.int 6)) (aNil)))))
  (sSeq (sPar 4 5 (eCall d__law_table_of (aCons (eVar 3) (aNil))) (eCall d__law_turned_table (aCons (eVar 3) (aNil))))
  (sSeq (sSet 6 (eCall d_turned (aCons (eVar 4) (aNil))))
  (sSeq (sIf (bOr (bNot (bTest (eIsi [(.b "str", false), (.b "list", false), (.b "tuple", false), (.b "int", false), (.b "bool", false), (.b "dict", false), (.b "NoneType", false), (.own "Table", true)] (eVar 6)))) (bOr (bNot (bTest (eCall d__law_told_right (aCons (eVar 5) (aCons (eVar 6) (aNil)))))) (bTest (eOp (pEqO "Table" d_Table_u_eq__ fun t => .bl (!t)) (eVar 6) (eCall d__law_table_of (aCons (eVar 5) (aNil))))))) (sRet (eC (.bl false))) (sNext))
  (sSeq (sIf (bOr (bTest (eOp (pEqO "Table" d_Table_u_eq__ fun t => .bl (!t)) (eCall d_turned (aCons (eVar 6) (aNil))) (eVar 4))) (bOr (bNot (bTest (eCall d__law_told_right (aCons (eVar 3) (aCons (eVar 4) (aNil)))))) (bNot (bTest (eCall d__law_told_right (aCons (eVar 3) (aCons (eCall d_turned (aCons (eVar 6) (aNil))) (aNil)))))))) (sRet (eC (.bl false))) (sNext))
  (sSeq (sFor (wSeq (eOp pIx (eVar 3) (eC (.str "stems")))) (gN 7) (sIf (bTest (eOp pNeA (eMeth "Table" "fits_at" d_Table_fits_at (eVar 6) (aCons (eVar 7) (aNil))) (eMeth "Table" "fits_of" d_Table_fits_of (eVar 4) (aCons (eVar 7) (aNil))))) (sRet (eC (.bl false))) (sNext)))
  (sSeq (sFor (wSeq (eOp pIx (eVar 3) (eC (.str "places")))) (gN 8) (sIf (bTest (eOp pNeA (eMeth "Table" "fits_of" d_Table_fits_of (eVar 6) (aCons (eVar 8) (aNil))) (eMeth "Table" "fits_at" d_Table_fits_at (eVar 4) (aCons (eVar 8) (aNil))))) (sRet (eC (.bl false))) (sNext)))
  (sSeq (sSet 9 (eOp pEqA (eLst (aCons (eOp pIx (eVar 5) (eC (.str "stems"))) (aCons (eOp pIx (eVar 5) (eC (.str "places"))) (aCons (eCall d__law_sorted_fits (aCons (eVar 5) (aNil))) (aNil))))) (eLst (aCons (eMeth "Table" "stems" d_Table_stems (eVar 4) aNil) (aCons (eMeth "Table" "places" d_Table_places (eVar 4) aNil) (aCons (eMeth "Table" "fits" d_Table_fits (eVar 4) aNil) (aNil)))))))
  (sSeq (sIf (bTest (eOp pNeA (eOp (pEqO "Table" d_Table_u_eq__ .bl) (eVar 6) (eVar 4)) (eVar 9))) (sRet (eC (.bl false))) (sNext))
  (sSeq (sPar 10 11 (eCall d__law_some_of (aCons (eVar 1) (aCons (eOp pIx (eVar 3) (eC (.str "stems"))) (aNil)))) (eCall d__law_some_of (aCons (eVar 1) (aCons (eOp pIx (eVar 3) (eC (.str "places"))) (aNil)))))
  (sIf (bTest (eOp (pEqO "Table" d_Table_u_eq__ fun t => .bl (!t)) (eCall d_turned (aCons (eCall d_part_of (aCons (eVar 4) (aCons (eVar 10) (aCons (eVar 11) (aNil))))) (aNil))) (eCall d_part_of (aCons (eVar 6) (aCons (eVar 11) (aCons (eVar 10) (aNil))))))) (sRet (eC (.bl false))) (sNext)))))))))))))
  (sRet (eOp (pEqO "Table" d_Table_u_eq__ .bl) (eCall d_turned (aCons (eMake "Table" d_Table_u_init__ (aCons (eLst (aNil)) (aCons (eLst (aCons (eC (.str "a")) (aNil))) (aCons (eLst (aNil)) (aNil))))) (aNil))) (eMake "Table" d_Table_u_init__ (aCons (eLst (aCons (eC (.str "a")) (aNil))) (aCons (eLst (aNil)) (aCons (eLst (aNil)) (aNil))))))))
def d_law : List MV → Sto → Re MV := runB 12 b_law
theorem sc_law : FnScope ["_law_script", "_law_source_here", "_law_turn", "_law_table", "_law_made_here", "_law_other", "_law_told", "_law_stem", "_law_place", "_law_due", "_law_stems", "_law_places"] ["_law_script"] (defScope t_law) := ⟨rfl, rfl, rfl, by decide +kernel, rfl, by decide +kernel, by decide +kernel⟩
theorem S_law (q : FX K mg) : Says P w K mg base [] 8 "law" 1 d_law := by
  obtain ⟨fd, fn⟩ := q.d.def_ 33 (d := ⟨("law", none), "law", "law", defArgs t_law, defBody t_law, defScope t_law, [], []⟩) rfl
  refine ⟨q.gl 56, fn.kp, fd, _, fn_mk (N := ["_law_script", "_law_source_here", "_law_turn", "_law_table", "_law_made_here", "_law_other", "_law_told", "_law_stem", "_law_place", "_law_due", "_law_stems", "_law_places"]) (ps := ["_law_script"]) fn sc_law (fun cdv A outer s H E c own => ?_), fn.bindsN (ps := ["_law_script"]) fun _ _ _ _ _ _ us hl => match us, hl with | [_], _ => rfl⟩
  exact (ms_cons (mp_set c.nd rfl (.inl rfl) (x_call c (S__law_source q) (by decide) (amL_cons amL_nil) rfl (ma_cons (me_var 0) ma_nil)))
    (ms_cons (mp_for own c.calm (mi_rng1 rfl (q.fr 3) me_int) (mg_name c.nd rfl (.inl rfl)) (ms_cons (mp_set c.nd rfl (.inl rfl) (x_call c (S__law_made q) (by decide) (amL_cons (amL_cons amL_nil)) rfl (ma_cons (me_var 1) (ma_cons me_int ma_nil))))
    (ms_cons (mp_par c.calm c.nd rfl rfl (by decide) rfl rfl (x_call c (S__law_table_of q) (by decide) (amL_cons amL_nil) rfl (ma_cons (me_var 3) ma_nil)) (x_call c (S__law_turned_table q) (by decide) (amL_cons amL_nil) rfl (ma_cons (me_var 3) ma_nil)) rfl)
    (ms_cons (mp_set c.nd rfl (.inl rfl) (x_call c (S_turned q) (by decide) (amL_cons amL_nil) rfl (ma_cons (me_var 4) ma_nil)))
    (ms_cons (mp_if (PW.pt (mw_or (mt_not (mt_val (me_isi (u := Tk.val K ((.own "Table" : Tk))) (q.tab 3 (cs := [.own "Table"])) rfl (q.fr 17) Mp.boot_isinstance (.own _) (me_var 6) (pe_glob (v := .ref (He.ga K "Table")) rfl (q.gl 38) rfl)))) (mw_or (mt_not (mt_val (x_call c (S__law_told_right q) (by decide) (amL_cons (amL_cons amL_nil)) rfl (ma_cons (me_var 5) (ma_cons (me_var 6) ma_nil))))) (mw_oneO (t_neO c (S_Table_u_eq__ q) (q.eqc 4) (by decide) (me_var 6) (x_call c (S__law_table_of q) (by decide) (amL_cons amL_nil) rfl (ma_cons (me_var 5) ma_nil))))))) (ms_one (mp_ret me_bl)) ms_nil)
    (ms_cons (mp_if (PW.pt (mw_or (t_neO c (S_Table_u_eq__ q) (q.eqc 4) (by decide) (x_call c (S_turned q) (by decide) (amL_cons amL_nil) rfl (ma_cons (me_var 6) ma_nil)) (me_var 4)) (mw_or (mt_not (mt_val (x_call c (S__law_told_right q) (by decide) (amL_cons (amL_cons amL_nil)) rfl (ma_cons (me_var 3) (ma_cons (me_var 4) ma_nil))))) (mw_oneO (mt_not (mt_val (x_call c (S__law_told_right q) (by decide) (amL_cons (amL_cons amL_nil)) rfl (ma_cons (me_var 3) (ma_cons (x_call c (S_turned q) (by decide) (amL_cons amL_nil) rfl (ma_cons (me_var 6) ma_nil)) ma_nil))))))))) (ms_one (mp_ret me_bl)) ms_nil)
    (ms_cons (mp_for own c.calm (mi_seq (x_ix c (me_var 3) me_str)) (mg_name c.nd rfl (.inl rfl)) (ms_one (mp_if (t_ne c (x_meth c (S_Table_fits_at q) (by decide) (amL_cons amL_nil) (me_var 6) (ma_cons (me_var 7) ma_nil)) (x_meth c (S_Table_fits_of q) (by decide) (amL_cons amL_nil) (me_var 4) (ma_cons (me_var 7) ma_nil))) (ms_one (mp_ret me_bl)) ms_nil)))
    (ms_cons (mp_for own c.calm (mi_seq (x_ix c (me_var 3) me_str)) (mg_name c.nd rfl (.inl rfl)) (ms_one (mp_if (t_ne c (x_meth c (S_Table_fits_of q) (by decide) (amL_cons amL_nil) (me_var 6) (ma_cons (me_var 8) ma_nil)) (x_meth c (S_Table_fits_at q) (by decide) (amL_cons amL_nil) (me_var 4) (ma_cons (me_var 8) ma_nil))) (ms_one (mp_ret me_bl)) ms_nil)))
    (ms_cons (mp_set c.nd rfl (.inl rfl) (x_eq c (me_lst (ma_cons (x_ix c (me_var 5) me_str) (ma_cons (x_ix c (me_var 5) me_str) (ma_cons (x_call c (S__law_sorted_fits q) (by decide) (amL_cons amL_nil) rfl (ma_cons (me_var 5) ma_nil)) ma_nil)))) (me_lst (ma_cons (x_meth0 c (S_Table_stems q) (by decide) (me_var 4)) (ma_cons (x_meth0 c (S_Table_places q) (by decide) (me_var 4)) (ma_cons (x_meth0 c (S_Table_fits q) (by decide) (me_var 4)) ma_nil))))))
    (ms_cons (mp_if (t_ne c (x_eqO c (S_Table_u_eq__ q) (q.eqc 4) (by decide) (me_var 6) (me_var 4)) (me_var 9)) (ms_one (mp_ret me_bl)) ms_nil)
    (ms_cons (mp_par c.calm c.nd rfl rfl (by decide) rfl rfl (x_call c (S__law_some_of q) (by decide) (amL_cons (amL_cons amL_nil)) rfl (ma_cons (me_var 1) (ma_cons (x_ix c (me_var 3) me_str) ma_nil))) (x_call c (S__law_some_of q) (by decide) (amL_cons (amL_cons amL_nil)) rfl (ma_cons (me_var 1) (ma_cons (x_ix c (me_var 3) me_str) ma_nil))) rfl)
    (ms_one (mp_if (t_neO c (S_Table_u_eq__ q) (q.eqc 4) (by decide) (x_call c (S_turned q) (by decide) (amL_cons amL_nil) rfl (ma_cons (x_call c (S_part_of q) (by decide) (amL_cons (amL_cons (amL_cons amL_nil))) rfl (ma_cons (me_var 4) (ma_cons (me_var 10) (ma_cons (me_var 11) ma_nil)))) ma_nil)) (x_call c (S_part_of q) (by decide) (amL_cons (amL_cons (amL_cons amL_nil))) rfl (ma_cons (me_var 6) (ma_cons (me_var 11) (ma_cons (me_var 10) ma_nil))))) (ms_one (mp_ret me_bl)) ms_nil)))))))))))))
    (ms_one (mp_ret (x_eqO c (S_Table_u_eq__ q) (q.eqc 4) (by decide) (x_call c (S_turned q) (by decide) (amL_cons amL_nil) rfl (ma_cons (x_make c (S_Table_u_init__ q) (by decide) (amL_cons (amL_cons (amL_cons amL_nil))) rfl (ma_cons (me_lst ma_nil) (ma_cons (me_lst (ma_cons me_str ma_nil)) (ma_cons (me_lst ma_nil) ma_nil)))) ma_nil)) (x_make c (S_Table_u_init__ q) (by decide) (amL_cons (amL_cons (amL_cons amL_nil))) rfl (ma_cons (me_lst (ma_cons me_str ma_nil)) (ma_cons (me_lst ma_nil) (ma_cons (me_lst ma_nil) ma_nil)))))))))
theorem L_law (q : FX K mg) : ∃ fd : FuncData, (∀ (s : Shared) (u : Value), BindsTo s fd ⟨[u], []⟩ [("_law_script", u)]) ∧ ∀ base : Heap, FnG P w K mg base 8 (He.ga K "law") fd ["_law_script"] (spM K [] 1 d_law) := by
  obtain ⟨fd, fn⟩ := q.d.def_ 33 (d := ⟨("law", none), "law", "law", defArgs t_law, defBody t_law, defScope t_law, [], []⟩) rfl
  have b := FunD.bindsA (ps := ["_law_script"]) fn fun _ _ _ _ _ _ us hl => match us, hl with | [_], _ => rfl
  refine ⟨fd, fun s u => b s [u] rfl, fun base => fn_mk (N := ["_law_script", "_law_source_here", "_law_turn", "_law_table", "_law_made_here", "_law_other", "_law_told", "_law_stem", "_law_place", "_law_due", "_law_stems", "_law_places"]) (ps := ["_law_script"]) fn sc_law (fun cdv A outer s H E c own => ?_)⟩
  exact (ms_cons (mp_set c.nd rfl (.inl rfl) (x_call c (S__law_source q) (by decide) (amL_cons amL_nil) rfl (ma_cons (me_var 0) ma_nil)))
    (ms_cons (mp_for own c.calm (mi_rng1 rfl (q.fr 3) me_int) (mg_name c.nd rfl (.inl rfl)) (ms_cons (mp_set c.nd rfl (.inl rfl) (x_call c (S__law_made q) (by decide) (amL_cons (amL_cons amL_nil)) rfl (ma_cons (me_var 1) (ma_cons me_int ma_nil))))
    (ms_cons (mp_par c.calm c.nd rfl rfl (by decide) rfl rfl (x_call c (S__law_table_of q) (by decide) (amL_cons amL_nil) rfl (ma_cons (me_var 3) ma_nil)) (x_call c (S__law_turned_table q) (by decide) (amL_cons amL_nil) rfl (ma_cons (me_var 3) ma_nil)) rfl)
    (ms_cons (mp_set c.nd rfl (.inl rfl) (x_call c (S_turned q) (by decide) (amL_cons amL_nil) rfl (ma_cons (me_var 4) ma_nil)))
    (ms_cons (mp_if (PW.pt (mw_or (mt_not (mt_val (me_isi (u := Tk.val K ((.own "Table" : Tk))) (q.tab 3 (cs := [.own "Table"])) rfl (q.fr 17) Mp.boot_isinstance (.own _) (me_var 6) (pe_glob (v := .ref (He.ga K "Table")) rfl (q.gl 38) rfl)))) (mw_or (mt_not (mt_val (x_call c (S__law_told_right q) (by decide) (amL_cons (amL_cons amL_nil)) rfl (ma_cons (me_var 5) (ma_cons (me_var 6) ma_nil))))) (mw_oneO (t_neO c (S_Table_u_eq__ q) (q.eqc 4) (by decide) (me_var 6) (x_call c (S__law_table_of q) (by decide) (amL_cons amL_nil) rfl (ma_cons (me_var 5) ma_nil))))))) (ms_one (mp_ret me_bl)) ms_nil)
    (ms_cons (mp_if (PW.pt (mw_or (t_neO c (S_Table_u_eq__ q) (q.eqc 4) (by decide) (x_call c (S_turned q) (by decide) (amL_cons amL_nil) rfl (ma_cons (me_var 6) ma_nil)) (me_var 4)) (mw_or (mt_not (mt_val (x_call c (S__law_told_right q) (by decide) (amL_cons (amL_cons amL_nil)) rfl (ma_cons (me_var 3) (ma_cons (me_var 4) ma_nil))))) (mw_oneO (mt_not (mt_val (x_call c (S__law_told_right q) (by decide) (amL_cons (amL_cons amL_nil)) rfl (ma_cons (me_var 3) (ma_cons (x_call c (S_turned q) (by decide) (amL_cons amL_nil) rfl (ma_cons (me_var 6) ma_nil)) ma_nil))))))))) (ms_one (mp_ret me_bl)) ms_nil)
    (ms_cons (mp_for own c.calm (mi_seq (x_ix c (me_var 3) me_str)) (mg_name c.nd rfl (.inl rfl)) (ms_one (mp_if (t_ne c (x_meth c (S_Table_fits_at q) (by decide) (amL_cons amL_nil) (me_var 6) (ma_cons (me_var 7) ma_nil)) (x_meth c (S_Table_fits_of q) (by decide) (amL_cons amL_nil) (me_var 4) (ma_cons (me_var 7) ma_nil))) (ms_one (mp_ret me_bl)) ms_nil)))
    (ms_cons (mp_for own c.calm (mi_seq (x_ix c (me_var 3) me_str)) (mg_name c.nd rfl (.inl rfl)) (ms_one (mp_if (t_ne c (x_meth c (S_Table_fits_of q) (by decide) (amL_cons amL_nil) (me_var 6) (ma_cons (me_var 8) ma_nil)) (x_meth c (S_Table_fits_at q) (by decide) (amL_cons amL_nil) (me_var 4) (ma_cons (me_var 8) ma_nil))) (ms_one (mp_ret me_bl)) ms_nil)))
    (ms_cons (mp_set c.nd rfl (.inl rfl) (x_eq c (me_lst (ma_cons (x_ix c (me_var 5) me_str) (ma_cons (x_ix c (me_var 5) me_str) (ma_cons (x_call c (S__law_sorted_fits q) (by decide) (amL_cons amL_nil) rfl (ma_cons (me_var 5) ma_nil)) ma_nil)))) (me_lst (ma_cons (x_meth0 c (S_Table_stems q) (by decide) (me_var 4)) (ma_cons (x_meth0 c (S_Table_places q) (by decide) (me_var 4)) (ma_cons (x_meth0 c (S_Table_fits q) (by decide) (me_var 4)) ma_nil))))))
    (ms_cons (mp_if (t_ne c (x_eqO c (S_Table_u_eq__ q) (q.eqc 4) (by decide) (me_var 6) (me_var 4)) (me_var 9)) (ms_one (mp_ret me_bl)) ms_nil)
    (ms_cons (mp_par c.calm c.nd rfl rfl (by decide) rfl rfl (x_call c (S__law_some_of q) (by decide) (amL_cons (amL_cons amL_nil)) rfl (ma_cons (me_var 1) (ma_cons (x_ix c (me_var 3) me_str) ma_nil))) (x_call c (S__law_some_of q) (by decide) (amL_cons (amL_cons amL_nil)) rfl (ma_cons (me_var 1) (ma_cons (x_ix c (me_var 3) me_str) ma_nil))) rfl)
    (ms_one (mp_if (t_neO c (S_Table_u_eq__ q) (q.eqc 4) (by decide) (x_call c (S_turned q) (by decide) (amL_cons amL_nil) rfl (ma_cons (x_call c (S_part_of q) (by decide) (amL_cons (amL_cons (amL_cons amL_nil))) rfl (ma_cons (me_var 4) (ma_cons (me_var 10) (ma_cons (me_var 11) ma_nil)))) ma_nil)) (x_call c (S_part_of q) (by decide) (amL_cons (amL_cons (amL_cons amL_nil))) rfl (ma_cons (me_var 6) (ma_cons (me_var 11) (ma_cons (me_var 10) ma_nil))))) (ms_one (mp_ret me_bl)) ms_nil)))))))))))))
    (ms_one (mp_ret (x_eqO c (S_Table_u_eq__ q) (q.eqc 4) (by decide) (x_call c (S_turned q) (by decide) (amL_cons amL_nil) rfl (ma_cons (x_make c (S_Table_u_init__ q) (by decide) (amL_cons (amL_cons (amL_cons amL_nil))) rfl (ma_cons (me_lst ma_nil) (ma_cons (me_lst (ma_cons me_str ma_nil)) (ma_cons (me_lst ma_nil) ma_nil)))) ma_nil)) (x_make c (S_Table_u_init__ q) (by decide) (amL_cons (amL_cons (amL_cons amL_nil))) rfl (ma_cons (me_lst (ma_cons me_str ma_nil)) (ma_cons (me_lst ma_nil) (ma_cons (me_lst ma_nil) ma_nil)))))))))
end K03

set_option Elab.async false
set_option linter.all false
set_option maxRecDepth 100000
set_option maxHeartbeats 0

namespace K03
open PySem PySem.Spec PyProof.Rows L2 Mp
abbrev R : PySem.W.OpenRow := PySem.W.OpenLaw.row PySem.Challenge.rw_kindredbush_k03_whole_tables_turned
abbrev ex (K : PySem.W.Frag) : Bool := exs.all fun p => p K
abbrev hk : PySem.W.Hook := He.hookX 5 fa fn [] [] ex
def ob (s : PySem.W.SharedT) : He.AlX := He.obsX 5 fa fn [] [] ex (HandSHeadRun.getT s)
theorem ob_eq (s : PySem.W.SharedT) : ob s = hk.obs s.abs := He.obsX_eq (HandSHeadRun.getT_eq s)
def names : List PySem.Str := (["KinError", "BadFits", "NameMissing", "UnknownName", "LETTERS", "DIGITS", "LONGEST_WORD", "is_word", "is_list", "is_tuple_of", "wrong_word", "wrong_word_list", "check_known", "Table", "wrong_table_part", "wrong_fits_part", "fits_in_order", "turned", "part_of", "_law_source", "_law_pick", "_law_of", "_law_mixed", "_law_names", "_law_leads", "_law_ladder", "_law_fits_of", "_law_made", "_law_sorted_fits", "_law_table_of"] : List PySem.Str) ++ (["_law_told_right", "_law_turned_table", "_law_some_of"] : List PySem.Str)
theorem run (w : World) : HandSHeadRun.RunEq R (PySem.W.view R.prog [37]) hk ob 3000 names w := by
  intro os
  kernel_rfl
end K03
open PySem PySem.W PySem.Calls PyProof.Rows
theorem K03.eq_law : K03.d_law = Mp.d_law := rfl
theorem K03.main_ok : ∀ ns : List Int, ns.length ≤ 63 → ∀ o, o = Mp.Ob.rol (ns.map Mp.MV.int) ∨ o = Mp.Ob.kls (ns.map Mp.MV.int) → ∃ D, K03.d_law [.ref 0] [o] = .ok (.bl true) D := by
  rw [K03.eq_law]
  exact Mp.main03
theorem PySem.Challenge.cw_kindredbush_k03_whole_tables_turned_holds : PySem.Challenge.rw_kindredbush_k03_whole_tables_turned.Holds := by
  have main := K03.main_ok
  w_on; o_law
  refine HandSHeadRun.head_any (r := OpenLaw.row PySem.Challenge.rw_kindredbush_k03_whole_tables_turned) (q := view (OpenLaw.row PySem.Challenge.rw_kindredbush_k03_whole_tables_turned).prog [37]) (H := K03.hk) (ob := K03.ob) (M := 3000) (loose := K03.names) (d := HandSHeadRun.topDef (OpenLaw.row PySem.Challenge.rw_kindredbush_k03_whole_tables_turned).prog 37) (kwd := []) K03.ob_eq
    (by kernel_rfl) (fun s => by kernel_rfl) K03.run (by kernel_rfl) (by kernel_rfl) (by kernel_rfl) (by rfl) (by first | assumption | decide +kernel) (by decide +kernel) ⟨rfl, rfl, rfl, rfl, rfl, by decide +kernel⟩ ?hw ?hc
  case hw => w_witness2
  case hc =>
    refine Mp.walkG (l := PySem.Challenge.rw_kindredbush_k03_whole_tables_turned) (n := 63) (k := 8) (x := "_law_script") K03.d_law rfl (by decide) (by kernel_rfl) ⟨rfl, by decide, by decide⟩ ?F
    intro w mg fa h Y G hmg0
    obtain ⟨K, KX, c⟩ := Y
    have hmg : mg ("law" : PySem.Str) = some (.ref fa) := by
      have e : (HandSHeadRun.topDef (OpenLaw.row PySem.Challenge.rw_kindredbush_k03_whole_tables_turned).prog 37).name = ("law" : PySem.Str) := by kernel_rfl
      rw [← e]
      exact hmg0
    have q : K03.FX K mg := ⟨c.t.d, c.more, h, KX, G⟩
    obtain ⟨fd, hb, hF⟩ := K03.L_law (P := (PySem.Challenge.rw_kindredbush_k03_whole_tables_turned).prog) (w := w) q
    have e := hmg.symm.trans (q.gl 56 (x := "law"))
    cases e
    exact ⟨K, fd, [], [], KX, hb, Mp.begins_nil, fun ns hl o ho => main ns hl o ho, fun base _ _ => hF base⟩
