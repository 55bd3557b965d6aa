import PyProof.Rows.All
import Wide.All
import OpenK.AllK
import Wide.FinOn
import HandS.ForMost
import HandS.ForExc
import HandS.Wide
import HandS.WideBits
import HandS.Gcd
import HandS.IsInst
import HandS.Zip
import HandS.TupAny
import HandS.TupLe
import HandS.Flow
import HandS.Style
import HandS.Small
import HandS.Conv
import KE.KRevSl
import PyProof.EqKinds
import PySem.Challenge.RW_beatlanes_k10_places_of_moments
set_option Elab.async false
set_option linter.all false
set_option maxRecDepth 100000
/-! A layer of plain data over the hand layer: what an expression, a block, a def of the text does, as a plain Lean function of data. -/
namespace DL
open PySem PySem.Spec PyProof.Rows L2

/-- plain data: tuples by their items, mutable objects by their number in the store -/
inductive D where
  | non | bl (b : Bool) | int (i : Int) | str (s : Str) | tup (xs : List D) | ob (n : Nat) | ro (ns : List Int) | raw (v : V)
/-- a mutable object -/
inductive O where
  | lst (xs : List D)
  | dic (kvs : List (Key × D))
abbrev Sto := List O
abbrev Lc := List (Option D)


section
variable (K : PySem.W.Frag)
mutual
inductive Rp : List Addr → Hp → V → D → Prop
  | non {φ : List Addr} {H : Hp} : Rp φ H .non .non
  | bl {φ : List Addr} {H : Hp} (b : Bool) : Rp φ H (.bl b) (.bl b)
  | int {φ : List Addr} {H : Hp} (i : Int) : Rp φ H (.int i) (.int i)
  | str {φ : List Addr} {H : Hp} (s : Str) : Rp φ H (.str s) (.str s)
  | tup {φ : List Addr} {H : Hp} {a : Addr} {xs : List V} {ds : List D} : SqT K H a xs → Rps φ H xs ds → Rp φ H (.ref a) (.tup ds)
  | ob {φ : List Addr} {H : Hp} {n : Nat} {a : Addr} : φ[n]? = some a → Rp φ H (.ref a) (.ob n)
  | ro {φ : List Addr} {H : Hp} {a : Addr} {ns : List Int} : ((∃ o, H a = some (.frz o (.lst (ns.map V.int)))) ∨ SqL K (fun _ => none) a (ns.map V.int)) → Rp φ H (.ref a) (.ro ns)
  | raw {φ : List Addr} {H : Hp} (v : V) : Rp φ H v (.raw v)
inductive Rps : List Addr → Hp → List V → List D → Prop
  | nil {φ : List Addr} {H : Hp} : Rps φ H [] []
  | cons {φ : List Addr} {H : Hp} {v : V} {d : D} {vs : List V} {ds : List D} : Rp φ H v d → Rps φ H vs ds → Rps φ H (v :: vs) (d :: ds)
end
end

/-- how heaps grow -/
structure Ext (φ : List Addr) (H : Hp) (φ' : List Addr) (H' : Hp) : Prop where
  pre : ∀ (n : Nat) (a : Addr), φ[n]? = some a → φ'[n]? = some a
  tup : ∀ a xs, H a = some (.tup xs) → H' a = some (.tup xs)
  frz : ∀ a o u, H a = some (.frz o u) → H' a = some (.frz o u)
theorem Ext.rfl' {φ : List Addr} {H : Hp} : Ext φ H φ H := ⟨fun _ _ h => h, fun _ _ h => h, fun _ _ _ h => h⟩
theorem Ext.trans {φ φ1 φ2 : List Addr} {H H1 H2 : Hp} (a : Ext φ H φ1 H1) (b : Ext φ1 H1 φ2 H2) : Ext φ H φ2 H2 :=
  ⟨fun n x h => b.pre n x (a.pre n x h), fun x xs h => b.tup x xs (a.tup x xs h), fun x o u h => b.frz x o u (a.frz x o u h)⟩
theorem Ext.sqT {K : PySem.W.Frag} {φ φ1 : List Addr} {H H1 : Hp} (a : Ext φ H φ1 H1) {p : Addr} {xs : List V} (h : SqT K H p xs) : SqT K H1 p xs := by
  rcases h with (h | ⟨o, h⟩) | h
  · exact .inl (.inl (a.tup _ _ h))
  · exact .inl (.inr ⟨o, a.frz _ _ _ h⟩)
  · exact .inr h
section
variable {K : PySem.W.Frag} {φ φ1 : List Addr} {H H1 : Hp}
mutual
theorem Rp.mono (e : Ext φ H φ1 H1) : ∀ {v : V} {d : D}, Rp K φ H v d → Rp K φ1 H1 v d
  | _, _, .non => .non
  | _, _, .bl b => .bl b
  | _, _, .int b => .int b
  | _, _, .str b => .str b
  | _, _, .tup h r => .tup (e.sqT h) (Rps.mono e r)
  | _, _, .ob h => .ob (e.pre _ _ h)
  | _, _, .ro (.inl ⟨o, h⟩) => .ro (.inl ⟨o, e.frz _ _ _ h⟩)
  | _, _, .ro (.inr h) => .ro (.inr h)
  | _, _, .raw v => .raw v
theorem Rps.mono (e : Ext φ H φ1 H1) : ∀ {vs : List V} {ds : List D}, Rps K φ H vs ds → Rps K φ1 H1 vs ds
  | _, _, .nil => .nil
  | _, _, .cons a b => .cons (Rp.mono e a) (Rps.mono e b)
end
theorem Rps.length : ∀ {vs : List V} {ds : List D}, Rps K φ H vs ds → vs.length = ds.length
  | _, _, .nil => rfl
  | _, _, .cons a b => congrArg (· + 1) (Rps.length b)
theorem Rps.get : ∀ {vs : List V} {ds : List D} {i : Nat} {d : D}, Rps K φ H vs ds → ds[i]? = some d → ∃ v, vs[i]? = some v ∧ Rp K φ H v d
  | _, _, _, _, .nil, e => by simp at e
  | _, _, 0, _, .cons a b, e => by simp at e; subst e; exact ⟨_, rfl, a⟩
  | _, _, i + 1, d, .cons a b, e => by
    obtain ⟨v, h1, h2⟩ := Rps.get (i := i) b (by simpa using e)
    exact ⟨v, by simpa using h1, h2⟩
theorem Rps.get' : ∀ {vs : List V} {ds : List D} {i : Nat} {v : V}, Rps K φ H vs ds → vs[i]? = some v → ∃ d, ds[i]? = some d ∧ Rp K φ H v d
  | _, _, _, _, .nil, e => by simp at e
  | _, _, 0, _, .cons a b, e => by simp at e; subst e; exact ⟨_, rfl, a⟩
  | _, _, i + 1, d, .cons a b, e => by
    obtain ⟨v, h1, h2⟩ := Rps.get' (i := i) b (by simpa using e)
    exact ⟨v, by simpa using h1, h2⟩
theorem Rps.append : ∀ {vs ws : List V} {ds es : List D}, Rps K φ H vs ds → Rps K φ H ws es → Rps K φ H (vs ++ ws) (ds ++ es)
  | _, _, _, _, .nil, h => h
  | _, _, _, _, .cons a b, h => .cons a (Rps.append b h)
theorem Rps.set {v : V} {d : D} (r : Rp K φ H v d) : ∀ {vs : List V} {ds : List D} (i : Nat), Rps K φ H vs ds → Rps K φ H (vs.set i v) (ds.set i d)
  | _, _, _, .nil => .nil
  | _, _, 0, .cons a b => .cons r b
  | _, _, i + 1, .cons a b => .cons a (Rps.set r i b)
theorem Rps.take : ∀ {vs : List V} {ds : List D} (i : Nat), Rps K φ H vs ds → Rps K φ H (vs.take i) (ds.take i)
  | _, _, 0, _ => .nil
  | _, _, _ + 1, .nil => .nil
  | _, _, i + 1, .cons a b => .cons a (Rps.take i b)
theorem Rps.drop : ∀ {vs : List V} {ds : List D} (i : Nat), Rps K φ H vs ds → Rps K φ H (vs.drop i) (ds.drop i)
  | _, _, 0, h => h
  | _, _, _ + 1, .nil => .nil
  | _, _, i + 1, .cons a b => Rps.drop i b
theorem Rps.reverse : ∀ {vs : List V} {ds : List D}, Rps K φ H vs ds → Rps K φ H vs.reverse ds.reverse
  | _, _, .nil => .nil
  | _, _, .cons a b => by
    rw [List.reverse_cons, List.reverse_cons]
    exact Rps.append (Rps.reverse b) (.cons a .nil)
theorem Rps.flatten_replicate {vs : List V} {ds : List D} (h : Rps K φ H vs ds) : ∀ n, Rps K φ H (List.replicate n vs).flatten (List.replicate n ds).flatten
  | 0 => .nil
  | n + 1 => by
    rw [List.replicate_succ, List.replicate_succ, List.flatten_cons, List.flatten_cons]
    exact h.append (Rps.flatten_replicate h n)
end

def Ro (K : PySem.W.Frag) (φ : List Addr) (H : Hp) (a : Addr) : O → Prop
  | .lst ds => ∃ xs, H a = some (.lst xs) ∧ Rps K φ H xs ds
  | .dic kvs => ∃ ws, H a = some (.dK ws) ∧ ws.map (·.1) = kvs.map (·.1) ∧ Rps K φ H (ws.map (·.2)) (kvs.map (·.2))
/-- the store -/
structure Sr (K : PySem.W.Frag) (φ : List Addr) (S : Sto) (H : Hp) : Prop where
  len : φ.length = S.length
  nd : φ.Nodup
  at' : ∀ (n : Nat) (o : O), S[n]? = some o → ∃ a, φ[n]? = some a ∧ Ro K φ H a o
/-- the local names -/
structure Er (K : PySem.W.Frag) (φ : List Addr) (H : Hp) (σ : L2.St) (ρ : Lc) : Prop where
  len : σ.length = ρ.length
  at' : ∀ (i : Nat) (d : D), ρ[i]? = some (some d) → ∃ v, σ[i]? = some (some v) ∧ Rp K φ H v d
theorem Er.mono {K : PySem.W.Frag} {φ φ1 : List Addr} {H H1 : Hp} {σ : L2.St} {ρ : Lc} (e : Ext φ H φ1 H1) (h : Er K φ H σ ρ) : Er K φ1 H1 σ ρ :=
  ⟨h.len, fun i d q => let ⟨v, h1, h2⟩ := h.at' i d q; ⟨v, h1, h2.mono e⟩⟩
theorem Er.set {K : PySem.W.Frag} {φ : List Addr} {H : Hp} {σ : L2.St} {ρ : Lc} {v : V} {d : D} (h : Er K φ H σ ρ) (r : Rp K φ H v d) (i : Nat) : Er K φ H (σ.set i (some v)) (ρ.set i (some d)) := by
  refine ⟨by rw [List.length_set, List.length_set]; exact h.len, fun j e q => ?_⟩
  rw [List.getElem?_set] at q ⊢
  by_cases hj : i = j
  · subst hj
    rw [if_pos rfl] at q ⊢
    by_cases hl : i < ρ.length
    · rw [if_pos hl] at q
      rw [if_pos (by rw [h.len]; exact hl)]
      cases q
      exact ⟨v, rfl, r⟩
    · rw [if_neg hl] at q; cases q
  · rw [if_neg hj] at q ⊢
    exact h.at' j e q

/-- a condition that is shown, never reckoned -/
noncomputable def gd (p : Prop) : Bool := @decide p (Classical.propDecidable p)
theorem gd_of {p : Prop} (h : p) : gd p = true := by unfold gd; exact @decide_eq_true p (Classical.propDecidable p) h
theorem of_gd {p : Prop} (h : gd p = true) : p := by unfold gd at h; exact @of_decide_eq_true p (Classical.propDecidable p) h
/-! ### results -/
inductive Res (α : Type) where
  | ok (a : α) (S : Sto)
  | ex (c : Addr) (S : Sto)
  | no
def Res.bind {α β : Type} (r : Res α) (k : α → Sto → Res β) : Res β :=
  match r with
  | .ok a S => k a S
  | .ex c S => .ex c S
  | .no => .no
abbrev Rl (α β : Type) := List Addr → Hp → β → α → Prop
def RMono {α β : Type} (R : Rl α β) : Prop := ∀ {φ φ1 : List Addr} {H H1 : Hp} {x : β} {a : α}, Ext φ H φ1 H1 → R φ H x a → R φ1 H1 x a
abbrev RB : Rl Bool Bool := fun _ _ x b => x = b
theorem RB.mono : RMono RB := fun _ h => h

section
variable {α β : Type} (R : Rl α β) (K : PySem.W.Frag) (W : WX)
def post (φ : List Addr) (H : Hp) (σ : L2.St) (Q : β → Hp → Prop) : Res α → Prop
  | .ok a S' => ∀ φ' H' x, Ext φ H φ' H' → Sr K φ' S' H' → R φ' H' x a → Q x H'
  | .ex c S' => ∀ φ' H', Ext φ H φ' H' → Sr K φ' S' H' → W (.ref c) none σ H'
  | .no => False
def lf (f : Lc → Sto → Res α) : L2.St → Hp → (β → Hp → Prop) → Prop := fun σ H Q => ∃ φ ρ S, Er K φ H σ ρ ∧ Sr K φ S H ∧ post R K W φ H σ Q (f ρ S)
end
section
variable {α β : Type} {R : Rl α β} {K : PySem.W.Frag} {W : WX} {φ φ1 : List Addr} {H H1 : Hp} {σ : L2.St}
theorem post.mono {Q : β → Hp → Prop} (e : Ext φ H φ1 H1) : ∀ {r : Res α}, post R K W φ H σ Q r → post R K W φ1 H1 σ Q r
  | .ok _ _, h => fun φ' H' x e' => h φ' H' x (e.trans e')
  | .ex _ _, h => fun φ' H' e' => h φ' H' (e.trans e')
  | .no, h => h
theorem post.imp {Q Q' : β → Hp → Prop} (hq : ∀ x H, Q x H → Q' x H) : ∀ {r : Res α}, post R K W φ H σ Q r → post R K W φ H σ Q' r
  | .ok _ _, h => fun φ' H' x e' s r => hq _ _ (h φ' H' x e' s r)
  | .ex _ _, h => h
  | .no, h => h
theorem lf.imp {Q Q' : β → Hp → Prop} {f : Lc → Sto → Res α} (hq : ∀ x H, Q x H → Q' x H) (h : lf R K W f σ H Q) : lf R K W f σ H Q' :=
  let ⟨φ, ρ, S, er, sr, p⟩ := h
  ⟨φ, ρ, S, er, sr, p.imp hq⟩
/-- THE STEP: the first part is run, then what is left -/
theorem lf.bind {γ δ : Type} {R2 : Rl γ δ} {Q : δ → Hp → Prop} {f : Lc → Sto → Res α} {k : α → Sto → Res γ} {ρ : Lc} {S : Sto} (er : Er K φ H σ ρ) (sr : Sr K φ S H) (p : post R2 K W φ H σ Q ((f ρ S).bind k)) :
    lf R K W f σ H fun x H1 => ∃ φ1 S1 a, Ext φ H φ1 H1 ∧ Sr K φ1 S1 H1 ∧ R φ1 H1 x a ∧ post R2 K W φ1 H1 σ Q (k a S1) := by
  refine ⟨φ, ρ, S, er, sr, ?_⟩
  cases e : f ρ S with
  | ok a S1 =>
    rw [e] at p
    exact fun φ' H' x e' s r => ⟨φ', S1, a, e', s, r, post.mono e' p⟩
  | ex c S1 => rw [e] at p; exact p
  | no => rw [e] at p; exact p
end
/-- an expression, arguments, a test, as functions of data -/
abbrev lE (K : PySem.W.Frag) (W : WX) (f : Lc → Sto → Res D) : TE := lf (Rp K) K W f
abbrev lA (K : PySem.W.Frag) (W : WX) (f : Lc → Sto → Res (List D)) : TA := lf (Rps K) K W f
abbrev lT (K : PySem.W.Frag) (W : WX) (f : Lc → Sto → Res Bool) : TT := lf RB K W f
abbrev EF := Lc → Sto → Res D
abbrev AF := Lc → Sto → Res (List D)
abbrev TF := Lc → Sto → Res Bool
def DE (X : Cx) (W : WX) (e : Expr) (f : EF) : Prop := PE X e (lE X.K W f)
def DA (X : Cx) (W : WX) (es : List Expr) (f : AF) : Prop := PA X es (lA X.K W f)
def DT (X : Cx) (W : WX) (e : Expr) (f : TF) : Prop := PT X e (lT X.K W f)
theorem pe_wk {X : Cx} {e : Expr} {t t' : TE} (h : PE X e t) (q : ∀ σ H Q, t' σ H Q → t σ H Q) : PE X e t' := ⟨fun pins s σ H Q I z => h.run pins s σ H Q I (q σ H Q z)⟩
theorem pa_wk {X : Cx} {e : List Expr} {t t' : TA} (h : PA X e t) (q : ∀ σ H Q, t' σ H Q → t σ H Q) : PA X e t' := ⟨fun pos pins s σ H Q I z => h.run pos pins s σ H Q I (q σ H Q z)⟩
theorem pt_wk {X : Cx} {e : Expr} {t t' : TT} (h : PT X e t) (q : ∀ σ H Q, t' σ H Q → t σ H Q) : PT X e t' := ⟨fun pins s σ H Q I z => h.run pins s σ H Q I (q σ H Q z)⟩
theorem ps_wk {X : Cx} {e : Stmt} {t t' : TS} (h : PS X e t) (q : ∀ D σ H, t' D σ H → t D σ H) : PS X e t' := ⟨fun pins s σ H Q I z => h.run pins s σ H Q I (q Q σ H z)⟩
theorem pss_wk {X : Cx} {e : List Stmt} {t t' : TS} (h : PSs X e t) (q : ∀ D σ H, t' D σ H → t D σ H) : PSs X e t' := ⟨fun pins s σ H Q I z => h.run pins s σ H Q I (q Q σ H z)⟩
end DL
set_option Elab.async false
set_option linter.all false
set_option maxRecDepth 100000
noncomputable section
namespace DL
open PySem PySem.Spec PyProof.Rows L2

theorem nd_inj {α : Type} {l : List α} (h : l.Nodup) {i j : Nat} (hi : i < l.length) (hj : j < l.length) (e : l[i] = l[j]) : i = j := by
  rw [List.nodup_iff_pairwise_ne, List.pairwise_iff_getElem] at h
  rcases Nat.lt_trichotomy i j with c | c | c
  · exact absurd e (h i j hi hj c)
  · exact c
  · exact absurd e.symm (h j i hj hi c)
/-! ### heaps -/
section
variable {K : PySem.W.Frag} {φ : List Addr} {H : Hp} {S : Sto}
theorem Ext.new {p : Addr} {o : HO} (hp : H p = none) : Ext φ H φ (upd H p o) :=
  ⟨fun _ _ h => h, fun a xs h => by rw [upd_ne (ne_of_none h hp)]; exact h, fun a o u h => by rw [upd_ne (ne_of_none h hp)]; exact h⟩
theorem Ext.snoc {p : Addr} : Ext φ H (φ ++ [p]) H :=
  ⟨fun n a h => by rw [List.getElem?_append_left (List.getElem?_eq_some_iff.mp h).1]; exact h, fun _ _ h => h, fun _ _ _ h => h⟩
theorem Ext.put {a : Addr} {o : HO} (hm : Mut (H a)) : Ext φ H φ (upd H a o) :=
  ⟨fun _ _ h => h, fun b xs h => by rw [upd_ne (fun z => by subst z; rw [h] at hm; exact hm)]; exact h, fun b o u h => by rw [upd_ne (fun z => by subst z; rw [h] at hm; exact hm)]; exact h⟩
theorem Ro.mono {φ1 : List Addr} {H1 : Hp} {a : Addr} (e : Ext φ H φ1 H1) (h : H1 a = H a) : ∀ {o : O}, Ro K φ H a o → Ro K φ1 H1 a o
  | .lst _, ⟨xs, h1, r⟩ => ⟨xs, by rw [h]; exact h1, r.mono e⟩
  | .dic _, ⟨xs, h1, k, r⟩ => ⟨xs, by rw [h]; exact h1, k, r.mono e⟩
theorem Ro.some {a : Addr} : ∀ {o : O}, Ro K φ H a o → ∃ u, H a = some u ∧ Mut (H a)
  | .lst _, ⟨xs, h1, r⟩ => ⟨_, h1, by rw [h1]; trivial⟩
  | .dic _, ⟨xs, h1, k, r⟩ => ⟨_, h1, by rw [h1]; trivial⟩
theorem Sr.mem (s : Sr K φ S H) {p : Addr} (h : p ∈ φ) : ∃ u, H p = some u := by
  obtain ⟨n, hn⟩ := List.getElem?_of_mem h
  have hl : n < S.length := by rw [← s.len]; exact (List.getElem?_eq_some_iff.mp hn).1
  obtain ⟨a, h1, r⟩ := s.at' n _ (List.getElem?_eq_getElem hl)
  rw [hn] at h1
  cases h1
  obtain ⟨u, h2, _⟩ := r.some
  exact ⟨u, h2⟩
theorem Sr.fresh (s : Sr K φ S H) {p : Addr} (hp : H p = none) : p ∉ φ := fun h => by
  obtain ⟨u, h2⟩ := s.mem h
  rw [hp] at h2; cases h2
/-- a new object that the store does not name: a tuple -/
theorem Sr.new (s : Sr K φ S H) {p : Addr} {o : HO} (hp : H p = none) : Sr K φ S (upd H p o) :=
  ⟨s.len, s.nd, fun n o' h => by
    obtain ⟨a, h1, r⟩ := s.at' n o' h
    exact ⟨a, h1, r.mono (Ext.new hp) (upd_ne fun z => by subst z; exact s.fresh hp (List.mem_of_getElem? h1))⟩⟩
/-- a new object of the store -/
theorem Sr.snoc (s : Sr K φ S H) {p : Addr} {o : HO} {u : O} (hp : H p = none) (r : Ro K (φ ++ [p]) (upd H p o) p u) : Sr K (φ ++ [p]) (S ++ [u]) (upd H p o) := by
  refine ⟨by rw [List.length_append, List.length_append, s.len]; rfl, ?_, fun n o' h => ?_⟩
  · rw [List.nodup_append]
    exact ⟨s.nd, by simp, fun a ha b hb => by
      have : b = p := by simpa using hb
      subst this
      rintro rfl
      exact s.fresh hp ha⟩
  · by_cases hn : n < S.length
    · rw [List.getElem?_append_left hn] at h
      obtain ⟨a, h1, r1⟩ := s.at' n o' h
      refine ⟨a, by rw [List.getElem?_append_left (by rw [s.len]; exact hn)]; exact h1, r1.mono ((Ext.new hp).trans Ext.snoc) (upd_ne fun z => by subst z; exact s.fresh hp (List.mem_of_getElem? h1))⟩
    · rw [List.getElem?_append_right (by omega)] at h
      have h0 : n - S.length = 0 := by
        have := (List.getElem?_eq_some_iff.mp h).1
        simp at this
        omega
      rw [h0] at h
      simp at h
      subst h
      refine ⟨p, ?_, r⟩
      rw [List.getElem?_append_right (by rw [s.len]; omega), s.len, h0]
      rfl
theorem Ext.newSnoc {p : Addr} {o : HO} (hp : H p = none) : Ext φ H (φ ++ [p]) (upd H p o) := (Ext.new hp).trans Ext.snoc
/-- an object of the store is changed -/
theorem Sr.put (s : Sr K φ S H) {n : Nat} {a : Addr} {o : HO} {u : O} (hn : φ[n]? = some a) (r : Ro K φ (upd H a o) a u) : Sr K φ (S.set n u) (upd H a o) := by
  have hl : n < S.length := by rw [← s.len]; exact (List.getElem?_eq_some_iff.mp hn).1
  have hm : Mut (H a) := by
    obtain ⟨b, h1, r1⟩ := s.at' n _ (List.getElem?_eq_getElem hl)
    rw [hn] at h1; cases h1
    exact r1.some.choose_spec.2
  refine ⟨by rw [List.length_set]; exact s.len, s.nd, fun m o' h => ?_⟩
  rw [List.getElem?_set] at h
  by_cases hm' : n = m
  · subst hm'
    rw [if_pos rfl, if_pos hl] at h
    cases h
    exact ⟨a, hn, r⟩
  · rw [if_neg hm'] at h
    obtain ⟨b, h1, r1⟩ := s.at' m o' h
    refine ⟨b, h1, r1.mono (Ext.put hm) (upd_ne fun z => hm' ?_)⟩
    subst z
    obtain ⟨l1, e1⟩ := List.getElem?_eq_some_iff.mp hn
    obtain ⟨l2, e2⟩ := List.getElem?_eq_some_iff.mp h1
    exact (nd_inj s.nd l1 l2 (e1.trans e2.symm))
theorem Sr.lst (s : Sr K φ S H) {n : Nat} {a : Addr} {ds : List D} (hn : φ[n]? = some a) (h : S[n]? = some (.lst ds)) : ∃ xs, H a = some (.lst xs) ∧ Rps K φ H xs ds := by
  obtain ⟨b, h1, r1⟩ := s.at' n _ h
  rw [hn] at h1; cases h1
  exact r1
end

/-! ### names, constants -/
def eVar (i : Nat) : EF := fun ρ S => match ρ[i]? with | some (some d) => .ok d S | _ => .no
def eC (d : D) : EF := fun _ S => .ok d S
section
variable {X : Cx} {W : WX}
theorem de_var {i : Nat} {x : Str} {pos : Pos} (h : PE X (.Name x pos) (tVar i)) : DE X W (.Name x pos) (eVar i) := pe_wk h fun σ H Q z => by
  obtain ⟨φ, ρ, S, er, sr, p⟩ := z
  unfold eVar at p
  cases e : ρ[i]? with
  | none => rw [e] at p; exact p.elim
  | some o =>
    rw [e] at p
    cases o with
    | none => exact p.elim
    | some d =>
      obtain ⟨v, h1, h2⟩ := er.at' i d e
      exact ⟨v, h1, p φ H v Ext.rfl' sr h2⟩
theorem de_con {e : Expr} {v : V} {d : D} (h : PE X e (tC v)) (r : ∀ φ H, Rp X.K φ H v d) : DE X W e (eC d) := pe_wk h fun σ H Q ⟨φ, ρ, S, er, sr, p⟩ => p φ H v Ext.rfl' sr (r φ H)
theorem de_int {i j pos} : DE X W (.Constant (.int i) j pos) (eC (.int i)) := de_con pe_int fun _ _ => .int i
theorem de_bl {i j pos} : DE X W (.Constant (.bool i) j pos) (eC (.bl i)) := de_con pe_bl fun _ _ => .bl i
theorem de_str {i j pos} : DE X W (.Constant (.str i) j pos) (eC (.str i)) := de_con pe_str fun _ _ => .str i
theorem de_non {j pos} : DE X W (.Constant .none j pos) (eC .non) := de_con pe_non fun _ _ => .non
end

/-! ### operators -/
abbrev OF := D → D → Sto → Res D
def eOp (o : OF) (a b : EF) : EF := fun ρ S => (a ρ S).bind fun x S1 => (b ρ S1).bind fun y S2 => o x y S2
/-- the hand layer's operator does at least what the function says -/
def Op2 (K : PySem.W.Frag) (r : R2) (o : OF) : Prop := ∀ (W : WX) (φ : List Addr) (S : Sto) (H : Hp) (σ : L2.St) (x y : V) (a b : D) (Q : VK), Sr K φ S H → Rp K φ H x a → Rp K φ H y b → post (Rp K) K W φ H σ Q (o a b S) → r x y H Q
section
variable {X : Cx} {W : WX} {a b : Expr} {fa fb : EF} {r : R2} {o : OF}
theorem tOp_of (hr : Op2 X.K r o) : ∀ σ H Q, lE X.K W (eOp o fa fb) σ H Q → tOp r (lE X.K W fa) (lE X.K W fb) σ H Q := fun σ H Q ⟨φ, ρ, S, er, sr, p⟩ =>
  (lf.bind er sr p).imp fun x H1 ⟨φ1, S1, d, e1, sr1, r1, p1⟩ => (lf.bind (er.mono e1) sr1 p1).imp fun y H2 ⟨φ2, S2, d2, e2, sr2, r2, p2⟩ =>
    hr W φ2 S2 H2 σ x y d d2 Q sr2 (r1.mono e2) r2 p2
theorem de_op {op : Operator} {pos : Pos} (ho : OpR X (binaryOp op) r) (hr : Op2 X.K r o) (ha : DE X W a fa) (hb : DE X W b fb) : DE X W (.BinOp a op b pos) (eOp o fa fb) :=
  pe_wk (pe_op ho ha hb) (tOp_of hr)
theorem de_cmp {op : CmpOp} {pos : Pos} (ho : OpR X (compareOp op) r) (hr : Op2 X.K r o) (ha : DE X W a fa) (hb : DE X W b fb) (hm : behindInMarks op b = false := by first | exact nomark _ | rfl) : DE X W (.Compare a [op] [b] pos) (eOp o fa fb) :=
  pe_wk (pe_cmpR ho ha hb hm) (tOp_of hr)
end
theorem Op2.or {K : PySem.W.Frag} {r r' : R2} {o o' : OF} (h : Op2 K r o) (h' : Op2 K r' o') (u : OF) (c : ∀ a b S, u a b S = o a b S ∨ u a b S = o' a b S) : Op2 K (fun x y H Q => r x y H Q ∨ r' x y H Q) u := fun W φ S H σ x y a b Q s ra rb p => by
  rcases c a b S with e | e
  · rw [e] at p; exact .inl (h W φ S H σ x y a b Q s ra rb p)
  · rw [e] at p; exact .inr (h' W φ S H σ x y a b Q s ra rb p)

/-- two ints -/
def oI (g : Int → Int → Option D) : OF := fun a b S => match a, b with
  | .int i, .int j => match g i j with | some d => .ok d S | none => .no
  | _, _ => .no
theorem oI_ok {K : PySem.W.Frag} {C : Int → Int → Prop} {g : Int → Int → V} {g' : Int → Int → Option D} (h : ∀ i j d, g' i j = some d → C i j ∧ ∀ φ H, Rp K φ H (g i j) d) : Op2 K (rI C g) (oI g') := fun W φ S H σ x y a b Q s ra rb p => by
  unfold oI at p
  split at p
  · rename_i i j
    cases ra
    cases rb
    split at p
    · rename_i d e
      obtain ⟨c, r⟩ := h i j d e
      exact ⟨i, j, rfl, rfl, c, p φ H _ Ext.rfl' s (r φ H)⟩
    · exact p.elim
  · exact p.elim
theorem oI_ok0 {K : PySem.W.Frag} {g : Int → Int → V} {g' : Int → Int → Option D} (h : ∀ i j d, g' i j = some d → ∀ φ H, Rp K φ H (g i j) d) : Op2 K (rI0 g) (oI g') := fun W φ S H σ x y a b Q s ra rb p => by
  unfold oI at p
  split at p
  · rename_i i j
    cases ra
    cases rb
    split at p
    · rename_i d e
      exact ⟨i, j, rfl, rfl, p φ H _ Ext.rfl' s (h i j d e φ H)⟩
    · exact p.elim
  · exact p.elim
/-- lists' greatest length here -/
def szOk (n : Nat) : Bool := gd (n ≤ 1000000)
theorem szOk.le {n : Nat} (h : szOk n = true) : n ≤ sizeLine := by
  have := of_gd h
  rw [sizeLine_eq]; omega
theorem szOk.lt {n : Nat} (h : szOk n = true) : n < sizeLine := by
  have := of_gd h
  rw [sizeLine_eq]; omega

/-- a + b -/
def oAdd : OF
  | .int i, .int j, S => .ok (.int (i + j)) S
  | .tup xs, .tup ys, S => if szOk (xs.length + ys.length) then .ok (.tup (xs ++ ys)) S else .no
  | .ob n, .ob m, S => match S[n]?, S[m]? with
    | some (.lst xs), some (.lst ys) => if szOk (xs.length + ys.length) then .ok (.ob S.length) (S ++ [.lst (xs ++ ys)]) else .no
    | _, _ => .no
  | .str x, .str y, S => if szOk (x.length + y.length) then .ok (.str (x ++ y)) S else .no
  | _, _, _ => .no
abbrev rAddAll (K : PySem.W.Frag) : R2 := fun x y H Q => (rI0 (fun i j => .int (i + j))) x y H Q ∨ (fun x y H Q => rCatA K x y H Q ∨ (fun x y H Q => rCat x y H Q ∨
  (fun x y H Q => ∃ i j, x = .str i ∧ y = .str j ∧ i.length + j.length ≤ sizeLine ∧ Q (.str (i ++ j)) H) x y H Q) x y H Q) x y H Q
theorem op_addAll {X : Cx} : OpR X (binaryOp .Add) (rAddAll X.K) := OpR.or op_add (OpR.or op_catA (OpR.or op_cat op_add_str))
theorem oAdd_ok {K : PySem.W.Frag} : Op2 K (rAddAll K) oAdd := fun W φ S H σ x y a b Q s ra rb p => by
  unfold oAdd at p
  split at p
  · cases ra; cases rb
    exact .inl ⟨_, _, rfl, rfl, p φ H _ Ext.rfl' s (.int _)⟩
  · split at p
    · rename_i xs ys hz
      cases ra with
      | tup ta rxs =>
        cases rb with
        | tup tb rys =>
          have e1 := rxs.length
          have e2 := rys.length
          refine .inr (.inl ⟨_, _, _, _, rfl, rfl, ta, tb, ?_, fun e => ?_, fun _ e => ?_, fun _ _ q hq => ?_⟩)
          · rw [e1, e2]; exact szOk.le hz
          · subst e
            cases rxs
            exact p φ H _ Ext.rfl' s (.tup tb rys)
          · subst e
            cases rys
            rw [List.append_nil] at p
            exact p φ H _ Ext.rfl' s (.tup ta rxs)
          · exact p φ _ _ (Ext.new hq) (s.new hq) (.tup (.of upd_same) ((rxs.append rys).mono (Ext.new hq)))
    · exact p.elim
  · split at p
    · rename_i xs ys h1 h2
      split at p
      · rename_i hz
        cases ra with
        | ob na =>
          cases rb with
          | ob nb =>
            obtain ⟨us, g1, r1⟩ := s.lst na h1
            obtain ⟨ws, g2, r2⟩ := s.lst nb h2
            refine .inr (.inr (.inl ⟨_, _, _, _, rfl, rfl, g1, g2, ?_, fun q hq => ?_⟩))
            · rw [r1.length, r2.length]; exact szOk.le hz
            · have e := Ext.newSnoc (φ := φ) (o := .lst (us ++ ws)) hq
              exact p (φ ++ [q]) _ _ e (s.snoc hq ⟨_, upd_same, (r1.append r2).mono e⟩) (.ob (by rw [List.getElem?_append_right (by rw [s.len]; exact Nat.le_refl _), s.len, Nat.sub_self]; rfl))
      · exact p.elim
    · exact p.elim
  · split at p
    · rename_i hz
      cases ra; cases rb
      exact .inr (.inr (.inr ⟨_, _, rfl, rfl, szOk.le hz, p φ H _ Ext.rfl' s (.str _)⟩))
    · exact p.elim
  · exact p.elim
/-- a - b -/
def oSub : OF := oI fun i j => some (.int (i - j))
theorem oSub_ok {K : PySem.W.Frag} : Op2 K (rI0 fun i j => .int (i - j)) oSub := oI_ok0 fun i j d e φ H => by cases e; exact .int _
/-- a * b: ints, a list so many times -/
def mulOk (i j : Int) : Bool := gd ((Builtin.Int.intBits i : Int) + (Builtin.Int.intBits j : Int) ≤ 134217728)
def oMul : OF
  | .int i, .int j, S => if mulOk i j then .ok (.int (i * j)) S else .no
  | .ob n, .int k, S => match S[n]? with
    | some (.lst xs) => if gd (0 ≤ k ∧ k ≤ 1000000) && szOk (xs.length * k.toNat) then .ok (.ob S.length) (S ++ [.lst (List.replicate k.toNat xs).flatten]) else .no
    | _ => .no
  | _, _, _ => .no
abbrev rMulAll : R2 := fun x y H Q => (rI CMulX fun i j => .int (i * j)) x y H Q ∨ rRep x y H Q
theorem op_mulAll {X : Cx} : OpR X (binaryOp .Mult) rMulAll := OpR.or op_mulX op_rep
theorem oMul_ok {K : PySem.W.Frag} : Op2 K rMulAll oMul := fun W φ S H σ x y a b Q s ra rb p => by
  unfold oMul at p
  split at p
  · split at p
    · rename_i hz
      cases ra; cases rb
      exact .inl ⟨_, _, rfl, rfl, (of_gd hz : (_ : Int) ≤ 134217728), p φ H _ Ext.rfl' s (.int _)⟩
    · exact p.elim
  · rename_i n k
    split at p
    · rename_i xs h1
      split at p
      · rename_i hz
        obtain ⟨h2, h3⟩ := Bool.and_eq_true_iff.mp hz
        have h2 := of_gd h2
        cases ra with
        | ob na =>
          cases rb
          obtain ⟨us, g1, r1⟩ := s.lst na h1
          refine .inr ⟨_, _, _, rfl, rfl, g1, by omega, by omega, ?_, fun q hq => ?_⟩
          · rw [r1.length]; exact szOk.le h3
          · have e := Ext.newSnoc (φ := φ) (o := .lst (List.replicate k.toNat us).flatten) hq
            exact p (φ ++ [q]) _ _ e (s.snoc hq ⟨_, upd_same, (r1.flatten_replicate _).mono e⟩) (.ob (by rw [List.getElem?_append_right (by rw [s.len]; exact Nat.le_refl _), s.len, Nat.sub_self]; rfl))
      · exact p.elim
    · exact p.elim
  · exact p.elim
/-- a // b -/
def divOk (i j : Int) : Bool := gd (j ≠ 0 ∧ Builtin.divisionGoesByPylong i j = false)
def CDivQ (i j : Int) : Prop := j ≠ 0 ∧ Builtin.divisionGoesByPylong i j = false
theorem op_fdivQ {X : Cx} : OpR X (binaryOp .FloorDiv) (rI CDivQ fun i j => .int (i.fdiv j)) := opI fun i j _ _ _ _ _ hc q => floordiv_int hc.1 q (.inl hc.2)
def oDiv : OF := oI fun i j => if divOk i j then some (.int (i.fdiv j)) else none
theorem oDiv_ok {K : PySem.W.Frag} : Op2 K (rI CDivQ fun i j => .int (i.fdiv j)) oDiv := oI_ok fun i j d e => by
  split at e
  · rename_i h
    cases e
    exact ⟨of_gd h, fun _ _ => .int _⟩
  · cases e
/-- a % b -/
def oMod : OF := oI fun i j => if gd (0 < j) then some (.int (i % j)) else none
theorem oMod_ok {K : PySem.W.Frag} : Op2 K (rI (fun _ j => 0 < j) fun i j => .int (i % j)) oMod := oI_ok fun i j d e => by
  split at e
  · rename_i h; cases e; exact ⟨of_gd h, fun _ _ => .int _⟩
  · cases e
/-- a ** b -/
def oPow : OF := oI fun i j => if gd (0 ≤ j ∧ j ≤ 1000000 ∧ i.natAbs < 2 ^ 64) then some (.int (i ^ j.toNat)) else none
theorem oPow_ok {K : PySem.W.Frag} : Op2 K (rI CPow fun i j => .int (i ^ j.toNat)) oPow := oI_ok fun i j d e => by
  split at e
  · rename_i h; cases e; exact ⟨of_gd h, fun _ _ => .int _⟩
  · cases e
/-! ### comparisons -/
def oLt : OF := oI fun i j => some (.bl (decide (i < j)))
def oLe : OF := oI fun i j => some (.bl (decide (i ≤ j)))
def oGt : OF := oI fun i j => some (.bl (decide (j < i)))
def oGe : OF := oI fun i j => some (.bl (decide (j ≤ i)))
theorem oLt_ok {K : PySem.W.Frag} : Op2 K (rI0 fun i j => .bl (decide (i < j))) oLt := oI_ok0 fun i j d e φ H => by cases e; exact .bl _
theorem oLe_ok {K : PySem.W.Frag} : Op2 K (rI0 fun i j => .bl (decide (i ≤ j))) oLe := oI_ok0 fun i j d e φ H => by cases e; exact .bl _
theorem oGt_ok {K : PySem.W.Frag} : Op2 K (rI0 fun i j => .bl (decide (j < i))) oGt := oI_ok0 fun i j d e φ H => by cases e; exact .bl _
theorem oGe_ok {K : PySem.W.Frag} : Op2 K (rI0 fun i j => .bl (decide (j ≤ i))) oGe := oI_ok0 fun i j d e φ H => by cases e; exact .bl _

/-- data by value, read to a depth -/
def pyOf : Nat → Sto → D → Option PyData
  | 0, _, _ => none
  | _ + 1, _, .non => some .none
  | _ + 1, _, .bl b => some (.bool b)
  | _ + 1, _, .int i => some (.int i)
  | _ + 1, _, .str s => some (.str s)
  | n + 1, S, .tup ds => (pyAll (pyOf n S) ds).map .tuple
  | n + 1, S, .ob k => match S[k]? with
    | some (.lst ds) => (pyAll (pyOf n S) ds).map .list
    | _ => none
  | _ + 1, _, .ro _ => none
  | _ + 1, _, .raw _ => none
where pyAll (f : D → Option PyData) : List D → Option (List PyData)
  | [] => some []
  | d :: r => match f d, pyAll f r with
    | some x, some xs => some (x :: xs)
    | _, _ => none
theorem pyAll_ok {K : PySem.W.Frag} {φ : List Addr} {H : Hp} {f : D → Option PyData} (hf : ∀ v d e, Rp K φ H v d → f d = some e → Dp K H v e) :
    ∀ (vs : List V) (ds : List D) (es : List PyData), Rps K φ H vs ds → pyOf.pyAll f ds = some es → DpAll K H vs es
  | _, _, es, .nil, h => by cases h; exact .nil
  | _, d :: r, es, .cons a b, h => by
    unfold pyOf.pyAll at h
    split at h
    · rename_i x xs h1 h2
      cases h
      exact .cons (hf _ _ _ a h1) (pyAll_ok hf _ _ _ b h2)
    · cases h
theorem pyOf_ok {K : PySem.W.Frag} {φ : List Addr} {H : Hp} {S : Sto} (s : Sr K φ S H) : ∀ (n : Nat) (v : V) (d : D) (e : PyData), Rp K φ H v d → pyOf n S d = some e → Dp K H v e
  | 0, _, _, _, _, h => by simp [pyOf] at h
  | n + 1, v, d, e, r, h => by
    have ih := pyOf_ok s n
    cases d with
    | non => cases r; simp [pyOf] at h; subst h; exact .non
    | bl b => cases r; simp [pyOf] at h; subst h; exact .bl b
    | int b => cases r; simp [pyOf] at h; subst h; exact .int b
    | str b => cases r; simp [pyOf] at h; subst h; exact .str b
    | tup ds =>
      simp only [pyOf, Option.map_eq_some_iff] at h
      obtain ⟨es, h1, rfl⟩ := h
      cases r with
      | tup t rs => exact .tup t (pyAll_ok (fun v d e a b => ih v d e a b) _ _ _ rs h1)
    | ob k =>
      simp only [pyOf] at h
      split at h
      · rename_i ds hk
        simp only [Option.map_eq_some_iff] at h
        obtain ⟨es, h1, rfl⟩ := h
        cases r with
        | ob hn =>
          obtain ⟨xs, g, rs⟩ := s.lst hn hk
          exact .lst (.of g) (pyAll_ok (fun v d e a b => ih v d e a b) _ _ _ rs h1)
      · cases h
    | ro ns => simp [pyOf] at h
    | raw w => simp [pyOf] at h
def oEqG (neg : Bool) : OF := fun a b S => match pyOf 40 S a, pyOf 40 S b with
  | some x, some y => if SeqAt.shaped x && SeqAt.shaped y then .ok (.bl (PyData.eqv x y != neg)) S else .no
  | _, _ => .no
def oEq : OF := oEqG false
def oNe : OF := oEqG true
theorem oEq_ok {K : PySem.W.Frag} : Op2 K (rEqD K) oEq := fun W φ S H σ x y a b Q s ra rb p => by
  unfold oEq oEqG at p
  split at p
  · rename_i u v h1 h2
    split at p
    · rename_i hz
      obtain ⟨z1, z2⟩ := Bool.and_eq_true_iff.mp hz
      refine ⟨u, v, pyOf_ok s 40 _ _ _ ra h1, pyOf_ok s 40 _ _ _ rb h2, z1, z2, ?_⟩
      have q := p φ H (.bl (PyData.eqv u v)) Ext.rfl' s (by rw [Bool.bne_false]; exact .bl _)
      exact q
    · exact p.elim
  · exact p.elim
theorem oNe_ok {K : PySem.W.Frag} : Op2 K (rNeD K) oNe := fun W φ S H σ x y a b Q s ra rb p => by
  unfold oNe oEqG at p
  split at p
  · rename_i u v h1 h2
    split at p
    · rename_i hz
      obtain ⟨z1, z2⟩ := Bool.and_eq_true_iff.mp hz
      refine ⟨u, v, pyOf_ok s 40 _ _ _ ra h1, pyOf_ok s 40 _ _ _ rb h2, z1, z2, ?_⟩
      have q := p φ H (.bl (!PyData.eqv u v)) Ext.rfl' s (by rw [Bool.bne_true]; exact .bl _)
      exact q
    · exact p.elim
  · exact p.elim
/-- is, is not: beside None, of two truths -/
def isNonD : D → Option Bool
  | .non => some true
  | .raw _ => none
  | _ => some false
def oIsG (neg : Bool) : OF := fun a b S => match b with
  | .non => match isNonD a with | some k => .ok (.bl (k != neg)) S | none => .no
  | .bl y => match a with | .bl x => .ok (.bl (decide (x = y) != neg)) S | _ => .no
  | _ => .no
def oIs : OF := oIsG false
def oIsnt : OF := oIsG true
theorem isNonD_ok {K : PySem.W.Frag} {φ : List Addr} {H : Hp} {v : V} {d : D} {k : Bool} (r : Rp K φ H v d) (h : isNonD d = some k) : decide (v = .non) = k := by
  cases r <;> simp [isNonD] at h <;> subst h <;> simp
abbrev rIsAll : R2 := fun x y H Q => (fun x y H Q => y = .non ∧ Q (.bl (decide (x = .non))) H) x y H Q ∨ (fun x y H Q => ∃ a b, x = .bl a ∧ y = .bl b ∧ Q (.bl (decide (a = b))) H) x y H Q
abbrev rIsntAll : R2 := fun x y H Q => (fun x y H Q => y = .non ∧ Q (.bl (!decide (x = .non))) H) x y H Q ∨ (fun x y H Q => ∃ a b, x = .bl a ∧ y = .bl b ∧ Q (.bl (!decide (a = b))) H) x y H Q
theorem op_isAll {X : Cx} : OpR X (compareOp .Is) rIsAll := OpR.or op_isN op_is_bl
theorem op_isntAll {X : Cx} : OpR X (compareOp .IsNot) rIsntAll := OpR.or op_notN op_isnot_bl
theorem oIs_ok {K : PySem.W.Frag} : Op2 K rIsAll oIs := fun W φ S H σ x y a b Q s ra rb p => by
  unfold oIs oIsG at p
  split at p
  · split at p
    · rename_i k hk
      cases rb
      refine .inl ⟨rfl, ?_⟩
      rw [isNonD_ok ra hk]
      exact p φ H _ Ext.rfl' s (by rw [Bool.bne_false]; exact .bl _)
    · exact p.elim
  · split at p
    · cases ra; cases rb
      exact .inr ⟨_, _, rfl, rfl, p φ H _ Ext.rfl' s (by rw [Bool.bne_false]; exact .bl _)⟩
    · exact p.elim
  · exact p.elim
theorem oIsnt_ok {K : PySem.W.Frag} : Op2 K rIsntAll oIsnt := fun W φ S H σ x y a b Q s ra rb p => by
  unfold oIsnt oIsG at p
  split at p
  · split at p
    · rename_i k hk
      cases rb
      refine .inl ⟨rfl, ?_⟩
      rw [isNonD_ok ra hk]
      exact p φ H _ Ext.rfl' s (by rw [Bool.bne_true]; exact .bl _)
    · exact p.elim
  · split at p
    · cases ra; cases rb
      exact .inr ⟨_, _, rfl, rfl, p φ H _ Ext.rfl' s (by rw [Bool.bne_true]; exact .bl _)⟩
    · exact p.elim
  · exact p.elim
end DL
set_option Elab.async false
set_option linter.all false
set_option maxRecDepth 100000
noncomputable section
namespace DL
open PySem PySem.Spec PyProof.Rows L2

/-! ### truth, and, or, not -/
def truD : D → Sto → Option Bool
  | .non, _ => some false
  | .bl b, _ => some b
  | .int i, _ => some (i != 0)
  | .str s, _ => if szOk s.length then some ((s.length : Int) != 0) else none
  | .tup xs, _ => some (!xs.isEmpty)
  | .ob n, S => match S[n]? with
    | some (.lst xs) => some (!xs.isEmpty)
    | some (.dic kvs) => some (!kvs.isEmpty)
    | none => none
  | _, _ => none
theorem Rps.isEmpty {K : PySem.W.Frag} {φ : List Addr} {H : Hp} : ∀ {vs : List V} {ds : List D}, Rps K φ H vs ds → vs.isEmpty = ds.isEmpty
  | _, _, .nil => rfl
  | _, _, .cons _ _ => rfl
theorem truD_ok {K : PySem.W.Frag} {φ : List Addr} {H : Hp} {S : Sto} {v : V} {d : D} {k : Bool} (s : Sr K φ S H) (r : Rp K φ H v d) (h : truD d S = some k) : TruV K v H k := by
  cases d with
  | non => cases r; simp [truD] at h; exact h
  | bl b => cases r; simp [truD] at h; exact h.symm
  | int i => cases r; simp [truD] at h; exact h.symm
  | str x =>
    cases r
    simp only [truD] at h
    split at h
    · rename_i hz; cases h; exact ⟨szOk.le hz, rfl⟩
    · cases h
  | tup xs =>
    cases r with
    | tup t rs =>
      simp only [truD] at h
      cases h
      exact .inr (.inl ⟨_, t, by rw [rs.isEmpty]⟩)
  | ob n =>
    cases r with
    | ob hn =>
      simp only [truD] at h
      split at h
      · rename_i xs e
        cases h
        obtain ⟨us, g, rs⟩ := s.lst hn e
        exact .inl ⟨_, .of g, by rw [rs.isEmpty]⟩
      · rename_i kvs e
        cases h
        obtain ⟨b, h1, ws, g, k1, rs⟩ := s.at' n _ e
        rw [hn] at h1; cases h1
        refine .inr (.inr ⟨_, g, ?_⟩)
        have := rs.isEmpty
        simpa using this.symm
      · cases h
  | ro ns => simp [truD] at h
  | raw w => simp [truD] at h
def eOr (a b : EF) : EF := fun ρ S => (a ρ S).bind fun d S1 => match truD d S1 with
  | some true => .ok d S1
  | some false => b ρ S1
  | none => .no
def eAnd (a b : EF) : EF := fun ρ S => (a ρ S).bind fun d S1 => match truD d S1 with
  | some true => b ρ S1
  | some false => .ok d S1
  | none => .no
def eNot (a : EF) : EF := fun ρ S => (a ρ S).bind fun d S1 => match truD d S1 with
  | some k => .ok (.bl (!k)) S1
  | none => .no
def tTru (a : EF) : TF := fun ρ S => (a ρ S).bind fun d S1 => match truD d S1 with
  | some k => .ok k S1
  | none => .no
def bAnd (a b : TF) : TF := fun ρ S => (a ρ S).bind fun k S1 => if k = true then b ρ S1 else .ok false S1
def bOr (a b : TF) : TF := fun ρ S => (a ρ S).bind fun k S1 => if k = true then .ok true S1 else b ρ S1
def bNot (a : TF) : TF := fun ρ S => (a ρ S).bind fun k S1 => .ok (!k) S1
def eIf (c : TF) (a b : EF) : EF := fun ρ S => (c ρ S).bind fun k S1 => if k = true then a ρ S1 else b ρ S1
section
variable {X : Cx} {W : WX} {a b c : Expr} {fa fb fc : EF} {ga gb : TF} {rest : List Expr} {pos : Pos}
theorem de_one {op : BoolOp} (h : DE X W a fa) : DE X W (.BoolOp op [a] pos) fa := pe_one h
theorem de_or (ha : DE X W a fa) (hb : DE X W (.BoolOp .Or (b :: rest) pos) fb) : DE X W (.BoolOp .Or (a :: b :: rest) pos) (eOr fa fb) :=
  pe_wk (pe_orT ha hb) fun σ H Q ⟨φ, ρ, S, er, sr, p⟩ => (lf.bind er sr p).imp fun x H1 ⟨φ1, S1, d, e1, sr1, r1, p1⟩ => by
    split at p1
    · rename_i hk
      refine ⟨true, truD_ok sr1 r1 hk, ?_⟩
      rw [if_pos rfl]
      exact p1 φ1 H1 x Ext.rfl' sr1 r1
    · rename_i hk
      refine ⟨false, truD_ok sr1 r1 hk, ?_⟩
      rw [if_neg Bool.false_ne_true]
      exact ⟨φ1, ρ, S1, er.mono e1, sr1, p1⟩
    · exact p1.elim
theorem de_and (ha : DE X W a fa) (hb : DE X W (.BoolOp .And (b :: rest) pos) fb) : DE X W (.BoolOp .And (a :: b :: rest) pos) (eAnd fa fb) :=
  pe_wk (pe_andT ha hb) fun σ H Q ⟨φ, ρ, S, er, sr, p⟩ => (lf.bind er sr p).imp fun x H1 ⟨φ1, S1, d, e1, sr1, r1, p1⟩ => by
    split at p1
    · rename_i hk
      refine ⟨true, truD_ok sr1 r1 hk, ?_⟩
      rw [if_pos rfl]
      exact ⟨φ1, ρ, S1, er.mono e1, sr1, p1⟩
    · rename_i hk
      refine ⟨false, truD_ok sr1 r1 hk, ?_⟩
      rw [if_neg Bool.false_ne_true]
      exact p1 φ1 H1 x Ext.rfl' sr1 r1
    · exact p1.elim
theorem de_not (ha : DE X W a fa) : DE X W (.UnaryOp .Not a pos) (eNot fa) :=
  pe_wk (pe_notT ha) fun σ H Q ⟨φ, ρ, S, er, sr, p⟩ => (lf.bind er sr p).imp fun x H1 ⟨φ1, S1, d, e1, sr1, r1, p1⟩ => by
    split at p1
    · rename_i k hk
      exact ⟨k, truD_ok sr1 r1 hk, p1 φ1 H1 _ Ext.rfl' sr1 (.bl _)⟩
    · exact p1.elim
theorem dt_val (ha : DE X W a fa) (he : ∀ whole, isTrue a X.env whole = (do let v ← whole; standAt a.pos; holding [v] (truthy v)) := by intro _; rfl) : DT X W a (tTru fa) :=
  pt_wk (pt_truth ha he) fun σ H Q ⟨φ, ρ, S, er, sr, p⟩ => (lf.bind er sr p).imp fun x H1 ⟨φ1, S1, d, e1, sr1, r1, p1⟩ => by
    split at p1
    · rename_i k hk
      exact ⟨k, truD_ok sr1 r1 hk, p1 φ1 H1 _ Ext.rfl' sr1 rfl⟩
    · exact p1.elim
theorem dt_cmp {op : CmpOp} {r : R2} {o : OF} (ho : OpR X (compareOp op) r) (hr : Op2 X.K r o) (hb' : ∀ a b S d S', o a b S = .ok d S' → ∃ k, d = .bl k) (ha : DE X W a fa) (hb : DE X W b fb)
    (hm : behindInMarks op b = false := by first | exact nomark _ | rfl) : DT X W (.Compare a [op] [b] pos) (tTru (eOp o fa fb)) :=
  pt_wk (pt_cmpR ho ha hb hm) fun σ H Q z => by
    refine tOp_of hr σ H _ ?_
    obtain ⟨φ, ρ, S, er, sr, p⟩ := z
    refine ⟨φ, ρ, S, er, sr, ?_⟩
    unfold tTru at p
    cases e : eOp o fa fb ρ S with
    | ok d S1 =>
      rw [e] at p
      intro φ' H' x e' s' r'
      have hk : ∃ k, d = .bl k := by
        unfold eOp at e
        cases e1 : fa ρ S with
        | ok d1 S2 =>
          rw [e1] at e
          simp only [Res.bind] at e
          cases e2 : fb ρ S2 with
          | ok d2 S3 => rw [e2] at e; exact hb' _ _ _ _ _ e
          | ex _ _ => rw [e2] at e; cases e
          | no => rw [e2] at e; cases e
        | ex _ _ => rw [e1] at e; cases e
        | no => rw [e1] at e; cases e
      obtain ⟨k, rfl⟩ := hk
      cases r'
      exact ⟨k, rfl, p φ' H' k e' s' rfl⟩
    | ex c S1 => rw [e] at p; exact p
    | no => rw [e] at p; exact p
theorem dt_not (ha : DT X W a ga) : DT X W (.UnaryOp .Not a pos) (bNot ga) :=
  pt_wk (pt_not ha) fun σ H Q ⟨φ, ρ, S, er, sr, p⟩ => (lf.bind er sr p).imp fun x H1 ⟨φ1, S1, d, e1, sr1, r1, p1⟩ => by
    cases r1
    exact p1 φ1 H1 _ Ext.rfl' sr1 rfl
def DW (X : Cx) (W : WX) (e : Expr) (f : TF) : Prop := PW X e (lT X.K W f)
theorem pw_wk {X : Cx} {e : Expr} {t t' : TT} (h : PW X e t) (q : ∀ σ H Q, t' σ H Q → t σ H Q) : PW X e t' := ⟨fun whole pins s σ H Q I z => h.run whole pins s σ H Q I (q σ H Q z)⟩
theorem dw_and1 (ha : DT X W a ga) : DW X W (.BoolOp .And [a] pos) ga := pw_and1 ha
theorem dw_or1 (ha : DT X W a ga) : DW X W (.BoolOp .Or [a] pos) ga := pw_or1 ha
theorem dw_and (ha : DT X W a ga) (hb : DW X W (.BoolOp .And (b :: rest) pos) gb) : DW X W (.BoolOp .And (a :: b :: rest) pos) (bAnd ga gb) :=
  pw_wk (pw_and ha hb) fun σ H Q ⟨φ, ρ, S, er, sr, p⟩ => (lf.bind er sr p).imp fun x H1 ⟨φ1, S1, d, e1, sr1, r1, p1⟩ => by
    cases r1
    split
    · rename_i h; rw [if_pos h] at p1; exact ⟨φ1, ρ, S1, er.mono e1, sr1, p1⟩
    · rename_i h; rw [if_neg h] at p1; exact p1 φ1 H1 _ Ext.rfl' sr1 rfl
theorem dw_or (ha : DT X W a ga) (hb : DW X W (.BoolOp .Or (b :: rest) pos) gb) : DW X W (.BoolOp .Or (a :: b :: rest) pos) (bOr ga gb) :=
  pw_wk (pw_or ha hb) fun σ H Q ⟨φ, ρ, S, er, sr, p⟩ => (lf.bind er sr p).imp fun x H1 ⟨φ1, S1, d, e1, sr1, r1, p1⟩ => by
    cases r1
    split
    · rename_i h; rw [if_pos h] at p1; exact p1 φ1 H1 _ Ext.rfl' sr1 rfl
    · rename_i h; rw [if_neg h] at p1; exact ⟨φ1, ρ, S1, er.mono e1, sr1, p1⟩
theorem dt_w (h : DW X W a ga) : DT X W a ga := PW.pt h
theorem de_if (hc : DT X W c ga) (ha : DE X W a fa) (hb : DE X W b fb) : DE X W (.IfExp c a b pos) (eIf ga fa fb) :=
  pe_wk (pe_ifExp hc ha hb) fun σ H Q ⟨φ, ρ, S, er, sr, p⟩ => (lf.bind er sr p).imp fun x H1 ⟨φ1, S1, d, e1, sr1, r1, p1⟩ => by
    cases r1
    split
    · rename_i h; rw [if_pos h] at p1; exact ⟨φ1, ρ, S1, er.mono e1, sr1, p1⟩
    · rename_i h; rw [if_neg h] at p1; exact ⟨φ1, ρ, S1, er.mono e1, sr1, p1⟩
/-- a op b op' c -/
def eChain (o o' : OF) (fa fb fc : EF) : EF := fun ρ S => (fa ρ S).bind fun x S1 => (fb ρ S1).bind fun y S2 => (o x y S2).bind fun z S3 => match z with
  | .bl true => (fc ρ S3).bind fun w S4 => o' y w S4
  | .bl false => .ok (.bl false) S3
  | _ => .no
theorem de_chain {op op' : CmpOp} {r r' : R2} {o o' : OF} (ho : OpR X (compareOp op) r) (hr : Op2 X.K r o) (ho' : OpR X (compareOp op') r') (hr' : Op2 X.K r' o') (ha : DE X W a fa) (hb : DE X W b fb) (hc : DE X W c fc)
    (h1 : PE X (.Compare a [op, op'] [b, c] pos) (tChain r r' (lE X.K W fa) (lE X.K W fb) (lE X.K W fc))) : DE X W (.Compare a [op, op'] [b, c] pos) (eChain o o' fa fb fc) :=
  pe_wk h1 fun σ H Q ⟨φ, ρ, S, er, sr, p⟩ => (lf.bind er sr p).imp fun x H1 ⟨φ1, S1, d, e1, sr1, r1, p1⟩ => (lf.bind (er.mono e1) sr1 p1).imp fun y H2 ⟨φ2, S2, d2, e2, sr2, r2, p2⟩ => by
    refine hr W φ2 S2 H2 σ x y d d2 _ sr2 (r1.mono e2) r2 ?_
    cases e : o d d2 S2 with
    | ok z S3 =>
      rw [e] at p2
      intro φ' H' zv e' s' rz
      simp only [Res.bind] at p2
      split at p2
      · cases rz
        refine ⟨true, rfl, ?_⟩
        rw [if_pos rfl]
        exact (lf.bind (((er.mono e1).mono e2).mono e') s' (p2.mono e')).imp fun w H4 ⟨φ4, S4, d4, e4, sr4, r4, p4⟩ =>
          hr' W φ4 S4 H4 σ y w d2 d4 Q sr4 ((r2.mono e').mono e4) r4 p4
      · cases rz
        refine ⟨false, rfl, ?_⟩
        rw [if_neg Bool.false_ne_true]
        exact p2 φ' H' _ e' s' (.bl _)
      · exact p2.elim
    | ex c S3 => rw [e] at p2; exact p2
    | no => rw [e] at p2; exact p2
end
theorem oI_bl {g : Int → Int → Option D} (h : ∀ i j d, g i j = some d → ∃ k, d = .bl k) : ∀ a b S d S', oI g a b S = .ok d S' → ∃ k, d = .bl k := fun a b S d S' e => by
  unfold oI at e
  split at e
  · split at e
    · rename_i h1; cases e; exact h _ _ _ h1
    · cases e
  · cases e
theorem oLt_bl : ∀ a b S d S', oLt a b S = .ok d S' → ∃ k, d = .bl k := oI_bl fun _ _ _ e => by cases e; exact ⟨_, rfl⟩
theorem oLe_bl : ∀ a b S d S', oLe a b S = .ok d S' → ∃ k, d = .bl k := oI_bl fun _ _ _ e => by cases e; exact ⟨_, rfl⟩
theorem oGt_bl : ∀ a b S d S', oGt a b S = .ok d S' → ∃ k, d = .bl k := oI_bl fun _ _ _ e => by cases e; exact ⟨_, rfl⟩
theorem oGe_bl : ∀ a b S d S', oGe a b S = .ok d S' → ∃ k, d = .bl k := oI_bl fun _ _ _ e => by cases e; exact ⟨_, rfl⟩
theorem oEqG_bl {n : Bool} : ∀ a b S d S', oEqG n a b S = .ok d S' → ∃ k, d = .bl k := fun a b S d S' e => by
  unfold oEqG at e
  split at e
  · split at e
    · cases e; exact ⟨_, rfl⟩
    · cases e
  · cases e
theorem oIsG_bl {n : Bool} : ∀ a b S d S', oIsG n a b S = .ok d S' → ∃ k, d = .bl k := fun a b S d S' e => by
  unfold oIsG at e
  split at e
  · split at e
    · cases e; exact ⟨_, rfl⟩
    · cases e
  · split at e
    · cases e; exact ⟨_, rfl⟩
    · cases e
  · cases e

/-! ### displays -/
def aNil : AF := fun _ S => .ok [] S
def aCons (a : EF) (r : AF) : AF := fun ρ S => (a ρ S).bind fun x S1 => (r ρ S1).bind fun xs S2 => .ok (x :: xs) S2
def eTup (a : AF) : EF := fun ρ S => (a ρ S).bind fun ds S1 => if szOk ds.length then .ok (.tup ds) S1 else .no
def eLst (a : AF) : EF := fun ρ S => (a ρ S).bind fun ds S1 => if szOk ds.length then .ok (.ob S1.length) (S1 ++ [.lst ds]) else .no
theorem at_snoc {φ : List Addr} {S : Sto} {K : PySem.W.Frag} {H : Hp} (s : Sr K φ S H) (q : Addr) : (φ ++ [q])[S.length]? = some q := by
  rw [List.getElem?_append_right (by rw [s.len]; exact Nat.le_refl _), s.len, Nat.sub_self]; rfl
section
variable {X : Cx} {W : WX} {e : Expr} {es : List Expr} {fa : EF} {ga : AF} {pos : Pos}
theorem da_nil : DA X W [] aNil := pa_wk pa_nil fun σ H Q ⟨φ, ρ, S, er, sr, p⟩ => p φ H [] Ext.rfl' sr .nil
theorem tCons_of : ∀ σ H Q, lA X.K W (aCons fa ga) σ H Q → tCons (lE X.K W fa) (lA X.K W ga) σ H Q := fun σ H Q ⟨φ, ρ, S, er, sr, p⟩ =>
  (lf.bind er sr p).imp fun x H1 ⟨φ1, S1, d, e1, sr1, r1, p1⟩ => (lf.bind (er.mono e1) sr1 p1).imp fun xs H2 ⟨φ2, S2, ds, e2, sr2, r2, p2⟩ =>
    p2 φ2 H2 _ Ext.rfl' sr2 (.cons (r1.mono e2) r2)
theorem da_cons (h : PA X (e :: es) (tCons (lE X.K W fa) (lA X.K W ga))) : DA X W (e :: es) (aCons fa ga) := pa_wk h tCons_of
theorem de_tup {k : Nat} (h : PE X (.Tuple es k pos) (tTup (lA X.K W ga))) : DE X W (.Tuple es k pos) (eTup ga) :=
  pe_wk h fun σ H Q ⟨φ, ρ, S, er, sr, p⟩ => (lf.bind er sr p).imp fun xs H1 ⟨φ1, S1, ds, e1, sr1, r1, p1⟩ => by
    split at p1
    · rename_i hz
      refine ⟨by rw [r1.length]; exact szOk.le hz, fun q hq => ?_⟩
      exact p1 φ1 _ _ (Ext.new hq) (sr1.new hq) (.tup (.of upd_same) (r1.mono (Ext.new hq)))
    · exact p1.elim
theorem de_lst (h : PE X (.List es pos) (tLst (lA X.K W ga))) : DE X W (.List es pos) (eLst ga) :=
  pe_wk h fun σ H Q ⟨φ, ρ, S, er, sr, p⟩ => (lf.bind er sr p).imp fun xs H1 ⟨φ1, S1, ds, e1, sr1, r1, p1⟩ => by
    split at p1
    · rename_i hz
      refine ⟨by rw [r1.length]; exact szOk.le hz, fun q hq => ?_⟩
      have e := Ext.newSnoc (φ := φ1) (o := .lst xs) hq
      exact p1 _ _ _ e (sr1.snoc hq ⟨_, upd_same, r1.mono e⟩) (.ob (at_snoc sr1 q))
    · exact p1.elim
end

/-! ### subscripts, slices -/
def oIx : OF
  | .tup xs, .int i, S => match atI xs i with | some d => .ok d S | none => .no
  | .ob n, .int i, S => match S[n]? with
    | some (.lst xs) => match atI xs i with | some d => .ok d S | none => .no
    | _ => .no
  | .str z, .int i, S => if szOk z.length then match atI z.cps.toList i with | some c => .ok (.str ⟨#[c]⟩) S | none => .no else .no
  | _, _, _ => .no
theorem Rps.atI {K : PySem.W.Frag} {φ : List Addr} {H : Hp} {vs : List V} {ds : List D} {i : Int} {d : D} (r : Rps K φ H vs ds) (h : L2.atI ds i = some d) : ∃ v, L2.atI vs i = some v ∧ Rp K φ H v d := by
  unfold L2.atI at h ⊢
  rw [r.length]
  cases e : ixN ds.length i with
  | none => rw [e] at h; cases h
  | some j =>
    rw [e] at h
    exact r.get h
theorem oIx_ok {K : PySem.W.Frag} : Op2 K (rIx K) oIx := fun W φ S H σ x y a b Q s ra rb p => by
  unfold oIx at p
  split at p
  · split at p
    · rename_i d e
      cases rb
      cases ra with
      | tup t rs =>
        obtain ⟨v, h1, r1⟩ := rs.atI e
        exact .inr (.inl ⟨_, _, _, v, rfl, rfl, t, h1, p φ H v Ext.rfl' s r1⟩)
    · exact p.elim
  · split at p
    · rename_i xs e0
      split at p
      · rename_i d e
        cases rb
        cases ra with
        | ob hn =>
          obtain ⟨us, g, rs⟩ := s.lst hn e0
          obtain ⟨v, h1, r1⟩ := rs.atI e
          exact .inl ⟨_, _, _, v, rfl, rfl, .of g, h1, p φ H v Ext.rfl' s r1⟩
      · exact p.elim
    · exact p.elim
  · split at p
    · rename_i hz
      split at p
      · rename_i c e
        cases ra; cases rb
        exact .inr (.inr ⟨_, _, c, rfl, rfl, szOk.le hz, e, p φ H _ Ext.rfl' s (.str _)⟩)
      · exact p.elim
    · exact p.elim
  · exact p.elim
theorem de_ix {X : Cx} {W : WX} {a b : Expr} {fa fb : EF} {pos : Pos} (ha : DE X W a fa) (hb : DE X W b fb) (hs : PlainIx b := by intro _ _; rfl) : DE X W (.Subscript a b pos) (eOp oIx fa fb) :=
  pe_wk (pe_ix ix_seq ha hb hs) (tOp_of oIx_ok)
/-- a slice's part -/
abbrev PF := Lc → Sto → Res (Option Int)
abbrev RO : Rl (Option Int) (Option Int) := fun _ _ x a => x = a
def pNo : PF := fun _ S => .ok none S
def pAt (a : EF) : PF := fun ρ S => (a ρ S).bind fun d S1 => match d with | .int i => .ok (some i) S1 | _ => .no
def DO (X : Cx) (W : WX) (e : Option Expr) (f : PF) : Prop := PO X e (lf RO X.K W f)
theorem po_wk {X : Cx} {e : Option Expr} {t t' : TO} (h : PO X e t) (q : ∀ σ H Q, t' σ H Q → t σ H Q) : PO X e t' := ⟨fun pins s σ H Q I z => h.run pins s σ H Q I (q σ H Q z)⟩
theorem do_no {X : Cx} {W : WX} : DO X W none pNo := po_wk po_none fun σ H Q ⟨φ, ρ, S, er, sr, p⟩ => p φ H none Ext.rfl' sr rfl
theorem do_at {X : Cx} {W : WX} {e : Expr} {fa : EF} (h : DE X W e fa) : DO X W (some e) (pAt fa) := po_wk (po_some h) fun σ H Q ⟨φ, ρ, S, er, sr, p⟩ =>
  (lf.bind er sr p).imp fun x H1 ⟨φ1, S1, d, e1, sr1, r1, p1⟩ => by
    split at p1
    · cases r1
      exact ⟨_, rfl, p1 φ1 H1 _ Ext.rfl' sr1 rfl⟩
    · exact p1.elim
def cutD {α : Type} (xs : List α) (lo hi : Option Int) : List α := (xs.drop (HT.sIx xs.length 0 lo)).take (HT.sIx xs.length xs.length hi - HT.sIx xs.length 0 lo)
theorem Rps.cut {K : PySem.W.Frag} {φ : List Addr} {H : Hp} {vs : List V} {ds : List D} (r : Rps K φ H vs ds) (lo hi : Option Int) : Rps K φ H (cutV vs lo hi) (cutD ds lo hi) := by
  unfold cutV cutD
  rw [r.length]
  exact (r.drop _).take _
def oSl (d : D) (lo hi : Option Int) (S : Sto) : Res D := match d with
  | .tup xs => .ok (.tup (cutD xs lo hi)) S
  | .ob n => match S[n]? with
    | some (.lst xs) => .ok (.ob S.length) (S ++ [.lst (cutD xs lo hi)])
    | _ => .no
  | .str z => if szOk z.length then .ok (.str (cutS z lo hi)) S else .no
  | _ => .no
def eSl (a : EF) (lo hi : PF) : EF := fun ρ S => (a ρ S).bind fun d S1 => (lo ρ S1).bind fun l S2 => (hi ρ S2).bind fun u S3 => oSl d l u S3
abbrev rSlAll (K : PySem.W.Frag) : V → Option Int → Option Int → Hp → VK → Prop := fun x lo hi H Q => rSlA K x lo hi H Q ∨ (fun x lo hi H Q => rSlL K x lo hi H Q ∨ rSlS x lo hi H Q) x lo hi H Q
theorem sl_all {X : Cx} : SlR X (rSlAll X.K) := SlR.or sl_tupA (SlR.or sl_list sl_str)
theorem cutV_whole (xs : List V) (lo hi : Option Int) (h : HT.sIx xs.length 0 lo = 0 ∧ HT.sIx xs.length xs.length hi = xs.length) : cutV xs lo hi = xs := by
  unfold cutV
  rw [h.1, h.2, List.drop_zero, Nat.sub_zero, List.take_length]
theorem oSl_ok {K : PySem.W.Frag} {W : WX} {φ : List Addr} {S : Sto} {H : Hp} {σ : L2.St} {x : V} {d : D} {lo hi : Option Int} {Q : VK} (s : Sr K φ S H) (r : Rp K φ H x d) (p : post (Rp K) K W φ H σ Q (oSl d lo hi S)) : rSlAll K x lo hi H Q := by
  unfold oSl at p
  split at p
  · cases r with
    | tup t rs =>
      refine .inl ⟨_, _, rfl, t, fun h => ?_, fun _ q hq => ?_⟩
      · have rc := rs.cut lo hi
        rw [cutV_whole _ _ _ h] at rc
        exact p φ H _ Ext.rfl' s (.tup t rc)
      · exact p φ _ _ (Ext.new hq) (s.new hq) (.tup (.of upd_same) ((rs.cut lo hi).mono (Ext.new hq)))
  · split at p
    · rename_i xs e0
      cases r with
      | ob hn =>
        obtain ⟨us, g, rs⟩ := s.lst hn e0
        refine .inr (.inl ⟨_, _, rfl, .of g, fun q hq => ?_⟩)
        have e := Ext.newSnoc (φ := φ) (o := .lst (cutV us lo hi)) hq
        exact p _ _ _ e (s.snoc hq ⟨_, upd_same, (rs.cut lo hi).mono e⟩) (.ob (at_snoc s q))
    · exact p.elim
  · split at p
    · rename_i hz
      cases r
      exact .inr (.inr ⟨_, rfl, szOk.le hz, p φ H _ Ext.rfl' s (.str _)⟩)
    · exact p.elim
  · exact p.elim
theorem de_sl {X : Cx} {W : WX} {a : Expr} {lo hi : Option Expr} {fa : EF} {fl fh : PF} {p2 pos : Pos} (ha : DE X W a fa) (hl : DO X W lo fl) (hh : DO X W hi fh) : DE X W (.Subscript a (.Slice lo hi none p2) pos) (eSl fa fl fh) :=
  pe_wk (pe_slice sl_all ha hl hh) fun σ H Q ⟨φ, ρ, S, er, sr, p⟩ => (lf.bind er sr p).imp fun x H1 ⟨φ1, S1, d, e1, sr1, r1, p1⟩ =>
    (lf.bind (er.mono e1) sr1 p1).imp fun l H2 ⟨φ2, S2, l', e2, sr2, r2, p2⟩ => (lf.bind ((er.mono e1).mono e2) sr2 p2).imp fun u H3 ⟨φ3, S3, u', e3, sr3, r3, p3⟩ => by
      cases r2; cases r3
      exact oSl_ok sr3 ((r1.mono e2).mono e3) p3

/-! ### calls -/
abbrev FF := List D → Sto → Res D
def Res.noex {α : Type} : Res α → Res α
  | .ex _ _ => .no
  | r => r
abbrev wF : WX := fun _ _ _ _ => False
/-- the promise of a def from which no exception leaves -/
def spF (K : PySem.W.Frag) (n : Nat) (F : FF) : Sp := fun vs H Q _ => vs.length = n ∧ ∃ φ ds S, Rps K φ H vs ds ∧ Sr K φ S H ∧ post (Rp K) K wF φ H [] Q (F ds S)
def eCall (F : FF) (a : AF) : EF := fun ρ S => (a ρ S).bind fun ds S1 => (F ds S1).noex
theorem post.noex {K : PySem.W.Frag} {W : WX} {φ : List Addr} {H : Hp} {σ : L2.St} {Q : VK} : ∀ {r : Res D}, post (Rp K) K W φ H σ Q r.noex → ∀ W' σ', post (Rp K) K W' φ H σ' Q r
  | .ok _ _, h, _, _ => h
  | .ex _ _, h, _, _ => h.elim
  | .no, h, _, _ => h
theorem tCall_of {K : PySem.W.Frag} {W : WX} {n : Nat} {F : FF} {ga : AF} (hl : ∀ ρ S ds S', ga ρ S = .ok ds S' → ds.length = n) : ∀ σ H Q, lE K W (eCall F ga) σ H Q → tCall (spF K n F) [] E0 (lA K W ga) σ H Q := fun σ H Q ⟨φ, ρ, S, er, sr, p⟩ => by
  have h2 : lA K W ga σ H fun vs H1 => (∃ φ1 S1 ds, Ext φ H φ1 H1 ∧ Sr K φ1 S1 H1 ∧ Rps K φ1 H1 vs ds ∧ post (Rp K) K W φ1 H1 σ Q (F ds S1).noex ∧ ds.length = n) := by
    refine ⟨φ, ρ, S, er, sr, ?_⟩
    unfold eCall at p
    cases e : ga ρ S with
    | ok ds S1 =>
      rw [e] at p
      exact fun φ' H' x e' s r => ⟨φ', S1, ds, e', s, r, post.mono e' p, hl _ _ _ _ e⟩
    | ex c S1 => rw [e] at p; exact p
    | no => rw [e] at p; exact p
  refine lf.imp (fun vs H1 h => ?_) h2
  obtain ⟨φ1, S1, ds, e1, sr1, r1, p1, l1⟩ := h
  show spF K n F (vs ++ []) H1 Q E0
  rw [List.append_nil]
  exact ⟨by rw [r1.length, l1], φ1, ds, S1, r1, sr1, p1.noex wF []⟩
/-- how many arguments are written -/
def aLen (ga : AF) (n : Nat) : Prop := ∀ ρ S ds S', ga ρ S = .ok ds S' → ds.length = n
theorem aLen_nil : aLen aNil 0 := fun _ _ _ _ e => by cases e; rfl
theorem aLen_cons {fa : EF} {ga : AF} {n : Nat} (h : aLen ga n) : aLen (aCons fa ga) (n + 1) := fun ρ S ds S' e => by
  unfold aCons at e
  cases e1 : fa ρ S with
  | ok d S1 =>
    rw [e1] at e
    simp only [Res.bind] at e
    cases e2 : ga ρ S1 with
    | ok ds2 S2 =>
      rw [e2] at e
      cases e
      exact congrArg (· + 1) (h _ _ _ _ e2)
    | ex _ _ => rw [e2] at e; cases e
    | no => rw [e2] at e; cases e
  | ex _ _ => rw [e1] at e; cases e
  | no => rw [e1] at e; cases e
theorem de_call {X : Cx} {W : WX} {k n : Nat} {f : Addr} {fd : FuncData} {ps : List Str} {F : FF} {x : Str} {p pos : Pos} {e : Expr} {es : List Expr} {ga : AF}
    (G : FnOk X.prog X.w X.K X.mg X.base CX0 k f fd ps (spF X.K n F)) (hr : Room k X.A) (hg : Gl X x) (hm : X.mg x = some (.ref f)) (hk : PySem.W.keepIn X.K (.ref f) = true) (hb : Binds X.K fd ps [])
    (ha : DA X W (e :: es) ga) (hl : aLen ga n) (hdb : (x == ("__debug__" : Str)) = false := by decide)
    (he : starEach (e :: es) X.env = (false, eval e X.env) :: starEach es X.env := by rfl) (hpl : (backTo pos (starEach es X.env)).any (·.1) = false := by rfl) :
    DE X W (.Call (.Name x p) (e :: es) [] pos) (eCall F ga) :=
  pe_wk (pe_call G hr hg hm hk hb .nil pass0 ha hdb he hpl) (tCall_of hl)
/-- built-in functions by values -/
def Cal (K : PySem.W.Frag) (r : List V → Hp → VK → Prop) (c : FF) : Prop := ∀ (W : WX) (φ : List Addr) (S : Sto) (H : Hp) (σ : L2.St) (xs : List V) (ds : List D) (Q : VK), Sr K φ S H → Rps K φ H xs ds → post (Rp K) K W φ H σ Q (c ds S) → r xs H Q
def eB (c : FF) (a : AF) : EF := fun ρ S => (a ρ S).bind fun ds S1 => c ds S1
theorem tCB_of {K : PySem.W.Frag} {W : WX} {r : List V → Hp → VK → Prop} {c : FF} {ga : AF} (hc : Cal K r c) : ∀ σ H Q, lE K W (eB c ga) σ H Q → tCB r (lA K W ga) σ H Q := fun σ H Q ⟨φ, ρ, S, er, sr, p⟩ =>
  (lf.bind er sr p).imp fun xs H1 ⟨φ1, S1, ds, e1, sr1, r1, p1⟩ => hc W φ1 S1 H1 σ xs ds Q sr1 r1 p1
end DL
set_option Elab.async false
set_option linter.all false
set_option maxRecDepth 100000
noncomputable section
namespace DL
open PySem PySem.Spec PyProof.Rows L2

/-! ### built-in functions -/
def cLen : FF
  | [.tup xs], S => .ok (.int xs.length) S
  | [.str z], S => if szOk z.length then .ok (.int z.length) S else .no
  | [.ob n], S => match S[n]? with
    | some (.lst xs) => .ok (.int xs.length) S
    | _ => .no
  | _, _ => .no
theorem cLen_ok {K : PySem.W.Frag} : Cal K (fun xs H Q => ∃ x n, xs = [x] ∧ LenV K x H n ∧ Q (.int n) H) cLen := fun W φ S H σ xs ds Q s r p => by
  unfold cLen at p
  split at p
  · cases r with
    | cons a b =>
      cases b
      cases a with
      | tup t rs =>
        refine ⟨_, _, rfl, .inr ⟨_, t, rfl⟩, ?_⟩
        rw [rs.length]
        exact p φ H _ Ext.rfl' s (.int _)
  · split at p
    · rename_i hz
      cases r with
      | cons a b =>
        cases b
        cases a
        exact ⟨_, _, rfl, ⟨szOk.le hz, rfl⟩, p φ H _ Ext.rfl' s (.int _)⟩
    · exact p.elim
  · split at p
    · rename_i xs e
      cases r with
      | cons a b =>
        cases b
        cases a with
        | ob hn =>
          obtain ⟨us, g, rs⟩ := s.lst hn e
          refine ⟨_, _, rfl, .inl ⟨_, .of g, rfl⟩, ?_⟩
          rw [rs.length]
          exact p φ H _ Ext.rfl' s (.int _)
    · exact p.elim
  · exact p.elim
def cAbs : FF
  | [.int i], S => .ok (.int (if i < 0 then -i else i)) S
  | _, _ => .no
theorem cAbs_ok {K : PySem.W.Frag} : Cal K (fun xs H Q => ∃ i, xs = [.int i] ∧ Q (.int (if i < 0 then -i else i)) H) cAbs := fun W φ S H σ xs ds Q s r p => by
  unfold cAbs at p
  split at p
  · cases r with
    | cons a b => cases b; cases a; exact ⟨_, rfl, p φ H _ Ext.rfl' s (.int _)⟩
  · exact p.elim
def cInt : FF
  | [.int i], S => .ok (.int i) S
  | [.bl k], S => .ok (.int (if k then 1 else 0)) S
  | _, _ => .no
theorem cInt_ok {K : PySem.W.Frag} : Cal K (fun xs H Q => (∃ i, xs = [.int i] ∧ Q (.int i) H) ∨ ∃ k, xs = [.bl k] ∧ Q (.int (if k then 1 else 0)) H) cInt := fun W φ S H σ xs ds Q s r p => by
  unfold cInt at p
  split at p
  · cases r with
    | cons a b => cases b; cases a; exact .inl ⟨_, rfl, p φ H _ Ext.rfl' s (.int _)⟩
  · cases r with
    | cons a b => cases b; cases a; exact .inr ⟨_, rfl, p φ H _ Ext.rfl' s (.int _)⟩
  · exact p.elim
def cGcd : FF
  | [.int i, .int j], S => .ok (.int ((Nat.gcd i.natAbs j.natAbs : Nat) : Int)) S
  | _, _ => .no
theorem cGcd_ok {K : PySem.W.Frag} : Cal K rGcd cGcd := fun W φ S H σ xs ds Q s r p => by
  unfold cGcd at p
  split at p
  · cases r with
    | cons a b =>
      cases b with
      | cons c d => cases d; cases a; cases c; exact ⟨_, _, rfl, p φ H _ Ext.rfl' s (.int _)⟩
  · exact p.elim
def cMin : FF
  | [.int i, .int j], S => .ok (.int (if j < i then j else i)) S
  | _, _ => .no
theorem cMin_ok {K : PySem.W.Frag} : Cal K (fun xs H Q => ∃ i j, xs = [.int i, .int j] ∧ Q (.int (if j < i then j else i)) H) cMin := fun W φ S H σ xs ds Q s r p => by
  unfold cMin at p
  split at p
  · cases r with
    | cons a b =>
      cases b with
      | cons c d => cases d; cases a; cases c; exact ⟨_, _, rfl, p φ H _ Ext.rfl' s (.int _)⟩
  · exact p.elim
def cMax : FF
  | [.int i, .int j], S => .ok (.int (if j > i then j else i)) S
  | _, _ => .no
theorem cMax_ok {K : PySem.W.Frag} : Cal K (fun xs H Q => ∃ i j, xs = [.int i, .int j] ∧ Q (.int (if j > i then j else i)) H) cMax := fun W φ S H σ xs ds Q s r p => by
  unfold cMax at p
  split at p
  · cases r with
    | cons a b =>
      cases b with
      | cons c d => cases d; cases a; cases c; exact ⟨_, _, rfl, p φ H _ Ext.rfl' s (.int _)⟩
  · exact p.elim
/-- what class a datum is of -/
def tyD : D → Sto → Option String
  | .non, _ => some "NoneType"
  | .bl _, _ => some "bool"
  | .int _, _ => some "int"
  | .str _, _ => some "str"
  | .tup _, _ => some "tuple"
  | .ob n, S => match S[n]? with
    | some (.lst _) => some "list"
    | some (.dic _) => some "dict"
    | none => none
  | _, _ => none
theorem tyD_ok {K : PySem.W.Frag} {φ : List Addr} {H : Hp} {S : Sto} {v : V} {d : D} {t : String} (s : Sr K φ S H) (r : Rp K φ H v d) (h : tyD d S = some t) : TyX K H v (.type t) := by
  cases d with
  | non => cases r; cases h; exact .base .non
  | bl b => cases r; cases h; exact .base (.bl b)
  | int b => cases r; cases h; exact .base (.int b)
  | str b => cases r; cases h; exact .base (.str b)
  | tup ds =>
    cases r with
    | tup q rs =>
      cases h
      rcases q with (q | ⟨o, q⟩) | ⟨o, its, n, q, hc, _⟩
      · exact .base (.tup q)
      · exact .fTuple q
      · exact .kTuple q hc
  | ob n =>
    cases r with
    | ob hn =>
      simp only [tyD] at h
      split at h
      · rename_i e
        cases h
        obtain ⟨us, g, _⟩ := s.lst hn e
        exact .base (.lst g)
      · rename_i e
        cases h
        obtain ⟨b, h1, ws, g, _⟩ := s.at' n _ e
        rw [hn] at h1; cases h1
        exact .base (.dK g)
      · cases h
  | ro ns => cases h
  | raw w => cases h
def isD (d : D) (S : Sto) (b : String) : Option Bool := match tyD d S with
  | some t => kitB t b
  | none => none
/-- isinstance(e, T) -/
def eIs (a : EF) (b : String) : EF := fun ρ S => (a ρ S).bind fun d S1 => match isD d S1 b with
  | some k => .ok (.bl k) S1
  | none => .no
/-- isinstance(e, (T, U)) -/
def eIs2 (a : EF) (b c : String) : EF := fun ρ S => (a ρ S).bind fun d S1 => match tyD d S1 with
  | some t => (match kitB t b, kitB t c with
    | some k, some l => .ok (.bl (k || l)) S1
    | _, _ => .no)
  | none => .no
theorem isD_ok {K : PySem.W.Frag} {φ : List Addr} {H : Hp} {S : Sto} {v : V} {d : D} {b : String} {k : Bool} (s : Sr K φ S H) (r : Rp K φ H v d) (h : isD d S b = some k) : ∃ t, TyX K H v (.type t) ∧ kitB t b = some k := by
  unfold isD at h
  split at h
  · rename_i t e
    exact ⟨t, tyD_ok s r e, h⟩
  · cases h
section
variable {X : Cx} {W : WX} {e : Expr} {fa : EF} {pos : Pos}
theorem de_isi {b : String} (h : PE X e (tCB (rIsi X.K) (tCons (lE X.K W fa) (tCons (tC (.ty b)) tNil)))) : DE X W e (eIs fa b) :=
  pe_wk h fun σ H Q ⟨φ, ρ, S, er, sr, p⟩ => (lf.bind er sr p).imp fun x H1 ⟨φ1, S1, d, e1, sr1, r1, p1⟩ => by
    split at p1
    · rename_i k hk
      obtain ⟨t, h1, h2⟩ := isD_ok sr1 r1 hk
      exact ⟨x, .ty b, _, _, k, rfl, .ty b, h1, kit_ty h2, p1 φ1 H1 _ Ext.rfl' sr1 (.bl _)⟩
    · exact p1.elim
theorem de_isi2 {b c : String} (h : PE X e (tCB (rIsiT X.K) (tCons (lE X.K W fa) (tCons (tTup (tCons (tC (.ty b)) (tCons (tC (.ty c)) tNil))) tNil)))) : DE X W e (eIs2 fa b c) :=
  pe_wk h fun σ H Q ⟨φ, ρ, S, er, sr, p⟩ => (lf.bind er sr p).imp fun x H1 ⟨φ1, S1, d, e1, sr1, r1, p1⟩ => by
    split at p1
    · rename_i t ht
      split at p1
      · rename_i k l hk hl
        refine ⟨by show 2 ≤ sizeLine; rw [sizeLine_eq]; decide, fun q hq => ?_⟩
        have e' := Ext.new (φ := φ1) (o := .tup [.ty b, .ty c]) hq
        refine ⟨x, q, _, _, [.type b, .type c], k || l, rfl, upd_same, .cons (.ty b) (.cons (.ty c) .nil), tyD_ok (sr1.new hq) (r1.mono e') ht, ?_, p1 φ1 _ _ e' (sr1.new hq) (.bl _)⟩
        exact kitAny_cons (kit_ty hk) (fun hb => by subst hb; exact kitAny_cons (kit_ty hl) (fun hb => by subst hb; rfl) fun hb => by subst hb; rfl) fun hb => by subst hb; rfl
      · exact p1.elim
    · exact p1.elim
end
def allBl : List D → Option (List Bool)
  | [] => some []
  | .bl b :: r => (allBl r).map (b :: ·)
  | _ :: _ => none
theorem allBl_ok {K : PySem.W.Frag} {φ : List Addr} {H : Hp} : ∀ {vs : List V} {ds : List D} {bs : List Bool}, Rps K φ H vs ds → allBl ds = some bs → vs = bs.map V.bl
  | _, _, bs, .nil, h => by cases h; rfl
  | _, d :: r, bs, .cons a b, h => by
    cases d <;> simp only [allBl, Option.map_eq_some_iff, reduceCtorEq] at h
    obtain ⟨bs', h1, rfl⟩ := h
    cases a
    rw [allBl_ok b h1, List.map_cons]
def cAll : FF
  | [.ob n], S => match S[n]? with
    | some (.lst xs) => match allBl xs with | some bs => .ok (.bl (bs.all id)) S | none => .no
    | _ => .no
  | _, _ => .no
def cAny : FF
  | [.ob n], S => match S[n]? with
    | some (.lst xs) => match allBl xs with | some bs => .ok (.bl (bs.any id)) S | none => .no
    | _ => .no
  | _, _ => .no
theorem cAll_ok {K : PySem.W.Frag} : Cal K (rAll K) cAll := fun W φ S H σ xs ds Q s r p => by
  unfold cAll at p
  split at p
  · split at p
    · rename_i ys e0
      split at p
      · rename_i bs eb
        cases r with
        | cons a b =>
          cases b
          cases a with
          | ob hn =>
            obtain ⟨us, g, rs⟩ := s.lst hn e0
            have := allBl_ok rs eb
            subst this
            exact ⟨_, bs, rfl, .of g, p φ H _ Ext.rfl' s (.bl _)⟩
      · exact p.elim
    · exact p.elim
  · exact p.elim
theorem cAny_ok {K : PySem.W.Frag} : Cal K (rAny K) cAny := fun W φ S H σ xs ds Q s r p => by
  unfold cAny at p
  split at p
  · split at p
    · rename_i ys e0
      split at p
      · rename_i bs eb
        cases r with
        | cons a b =>
          cases b
          cases a with
          | ob hn =>
            obtain ⟨us, g, rs⟩ := s.lst hn e0
            have := allBl_ok rs eb
            subst this
            exact ⟨_, bs, rfl, .of g, p φ H _ Ext.rfl' s (.bl _)⟩
      · exact p.elim
    · exact p.elim
  · exact p.elim
def allInt : List D → Option (List Int)
  | [] => some []
  | .int b :: r => (allInt r).map (b :: ·)
  | _ :: _ => none
theorem allInt_ok {K : PySem.W.Frag} {φ : List Addr} {H : Hp} : ∀ {vs : List V} {ds : List D} {bs : List Int}, Rps K φ H vs ds → allInt ds = some bs → vs = bs.map V.int
  | _, _, bs, .nil, h => by cases h; rfl
  | _, d :: r, bs, .cons a b, h => by
    cases d <;> simp only [allInt, Option.map_eq_some_iff, reduceCtorEq] at h
    obtain ⟨bs', h1, rfl⟩ := h
    cases a
    rw [allInt_ok b h1, List.map_cons]
def cSum : FF
  | [.ob n], S => match S[n]? with
    | some (.lst xs) => match allInt xs with | some bs => .ok (.int bs.sum) S | none => .no
    | _ => .no
  | _, _ => .no
theorem cSum_ok {K : PySem.W.Frag} : Cal K (rSum K) cSum := fun W φ S H σ xs ds Q s r p => by
  unfold cSum at p
  split at p
  · split at p
    · rename_i ys e0
      split at p
      · rename_i bs eb
        cases r with
        | cons a b =>
          cases b
          cases a with
          | ob hn =>
            obtain ⟨us, g, rs⟩ := s.lst hn e0
            have := allInt_ok rs eb
            subst this
            exact ⟨_, bs, rfl, .of g, p φ H _ Ext.rfl' s (.int _)⟩
      · exact p.elim
    · exact p.elim
  · exact p.elim
/-- list(x), tuple(x) -/
def cList : FF
  | [.tup xs], S => .ok (.ob S.length) (S ++ [.lst xs])
  | [.ob n], S => match S[n]? with
    | some (.lst xs) => .ok (.ob S.length) (S ++ [.lst xs])
    | _ => .no
  | _, _ => .no
theorem cList_ok {K : PySem.W.Frag} : Cal K (fun xs H Q => ∃ p ys, xs = [.ref p] ∧ (SqL K H p ys ∨ SqT K H p ys) ∧ ∀ l, H l = none → Q (.ref l) (upd H l (.lst ys))) cList := fun W φ S H σ xs ds Q s r p => by
  unfold cList at p
  split at p
  · cases r with
    | cons a b =>
      cases b
      cases a with
      | tup t rs =>
        rename_i pa us
        refine ⟨_, _, rfl, .inr t, fun q hq => ?_⟩
        have e := Ext.newSnoc (φ := φ) (o := .lst us) hq
        exact p _ _ _ e (s.snoc hq ⟨_, upd_same, rs.mono e⟩) (.ob (at_snoc s q))
  · split at p
    · rename_i ys e0
      cases r with
      | cons a b =>
        cases b
        cases a with
        | ob hn =>
          obtain ⟨us, g, rs⟩ := s.lst hn e0
          refine ⟨_, _, rfl, .inl (.of g), fun q hq => ?_⟩
          have e := Ext.newSnoc (φ := φ) (o := .lst us) hq
          exact p _ _ _ e (s.snoc hq ⟨_, upd_same, rs.mono e⟩) (.ob (at_snoc s q))
    · exact p.elim
  · exact p.elim
def cTuple : FF
  | [.tup xs], S => .ok (.tup xs) S
  | [.ob n], S => match S[n]? with
    | some (.lst xs) => .ok (.tup xs) S
    | _ => .no
  | _, _ => .no
theorem cTuple_ok {K : PySem.W.Frag} : Cal K (fun xs H Q => ∃ p ys, xs = [.ref p] ∧ ((SqL K H p ys ∧ ∀ l, H l = none → Q (.ref l) (upd H l (.tup ys))) ∨ (SqT K H p ys ∧ Q (.ref p) H))) cTuple := fun W φ S H σ xs ds Q s r p => by
  unfold cTuple at p
  split at p
  · cases r with
    | cons a b =>
      cases b
      cases a with
      | tup t rs => exact ⟨_, _, rfl, .inr ⟨t, p φ H _ Ext.rfl' s (.tup t rs)⟩⟩
  · split at p
    · rename_i ys e0
      cases r with
      | cons a b =>
        cases b
        cases a with
        | ob hn =>
          obtain ⟨us, g, rs⟩ := s.lst hn e0
          exact ⟨_, _, rfl, .inl ⟨.of g, fun q hq => p φ _ _ (Ext.new hq) (s.new hq) (.tup (.of upd_same) (rs.mono (Ext.new hq)))⟩⟩
    · exact p.elim
  · exact p.elim

/-! ### methods of lists -/
def eApp (a b : EF) : EF := fun ρ S => (a ρ S).bind fun l S1 => match l with
  | .ob n => (match S1[n]? with
    | some (.lst _) => (b ρ S1).bind fun d S2 => (match S2[n]? with
      | some (.lst xs) => if szOk xs.length then .ok .non (S2.set n (.lst (xs ++ [d]))) else .no
      | _ => .no)
    | _ => .no)
  | _ => .no
def ePop (a : EF) : EF := fun ρ S => (a ρ S).bind fun l S1 => match l with
  | .ob n => match S1[n]? with
    | some (.lst xs) => match xs[xs.length - 1]? with
      | some d => .ok d (S1.set n (.lst xs.dropLast))
      | none => .no
    | _ => .no
  | _ => .no
theorem Rps.dropLast {K : PySem.W.Frag} {φ : List Addr} {H : Hp} {vs : List V} {ds : List D} (r : Rps K φ H vs ds) : Rps K φ H vs.dropLast ds.dropLast := by
  rw [List.dropLast_eq_take, List.dropLast_eq_take, r.length]
  exact r.take _
section
variable {X : Cx} {W : WX} {o e : Expr} {fa fb : EF} {pos : Pos}
theorem de_app {w : Expr} (h : PE X w (tBM X.K "list" rAppend (lE X.K W fa) (tCons (lE X.K W fb) tNil))) : DE X W w (eApp fa fb) :=
  pe_wk h fun σ H Q ⟨φ, ρ, S, er, sr, p⟩ => (lf.bind er sr p).imp fun x H1 ⟨φ1, S1, d, e1, sr1, r1, p1⟩ => by
    split at p1
    · split at p1
      · rename_i ys hy
        cases r1 with
        | ob hn =>
          obtain ⟨us, g, rs⟩ := sr1.lst hn hy
          refine ⟨.inl ⟨rfl, _, .of g⟩, ?_⟩
          refine (lf.bind (er.mono e1) sr1 p1).imp fun y H2 ⟨φ2, S2, d2, e2, sr2, r2, p2⟩ => ?_
          split at p2
          · rename_i xs hx
            split at p2
            · rename_i hz
              have hn2 := e2.pre _ _ hn
              obtain ⟨us2, g2, rs2⟩ := sr2.lst hn2 hx
              refine ⟨_, us2, y, rfl, rfl, g2, by rw [rs2.length]; exact szOk.lt hz, ?_⟩
              have ex : Ext φ2 H2 φ2 (upd H2 _ (.lst (us2 ++ [y]))) := Ext.put (by rw [g2]; trivial)
              exact p2 φ2 _ _ ex (sr2.put hn2 ⟨_, upd_same, (rs2.append (.cons r2 .nil)).mono ex⟩) .non
            · exact p2.elim
          · exact p2.elim
      · exact p1.elim
    · exact p1.elim
theorem de_pop {w : Expr} (h : PE X w (tBM0 X.K "list" rPop (lE X.K W fa))) : DE X W w (ePop fa) :=
  pe_wk h fun σ H Q ⟨φ, ρ, S, er, sr, p⟩ => (lf.bind er sr p).imp fun x H1 ⟨φ1, S1, d, e1, sr1, r1, p1⟩ => by
    split at p1
    · split at p1
      · rename_i xs hx
        split at p1
        · rename_i d hd
          cases r1 with
          | ob hn =>
            obtain ⟨us, g, rs⟩ := sr1.lst hn hx
            obtain ⟨v, hv, rv⟩ := rs.get hd
            rw [← rs.length] at hv
            refine ⟨.inl ⟨rfl, _, .of g⟩, _, us, v, rfl, rfl, g, hv, ?_⟩
            have ex : Ext φ1 H1 φ1 (upd H1 _ (.lst us.dropLast)) := Ext.put (by rw [g]; trivial)
            exact p1 φ1 _ _ ex (sr1.put hn ⟨_, upd_same, rs.dropLast.mono ex⟩) (rv.mono ex)
        · exact p1.elim
      · exact p1.elim
    · exact p1.elim
end
end DL
set_option Elab.async false
set_option linter.all false
set_option maxRecDepth 100000
noncomputable section
namespace DL
open PySem PySem.Spec PyProof.Rows L2

/-! ### targets: names, tuples and lists of names -/
inductive Tg where
  | nm (i : Nat)
  | tp (ts : List Tg)
  | ls (ts : List Tg)
mutual
def Tg.put : Tg → D → Lc → Sto → Option Lc
  | .nm i, d, ρ, _ => some (ρ.set i (some d))
  | .tp ts, .tup ds, ρ, S => Tg.puts ts ds ρ S
  | .ls ts, .ob n, ρ, S => match S[n]? with
    | some (.lst ds) => Tg.puts ts ds ρ S
    | _ => none
  | _, _, _, _ => none
def Tg.puts : List Tg → List D → Lc → Sto → Option Lc
  | [], [], ρ, _ => some ρ
  | t :: ts, d :: ds, ρ, S => match Tg.put t d ρ S with
    | some ρ' => Tg.puts ts ds ρ' S
    | none => none
  | _, _, _, _ => none
end
mutual
def gOf (K : PySem.W.Frag) : Tg → TG
  | .nm i => gName i
  | .tp ts => gTup K ts.length (gsOf K ts)
  | .ls ts => gLst K ts.length (gsOf K ts)
def gsOf (K : PySem.W.Frag) : List Tg → TGs
  | [] => gNil
  | t :: ts => gCons (gOf K t) (gsOf K ts)
end
mutual
def Tg.slots : Tg → List Nat
  | .nm i => [i]
  | .tp ts => Tg.slotss ts
  | .ls ts => Tg.slotss ts
def Tg.slotss : List Tg → List Nat
  | [] => []
  | t :: ts => Tg.slots t ++ Tg.slotss ts
end
/-- alike but at these slots -/
def SameBut (vs : List Nat) (σ σ' : L2.St) : Prop := σ'.length = σ.length ∧ ∀ j, j ∉ vs → σ'[j]? = σ[j]?
theorem SameBut.refl {vs : List Nat} {σ : L2.St} : SameBut vs σ σ := ⟨rfl, fun _ _ => rfl⟩
theorem SameBut.trans {vs : List Nat} {σ σ1 σ2 : L2.St} (a : SameBut vs σ σ1) (b : SameBut vs σ1 σ2) : SameBut vs σ σ2 := ⟨b.1.trans a.1, fun j h => (b.2 j h).trans (a.2 j h)⟩
theorem SameBut.mono {vs ws : List Nat} {σ σ1 : L2.St} (a : SameBut vs σ σ1) (h : ∀ j ∈ vs, j ∈ ws) : SameBut ws σ σ1 := ⟨a.1, fun j hj => a.2 j fun z => hj (h j z)⟩
theorem wipe_at {σ : L2.St} {i : Nat} : ∀ {vs : List Nat}, (wipe σ vs)[i]? = if i ∈ vs ∧ i < σ.length then some none else σ[i]?
  | [] => by simp [wipe]
  | v :: vs => by
    unfold wipe
    rw [List.getElem?_set, wipe_length, wipe_at]
    by_cases hv : v = i
    · subst hv
      by_cases hl : v < σ.length
      · simp [hl]
      · rw [if_pos rfl, if_neg hl, if_neg (fun z => hl z.2), List.getElem?_eq_none (by omega)]
    · rw [if_neg hv]
      have e : (i ∈ v :: vs ∧ i < σ.length) ↔ (i ∈ vs ∧ i < σ.length) := by
        constructor
        · rintro ⟨h1, h2⟩
          rcases List.mem_cons.mp h1 with z | z
          · exact absurd z.symm hv
          · exact ⟨z, h2⟩
        · rintro ⟨h1, h2⟩
          exact ⟨List.mem_cons_of_mem _ h1, h2⟩
      by_cases hc : i ∈ vs ∧ i < σ.length
      · rw [if_pos hc, if_pos (e.mpr hc)]
      · rw [if_neg hc, if_neg (fun z => hc (e.mp z))]
theorem SameBut.wipe {vs : List Nat} {σ σ' : L2.St} (h : SameBut vs σ σ') : wipe σ' vs = wipe σ vs := by
  refine List.ext_getElem? fun i => ?_
  rw [wipe_at, wipe_at, h.1]
  by_cases hc : i ∈ vs ∧ i < σ.length
  · rw [if_pos hc, if_pos hc]
  · rw [if_neg hc, if_neg hc]
    by_cases hi : i ∈ vs
    · have hl : σ.length ≤ i := by
        have : ¬ i < σ.length := fun z => hc ⟨hi, z⟩
        omega
      rw [List.getElem?_eq_none (by rw [h.1]; exact hl), List.getElem?_eq_none hl]
    · exact h.2 i hi
section
variable {K : PySem.W.Frag} {φ : List Addr} {S : Sto} {H : Hp}
mutual
theorem gOf_ok (s : Sr K φ S H) : ∀ (t : Tg) (v : V) (d : D) (σ : L2.St) (ρ ρ' : Lc) (Q : L2.St → Hp → Prop), Er K φ H σ ρ → Rp K φ H v d → t.put d ρ S = some ρ' → (∀ σ', Er K φ H σ' ρ' → SameBut t.slots σ σ' → Q σ' H) → gOf K t v σ H Q
  | .nm i, v, d, σ, ρ, ρ', Q, er, r, h, q => by
    cases h
    refine q _ (er.set r i) ⟨by simp, fun j hj => ?_⟩
    rw [List.getElem?_set, if_neg]
    rintro rfl
    exact hj (by simp [Tg.slots])
  | .tp ts, v, d, σ, ρ, ρ', Q, er, r, h, q => by
    cases d with
    | tup ds =>
      cases r with
      | tup t rs =>
        obtain ⟨hl, hg⟩ := gsOf_ok s ts _ ds σ ρ ρ' Q er rs h q
        exact ⟨_, _, rfl, t, by rw [rs.length, hl], hg⟩
    | _ => cases h
  | .ls ts, v, d, σ, ρ, ρ', Q, er, r, h, q => by
    cases d with
    | ob n =>
      cases r with
      | ob hn =>
        simp only [Tg.put] at h
        split at h
        · rename_i ds e
          obtain ⟨us, g, rs⟩ := s.lst hn e
          obtain ⟨hl, hg⟩ := gsOf_ok s ts _ ds σ ρ ρ' Q er rs h q
          exact ⟨_, _, rfl, .of g, by rw [rs.length, hl], hg⟩
        · cases h
    | _ => cases h
theorem gsOf_ok (s : Sr K φ S H) : ∀ (ts : List Tg) (vs : List V) (ds : List D) (σ : L2.St) (ρ ρ' : Lc) (Q : L2.St → Hp → Prop), Er K φ H σ ρ → Rps K φ H vs ds → Tg.puts ts ds ρ S = some ρ' → (∀ σ', Er K φ H σ' ρ' → SameBut (Tg.slotss ts) σ σ' → Q σ' H) → ds.length = ts.length ∧ gsOf K ts vs σ H Q
  | [], vs, ds, σ, ρ, ρ', Q, er, r, h, q => by
    cases ds with
    | nil =>
      cases r
      cases h
      exact ⟨rfl, rfl, q σ er .refl⟩
    | cons _ _ => cases h
  | t :: ts, vs, ds, σ, ρ, ρ', Q, er, r, h, q => by
    cases ds with
    | nil => cases h
    | cons d ds =>
      cases r with
      | cons r1 r2 =>
        simp only [Tg.puts] at h
        split at h
        · rename_i ρ1 h1
          have key : ∀ σ1, Er K φ H σ1 ρ1 → SameBut t.slots σ σ1 → ds.length = ts.length ∧ gsOf K ts _ σ1 H Q := fun σ1 er1 sb =>
            gsOf_ok s ts _ ds σ1 ρ1 ρ' Q er1 r2 h fun σ' er' sb' => q σ' er' ((sb.mono fun j hj => List.mem_append_left _ hj).trans (sb'.mono fun j hj => List.mem_append_right _ hj))
          refine ⟨?_, _, _, rfl, gOf_ok s t _ d σ ρ ρ1 _ er r1 h1 fun σ1 er1 sb => (key σ1 er1 sb).2⟩
          have : ∃ n, ds.length = n ∧ ts.length = n := by
            by_cases hz : ds.length = ts.length
            · exact ⟨_, rfl, hz.symm⟩
            · exfalso
              have := gOf_ok s t _ d σ ρ ρ1 (fun σ1 _ => ds.length = ts.length) er r1 h1 fun σ1 er1 sb => (key σ1 er1 sb).1
              exact hz (gOf_triv t _ σ H _ this)
          obtain ⟨n, h1, h2⟩ := this
          rw [List.length_cons, List.length_cons, h1, h2]
        · cases h
theorem gOf_triv : ∀ (t : Tg) (v : V) (σ : L2.St) (H : Hp) (p : Prop), gOf K t v σ H (fun _ _ => p) → p
  | .nm i, v, σ, H, p, h => h
  | .tp ts, v, σ, H, p, ⟨_, _, _, _, _, h⟩ => gsOf_triv ts _ σ H p h
  | .ls ts, v, σ, H, p, ⟨_, _, _, _, _, h⟩ => gsOf_triv ts _ σ H p h
theorem gsOf_triv : ∀ (ts : List Tg) (vs : List V) (σ : L2.St) (H : Hp) (p : Prop), gsOf K ts vs σ H (fun _ _ => p) → p
  | [], _, _, _, p, ⟨_, h⟩ => h
  | t :: ts, _, σ, H, p, ⟨v, r, _, h⟩ => by
    have h2 : gOf K t v σ H (fun _ _ => p) := gOf_imp t v σ H _ _ (fun σ' H' z => gsOf_triv ts _ σ' H' p z) h
    exact gOf_triv t v σ H p h2
theorem gOf_imp : ∀ (t : Tg) (v : V) (σ : L2.St) (H : Hp) (Q Q' : L2.St → Hp → Prop), (∀ σ H, Q σ H → Q' σ H) → gOf K t v σ H Q → gOf K t v σ H Q'
  | .nm i, v, σ, H, Q, Q', hq, h => hq _ _ h
  | .tp ts, v, σ, H, Q, Q', hq, ⟨a, xs, h1, h2, h3, h⟩ => ⟨a, xs, h1, h2, h3, gsOf_imp ts _ σ H Q Q' hq h⟩
  | .ls ts, v, σ, H, Q, Q', hq, ⟨a, xs, h1, h2, h3, h⟩ => ⟨a, xs, h1, h2, h3, gsOf_imp ts _ σ H Q Q' hq h⟩
theorem gsOf_imp : ∀ (ts : List Tg) (vs : List V) (σ : L2.St) (H : Hp) (Q Q' : L2.St → Hp → Prop), (∀ σ H, Q σ H → Q' σ H) → gsOf K ts vs σ H Q → gsOf K ts vs σ H Q'
  | [], _, σ, H, Q, Q', hq, ⟨h1, h⟩ => ⟨h1, hq _ _ h⟩
  | t :: ts, _, σ, H, Q, Q', hq, ⟨v, r, h1, h⟩ => ⟨v, r, h1, gOf_imp t v σ H _ _ (fun σ' H' z => gsOf_imp ts _ σ' H' Q Q' hq z) h⟩
end
end

/-! ### what a loop goes over -/
inductive Itd where
  | lst (n : Nat)
  | tup (xs : List D)
  | rng (lo : Int) (n : Nat)
  | zipT (xs ys : List D)
  | zipL (n m : Nat)
  | enumL (n : Nat)
/-- the item at a turn: none: stuck; some none: it is over -/
def Itd.at' : Itd → Nat → Sto → Option (Option D)
  | .lst n, i, S => match S[n]? with | some (.lst xs) => some xs[i]? | _ => none
  | .tup xs, i, _ => some xs[i]?
  | .rng lo n, i, _ => some (if i < n then some (.int (lo + i)) else none)
  | .zipT xs ys, i, _ => match xs[i]?, ys[i]? with | some x, some y => some (some (.tup [x, y])) | _, _ => some none
  | .zipL n m, i, S => match S[n]?, S[m]? with
    | some (.lst xs), some (.lst ys) => (match xs[i]?, ys[i]? with | some x, some y => some (some (.tup [x, y])) | _, _ => some none)
    | _, _ => none
  | .enumL n, i, S => match S[n]? with
    | some (.lst xs) => (match xs[i]? with | some x => some (some (.tup [.int i, x])) | none => some none)
    | _ => none
def Itd.size : Itd → Sto → Nat
  | .lst n, S => match S[n]? with | some (.lst xs) => xs.length | _ => 0
  | .tup xs, _ => xs.length
  | .rng _ n, _ => n
  | .zipT xs ys, _ => xs.length
  | .zipL n _, S => match S[n]? with | some (.lst xs) => xs.length | _ => 0
  | .enumL n, S => match S[n]? with | some (.lst xs) => xs.length | _ => 0
def ItR (K : PySem.W.Frag) : Rl Itd It := fun φ0 H0 J it => ∀ (i : Nat) (φ : List Addr) (S : Sto) (H : Hp), Ext φ0 H0 φ H → Sr K φ S H → match it.at' i S with
  | none => True
  | some none => J.stop i H
  | some (some d) => J.go i H ∧ ∀ x H', J.yld i H x H' → Ext φ H φ H' ∧ Sr K φ S H' ∧ Rp K φ H' x d
abbrev IF := Lc → Sto → Res Itd
def DI (X : Cx) (W : WX) (tg iter : Expr) (f : IF) : Prop := PI X tg iter (lf (ItR X.K) X.K W f)
theorem pi_wk {X : Cx} {tg iter : Expr} {t t' : TI} (h : PI X tg iter t) (q : ∀ σ H Q, t' σ H Q → t σ H Q) : PI X tg iter t' := ⟨fun pins s σ H Q I z => h.run pins s σ H Q I (q σ H Q z)⟩
def iLst (a : EF) : IF := fun ρ S => (a ρ S).bind fun d S1 => match d with
  | .ob n => match S1[n]? with | some (.lst _) => .ok (.lst n) S1 | _ => .no
  | _ => .no
def jTup (a : EF) : IF := fun ρ S => (a ρ S).bind fun d S1 => match d with
  | .tup xs => .ok (.tup xs) S1
  | _ => .no
def iRng (a : AF) : IF := fun ρ S => (a ρ S).bind fun ds S1 => match ds with
  | [.int j] => if gd (-(2 ^ 62) ≤ j ∧ j < 2 ^ 62) then .ok (.rng 0 j.toNat) S1 else .no
  | [.int i, .int j] => if gd (-(2 ^ 62) ≤ i ∧ i < 2 ^ 62 ∧ -(2 ^ 62) ≤ j ∧ j < 2 ^ 62) then .ok (.rng i (j - i).toNat) S1 else .no
  | _ => .no
def iZip (a : AF) : IF := fun ρ S => (a ρ S).bind fun ds S1 => match ds with
  | [.tup xs, .tup ys] => .ok (.zipT xs ys) S1
  | [.ob n, .ob m] => match S1[n]?, S1[m]? with | some (.lst _), some (.lst _) => .ok (.zipL n m) S1 | _, _ => .no
  | _ => .no
section
variable {X : Cx} {W : WX} {e : Expr} {fa : EF} {ga : AF} {tg iter : Expr}
theorem di_lst (h : PI X tg iter (iList X.K (lE X.K W fa))) : DI X W tg iter (iLst fa) :=
  pi_wk h fun σ H Q ⟨φ, ρ, S, er, sr, p⟩ => (lf.bind er sr p).imp fun x H1 ⟨φ1, S1, d, e1, sr1, r1, p1⟩ => by
    split at p1
    · rename_i n
      split at p1
      · rename_i ys hy
        cases r1 with
        | ob hn =>
          obtain ⟨us, g, rs⟩ := sr1.lst hn hy
          refine ⟨_, rfl, ⟨us, .of g⟩, p1 φ1 H1 _ Ext.rfl' sr1 fun i φ S H ex sr => ?_⟩
          have hn' := ex.pre _ _ hn
          cases e : S[n]? with
          | none => simp only [Itd.at', e]
          | some o =>
            cases o with
            | dic _ => simp only [Itd.at', e]
            | lst ds =>
              obtain ⟨us, g, rs⟩ := sr.lst hn' e
              simp only [Itd.at', e]
              cases e2 : ds[i]? with
              | none => exact ⟨us, .of g, by rw [rs.length]; exact List.getElem?_eq_none_iff.mp e2⟩
              | some d =>
                obtain ⟨v, hv, rv⟩ := rs.get e2
                refine ⟨⟨us, v, .of g, hv⟩, fun x H' hh => ?_⟩
                obtain ⟨rfl, hx⟩ := hh
                have := hx us (.of g)
                rw [hv] at this
                cases this
                exact ⟨Ext.rfl', sr, rv⟩
      · exact p1.elim
    · exact p1.elim
theorem di_tup (h : PI X tg iter (L2.iTup X.K (lE X.K W fa))) : DI X W tg iter (jTup fa) :=
  pi_wk h fun σ H Q ⟨φ, ρ, S, er, sr, p⟩ => (lf.bind er sr p).imp fun x H1 ⟨φ1, S1, d, e1, sr1, r1, p1⟩ => by
    split at p1
    · rename_i ds
      cases r1 with
      | tup t rs =>
        refine ⟨_, rfl, ⟨_, t⟩, p1 φ1 H1 _ Ext.rfl' sr1 fun i φ S H ex sr => ?_⟩
        have t' := ex.sqT t
        have rs' := rs.mono ex
        unfold Itd.at'
        simp only
        cases e2 : ds[i]? with
        | none => exact ⟨_, t', by rw [rs'.length]; exact List.getElem?_eq_none_iff.mp e2⟩
        | some d =>
          obtain ⟨v, hv, rv⟩ := rs'.get e2
          refine ⟨⟨_, v, t', hv⟩, fun x H' hh => ?_⟩
          obtain ⟨rfl, hx⟩ := hh
          have := hx _ t'
          rw [hv] at this
          cases this
          exact ⟨Ext.rfl', sr, rv⟩
    · exact p1.elim
theorem ItR.rng {K : PySem.W.Frag} {lo : Int} {n : Nat} {φ1 : List Addr} {H1 : Hp} : ItR K φ1 H1 (Itr lo n) (.rng lo n) := fun i φ S H ex sr => by
  unfold Itd.at'
  simp only
  by_cases h : i < n
  · rw [if_pos h]
    exact ⟨h, fun x H' ⟨e1, e2⟩ => by subst e1; subst e2; exact ⟨Ext.rfl', sr, .int _⟩⟩
  · rw [if_neg h]
    exact Nat.le_of_not_lt h
theorem di_rng2 (h : PI X tg iter (iRng2 (lA X.K W ga))) (hl : aLen ga 2) : DI X W tg iter (iRng ga) :=
  pi_wk h fun σ H Q ⟨φ, ρ, S, er, sr, p⟩ => by
    have p0 : post (ItR X.K) X.K W φ H σ Q ((ga ρ S).bind fun ds S1 => match ds with
        | [.int i, .int j] => if gd (-(2 ^ 62) ≤ i ∧ i < 2 ^ 62 ∧ -(2 ^ 62) ≤ j ∧ j < 2 ^ 62) then .ok (.rng i (j - i).toNat) S1 else .no
        | _ => .no) := by
      unfold iRng at p
      cases e : ga ρ S with
      | ok ds S1 =>
        rw [e] at p
        have l1 := hl _ _ _ _ e
        match ds, l1 with
        | [d, d2], _ => cases d <;> cases d2 <;> exact p
      | ex c S1 => rw [e] at p; exact p
      | no => rw [e] at p; exact p
    refine (lf.bind er sr p0).imp fun x H1 ⟨φ1, S1, ds, e1, sr1, r1, p1⟩ => ?_
    split at p1
    · rename_i i j
      split at p1
      · rename_i hj
        cases r1 with
        | cons a b =>
          cases b with
          | cons c d =>
            cases d
            cases a
            cases c
            exact ⟨i, j, rfl, of_gd hj, p1 φ1 H1 _ Ext.rfl' sr1 ItR.rng⟩
      · exact p1.elim
    · exact p1.elim
theorem di_zip (h : PI X tg iter (RZ.iZipA X.K (lA X.K W ga))) : DI X W tg iter (iZip ga) :=
  pi_wk h fun σ H Q ⟨φ, ρ, S, er, sr, p⟩ => (lf.bind er sr p).imp fun x H1 ⟨φ1, S1, ds, e1, sr1, r1, p1⟩ => by
    split at p1
    · rename_i xs ys
      cases r1 with
      | cons a b =>
        cases b with
        | cons c d =>
          cases d
          cases a with
          | tup ta ra =>
            cases c with
            | tup tb rb =>
              refine ⟨_, _, _, _, rfl, .inr ⟨ta, tb, p1 φ1 H1 _ Ext.rfl' sr1 fun i φ S H ex sr => ?_⟩⟩
              have ta' := ex.sqT ta
              have tb' := ex.sqT tb
              have ra' := ra.mono ex
              have rb' := rb.mono ex
              unfold Itd.at'
              simp only
              cases ea : xs[i]? with
              | none => exact ⟨_, _, ta', tb', .inl (by rw [ra'.length]; exact List.getElem?_eq_none_iff.mp ea)⟩
              | some x =>
                cases eb : ys[i]? with
                | none => exact ⟨_, _, ta', tb', .inr (by rw [rb'.length]; exact List.getElem?_eq_none_iff.mp eb)⟩
                | some y =>
                  obtain ⟨v, hv, rv⟩ := ra'.get ea
                  obtain ⟨u, hu, ru⟩ := rb'.get eb
                  refine ⟨⟨_, _, v, u, ta', tb', hv, hu⟩, fun x H' hh => ?_⟩
                  obtain ⟨T, x1, y1, rfl, hT, rfl, f1, f2⟩ := hh
                  have g1 := f1 _ ta'
                  have g2 := f2 _ tb'
                  rw [hv] at g1; cases g1
                  rw [hu] at g2; cases g2
                  exact ⟨Ext.new hT, sr.new hT, .tup (.of upd_same) (.cons (rv.mono (Ext.new hT)) (.cons (ru.mono (Ext.new hT)) .nil))⟩
    · rename_i n m
      split at p1
      · rename_i xs0 ys0 hx0 hy0
        cases r1 with
        | cons a b =>
          cases b with
          | cons c d =>
            cases d
            cases a with
            | ob na =>
              cases c with
              | ob nb =>
                obtain ⟨us, g, _⟩ := sr1.lst na hx0
                obtain ⟨ws, g2, _⟩ := sr1.lst nb hy0
                refine ⟨_, _, us, ws, rfl, .inl ⟨.of g, .of g2, p1 φ1 H1 _ Ext.rfl' sr1 fun i φ S H ex sr => ?_⟩⟩
                have na' := ex.pre _ _ na
                have nb' := ex.pre _ _ nb
                cases e1 : S[n]? with
                | none => simp only [Itd.at', e1]
                | some o1 =>
                  cases o1 with
                  | dic _ => simp only [Itd.at', e1]
                  | lst xs =>
                    cases e2 : S[m]? with
                    | none => simp only [Itd.at', e1, e2]
                    | some o2 =>
                      cases o2 with
                      | dic _ => simp only [Itd.at', e1, e2]
                      | lst ys =>
                        obtain ⟨us, ga, ra'⟩ := sr.lst na' e1
                        obtain ⟨ws, gb, rb'⟩ := sr.lst nb' e2
                        simp only [Itd.at', e1, e2]
                        cases ea : xs[i]? with
                        | none => exact ⟨us, ws, .of ga, .of gb, .inl (by rw [ra'.length]; exact List.getElem?_eq_none_iff.mp ea)⟩
                        | some x =>
                          cases eb : ys[i]? with
                          | none => exact ⟨us, ws, .of ga, .of gb, .inr (by rw [rb'.length]; exact List.getElem?_eq_none_iff.mp eb)⟩
                          | some y =>
                            obtain ⟨v, hv, rv⟩ := ra'.get ea
                            obtain ⟨u, hu, ru⟩ := rb'.get eb
                            refine ⟨⟨us, ws, v, u, .of ga, .of gb, hv, hu⟩, fun x H' hh => ?_⟩
                            obtain ⟨T, x1, y1, rfl, hT, rfl, f1, f2⟩ := hh
                            have g1 := f1 us (.of ga)
                            have g2 := f2 ws (.of gb)
                            rw [hv] at g1; cases g1
                            rw [hu] at g2; cases g2
                            exact ⟨Ext.new hT, sr.new hT, .tup (.of upd_same) (.cons (rv.mono (Ext.new hT)) (.cons (ru.mono (Ext.new hT)) .nil))⟩
      · exact p1.elim
    · exact p1.elim
theorem di_rng1 (h : PI X tg iter (iRng1 (lA X.K W ga))) (hl : aLen ga 1) : DI X W tg iter (iRng ga) :=
  pi_wk h fun σ H Q ⟨φ, ρ, S, er, sr, p⟩ => by
    have p0 : post (ItR X.K) X.K W φ H σ Q ((ga ρ S).bind fun ds S1 => match ds with
        | [.int j] => if gd (-(2 ^ 62) ≤ j ∧ j < 2 ^ 62) then .ok (.rng 0 j.toNat) S1 else .no
        | _ => .no) := by
      unfold iRng at p
      cases e : ga ρ S with
      | ok ds S1 =>
        rw [e] at p
        have l1 := hl _ _ _ _ e
        match ds, l1 with
        | [d], _ => cases d <;> exact p
      | ex c S1 => rw [e] at p; exact p
      | no => rw [e] at p; exact p
    refine (lf.bind er sr p0).imp fun x H1 ⟨φ1, S1, ds, e1, sr1, r1, p1⟩ => ?_
    split at p1
    · rename_i j
      split at p1
      · rename_i hj
        cases r1 with
        | cons a b =>
          cases b
          cases a
          exact ⟨j, rfl, (of_gd hj).1, (of_gd hj).2, p1 φ1 H1 _ Ext.rfl' sr1 ItR.rng⟩
      · exact p1.elim
    · exact p1.elim
end
end DL
set_option Elab.async false
set_option linter.all false
set_option maxRecDepth 100000
noncomputable section
namespace DL
open PySem PySem.Spec PyProof.Rows L2

/-! ### blocks -/
inductive SR where
  | nx (ρ : Lc) (S : Sto)
  | rt (d : D) (S : Sto)
  | bk (ρ : Lc) (S : Sto)
  | ct (ρ : Lc) (S : Sto)
  | ex (c : Addr) (ρ : Lc) (S : Sto)
  | no
abbrev SF := Lc → Sto → SR
def Res.sb {α : Type} (r : Res α) (ρ : Lc) (k : α → Sto → SR) : SR :=
  match r with
  | .ok a S => k a S
  | .ex c S => .ex c ρ S
  | .no => .no
section
variable (K : PySem.W.Frag) (W : WX)
def postS (φ : List Addr) (H : Hp) (N : Ends) : SR → Prop
  | .nx ρ S => ∀ φ' σ' H', Ext φ H φ' H' → Sr K φ' S H' → Er K φ' H' σ' ρ → N.nx σ' H'
  | .rt d S => ∀ φ' H' v, Ext φ H φ' H' → Sr K φ' S H' → Rp K φ' H' v d → N.rt v H'
  | .bk ρ S => ∀ φ' σ' H', Ext φ H φ' H' → Sr K φ' S H' → Er K φ' H' σ' ρ → N.bk σ' H'
  | .ct ρ S => ∀ φ' σ' H', Ext φ H φ' H' → Sr K φ' S H' → Er K φ' H' σ' ρ → N.ct σ' H'
  | .ex c ρ S => ∀ φ' σ' H', Ext φ H φ' H' → Sr K φ' S H' → Er K φ' H' σ' ρ → W (.ref c) none σ' H'
  | .no => False
def lS (f : SF) : TS := fun N σ H => ∃ φ ρ S, Er K φ H σ ρ ∧ Sr K φ S H ∧ postS K W φ H N (f ρ S)
end
section
variable {K : PySem.W.Frag} {W : WX} {φ φ1 : List Addr} {H H1 : Hp} {σ : L2.St} {N : Ends}
theorem postS.mono (e : Ext φ H φ1 H1) : ∀ {r : SR}, postS K W φ H N r → postS K W φ1 H1 N r
  | .nx _ _, h => fun φ' σ' H' e' => h φ' σ' H' (e.trans e')
  | .rt _ _, h => fun φ' v' H' e' => h φ' v' H' (e.trans e')
  | .bk _ _, h => fun φ' σ' H' e' => h φ' σ' H' (e.trans e')
  | .ct _ _, h => fun φ' σ' H' e' => h φ' σ' H' (e.trans e')
  | .ex _ _ _, h => fun φ' σ' H' e' => h φ' σ' H' (e.trans e')
  | .no, h => h
theorem lf.sb {α β : Type} {R : Rl α β} {f : Lc → Sto → Res α} {k : α → Sto → SR} {ρ : Lc} {S : Sto} (er : Er K φ H σ ρ) (sr : Sr K φ S H) (p : postS K W φ H N ((f ρ S).sb ρ k)) :
    lf R K W f σ H fun x H1 => ∃ φ1 S1 a, Ext φ H φ1 H1 ∧ Sr K φ1 S1 H1 ∧ R φ1 H1 x a ∧ postS K W φ1 H1 N (k a S1) := by
  refine ⟨φ, ρ, S, er, sr, ?_⟩
  cases e : f ρ S with
  | ok a S1 =>
    rw [e] at p
    exact fun φ' H' x e' s r => ⟨φ', S1, a, e', s, r, postS.mono e' p⟩
  | ex c S1 => rw [e] at p; exact fun φ' H' e' s => p φ' σ H' e' s (er.mono e')
  | no => rw [e] at p; exact p
end
def DS (X : Cx) (W : WX) (st : Stmt) (f : SF) : Prop := PS X st (lS X.K W f)
def DSs (X : Cx) (W : WX) (st : List Stmt) (f : SF) : Prop := PSs X st (lS X.K W f)
def sNil : SF := fun ρ S => .nx ρ S
def sSeq (a b : SF) : SF := fun ρ S => match a ρ S with
  | .nx ρ' S' => b ρ' S'
  | r => r
def sAsg (t : Tg) (a : EF) : SF := fun ρ S => (a ρ S).sb ρ fun d S1 => match t.put d ρ S1 with
  | some ρ' => .nx ρ' S1
  | none => .no
def sPar (i j : Nat) (a : AF) : SF := fun ρ S => (a ρ S).sb ρ fun ds S1 => match ds with
  | [x, y] => .nx ((ρ.set i (some x)).set j (some y)) S1
  | _ => .no
def sPar3 (i j l : Nat) (a : AF) : SF := fun ρ S => (a ρ S).sb ρ fun ds S1 => match ds with
  | [x, y, z] => .nx (((ρ.set i (some x)).set j (some y)).set l (some z)) S1
  | _ => .no
def sSub (o i a : EF) : SF := fun ρ S => (a ρ S).sb ρ fun d S1 => (o ρ S1).sb ρ fun l S2 => (i ρ S2).sb ρ fun k S3 => match l, k with
  | .ob n, .int k => (match S3[n]? with
    | some (.lst xs) => (match ixN xs.length k with
      | some j => .nx ρ (S3.set n (.lst (xs.set j d)))
      | none => .no)
    | _ => .no)
  | _, _ => .no
def sExpr (a : EF) : SF := fun ρ S => (a ρ S).sb ρ fun _ S1 => .nx ρ S1
def sRet (a : EF) : SF := fun ρ S => (a ρ S).sb ρ fun d S1 => .rt d S1
def sRetN : SF := fun _ S => .rt .non S
def sIf (c : TF) (a b : SF) : SF := fun ρ S => (c ρ S).sb ρ fun k S1 => if k = true then a ρ S1 else b ρ S1
def sNo : SF := fun _ _ => .no
def sBrk : SF := fun ρ S => .bk ρ S
def sCnt : SF := fun ρ S => .ct ρ S
section
variable {X : Cx} {W : WX} {st : Stmt} {rest : List Stmt} {f g : SF} {e c : Expr} {fa : EF} {ga : AF} {gt : TF} {pos : Pos}
theorem dss_nil : DSs X W [] sNil := pss_wk pss_nil fun N σ H ⟨φ, ρ, S, er, sr, p⟩ => p φ σ H Ext.rfl' sr er
theorem dss_one (h : DS X W st f) : DSs X W [st] f := pss_one h
theorem dss_cons (h : DS X W st f) (h2 : DSs X W rest g) : DSs X W (st :: rest) (sSeq f g) := pss_wk (pss_cons h h2) fun N σ H ⟨φ, ρ, S, er, sr, p⟩ => by
  refine ⟨φ, ρ, S, er, sr, ?_⟩
  unfold sSeq at p
  cases e : f ρ S with
  | nx ρ' S' =>
    rw [e] at p
    exact fun φ' σ' H' e' s' er' => ⟨φ', ρ', S', er', s', postS.mono e' p⟩
  | rt d S' => rw [e] at p; exact p
  | bk ρ' S' => rw [e] at p; exact p
  | ct ρ' S' => rw [e] at p; exact p
  | ex c ρ' S' => rw [e] at p; exact p
  | no => rw [e] at p; exact p
theorem ds_no : DS X W st sNo := ps_wk ps_never fun N σ H ⟨φ, ρ, S, er, sr, p⟩ => p
theorem dss_no : DSs X W rest sNo := pss_wk pss_never fun N σ H ⟨φ, ρ, S, er, sr, p⟩ => p
theorem ds_pass : DS X W (.Pass pos) sNil := ps_wk ps_pass fun N σ H ⟨φ, ρ, S, er, sr, p⟩ => p φ σ H Ext.rfl' sr er
theorem ds_break : DS X W (.Break pos) sBrk := ps_wk ps_break fun N σ H ⟨φ, ρ, S, er, sr, p⟩ => p φ σ H Ext.rfl' sr er
theorem ds_cont : DS X W (.Continue pos) sCnt := ps_wk ps_continue fun N σ H ⟨φ, ρ, S, er, sr, p⟩ => p φ σ H Ext.rfl' sr er
theorem ds_asg {t : Tg} (h : PS X st (L2.tAsg (lE X.K W fa) (gOf X.K t))) : DS X W st (sAsg t fa) := ps_wk h fun N σ H ⟨φ, ρ, S, er, sr, p⟩ =>
  (lf.sb er sr p).imp fun x H1 ⟨φ1, S1, d, e1, sr1, r1, p1⟩ => by
    split at p1
    · rename_i ρ' hp
      exact gOf_ok sr1 t x d σ ρ ρ' N.nx (er.mono e1) r1 hp fun σ' er' _ => p1 φ1 σ' H1 Ext.rfl' sr1 er'
    · exact p1.elim
theorem ds_par {i j : Nat} (h : PS X st (tPar i j (lA X.K W ga))) : DS X W st (sPar i j ga) := ps_wk h fun N σ H ⟨φ, ρ, S, er, sr, p⟩ =>
  (lf.sb er sr p).imp fun xs H1 ⟨φ1, S1, ds, e1, sr1, r1, p1⟩ => by
    split at p1
    · cases r1 with
      | cons a b =>
        cases b with
        | cons c d =>
          cases d
          exact ⟨_, _, rfl, p1 φ1 _ H1 Ext.rfl' sr1 (((er.mono e1).set a i).set c j)⟩
    · exact p1.elim
theorem ds_par3 {i j l : Nat} (h : PS X st (tPar3 i j l (lA X.K W ga))) : DS X W st (sPar3 i j l ga) := ps_wk h fun N σ H ⟨φ, ρ, S, er, sr, p⟩ =>
  (lf.sb er sr p).imp fun xs H1 ⟨φ1, S1, ds, e1, sr1, r1, p1⟩ => by
    split at p1
    · cases r1 with
      | cons a b =>
        cases b with
        | cons c d =>
          cases d with
          | cons f g =>
            cases g
            exact ⟨_, _, _, rfl, p1 φ1 _ H1 Ext.rfl' sr1 ((((er.mono e1).set a i).set c j).set f l)⟩
    · exact p1.elim
theorem ds_sub {fo fi : EF} (h : PS X st (L2.tAsg (lE X.K W fa) (gSub (lE X.K W fo) (lE X.K W fi) rSetL))) : DS X W st (sSub fo fi fa) := ps_wk h fun N σ H ⟨φ, ρ, S, er, sr, p⟩ =>
  (lf.sb er sr p).imp fun x H1 ⟨φ1, S1, d, e1, sr1, r1, p1⟩ => (lf.sb (er.mono e1) sr1 p1).imp fun o H2 ⟨φ2, S2, l, e2, sr2, r2, p2⟩ =>
    (lf.sb ((er.mono e1).mono e2) sr2 p2).imp fun i H3 ⟨φ3, S3, k, e3, sr3, r3, p3⟩ => by
      split at p3
      · split at p3
        · rename_i xs hx
          split at p3
          · rename_i j hj
            cases r3
            cases r2 with
            | ob hn =>
              have hn3 := e3.pre _ _ hn
              obtain ⟨us, g, rs⟩ := sr3.lst hn3 hx
              refine ⟨_, us, _, j, rfl, rfl, g, by rw [rs.length]; exact hj, ?_⟩
              have ex : Ext φ3 H3 φ3 (upd H3 _ (.lst (us.set j x))) := Ext.put (by rw [g]; trivial)
              exact p3 φ3 σ _ ex (sr3.put hn3 ⟨_, upd_same, (rs.set ((r1.mono e2).mono e3) j).mono ex⟩) ((((er.mono e1).mono e2).mono e3).mono ex)
          · exact p3.elim
        · exact p3.elim
      · exact p3.elim
theorem ds_expr (h : PS X st (tDrop (lE X.K W fa))) : DS X W st (sExpr fa) := ps_wk h fun N σ H ⟨φ, ρ, S, er, sr, p⟩ =>
  (lf.sb er sr p).imp fun x H1 ⟨φ1, S1, d, e1, sr1, r1, p1⟩ => p1 φ1 σ H1 Ext.rfl' sr1 (er.mono e1)
theorem ds_ret (h : DE X W e fa) : DS X W (.Return (some e) pos) (sRet fa) := ps_wk (ps_ret h) fun N σ H ⟨φ, ρ, S, er, sr, p⟩ =>
  (lf.sb er sr p).imp fun x H1 ⟨φ1, S1, d, e1, sr1, r1, p1⟩ => p1 φ1 H1 x Ext.rfl' sr1 r1
theorem ds_retN : DS X W (.Return none pos) sRetN := ps_wk ps_retN fun N σ H ⟨φ, ρ, S, er, sr, p⟩ => p φ H .non Ext.rfl' sr .non
theorem ds_if {a b : List Stmt} (hc : DT X W c gt) (ha : DSs X W a f) (hb : DSs X W b g) : DS X W (.If c a b pos) (sIf gt f g) := ps_wk (ps_if hc ha hb) fun N σ H ⟨φ, ρ, S, er, sr, p⟩ =>
  (lf.sb er sr p).imp fun k H1 ⟨φ1, S1, k', e1, sr1, r1, p1⟩ => by
    cases r1
    split
    · rename_i h; rw [if_pos h] at p1; exact ⟨φ1, ρ, S1, er.mono e1, sr1, p1⟩
    · rename_i h; rw [if_neg h] at p1; exact ⟨φ1, ρ, S1, er.mono e1, sr1, p1⟩
end

/-! ### loops -/
def whGo (c : TF) (b : SF) : Nat → SF
  | n, ρ, S => (c ρ S).sb ρ fun k S1 => if k = true then
      (match n with
      | 0 => .no
      | n + 1 => match b ρ S1 with
        | .nx ρ' S' => whGo c b n ρ' S'
        | .ct ρ' S' => whGo c b n ρ' S'
        | .bk ρ' S' => .nx ρ' S'
        | r => r)
    else .nx ρ S1
def sWh (fuel : Lc → Sto → Nat) (c : TF) (b : SF) : SF := fun ρ S => whGo c b (fuel ρ S) ρ S
def forGo (it : Itd) (t : Tg) (b : SF) : Nat → Nat → SF
  | n, i, ρ, S => match it.at' i S with
    | none => .no
    | some none => .nx ρ S
    | some (some d) => match n with
      | 0 => .no
      | n + 1 => match t.put d ρ S with
        | none => .no
        | some ρ1 => match b ρ1 S with
          | .nx ρ' S' => forGo it t b n (i + 1) ρ' S'
          | .ct ρ' S' => forGo it t b n (i + 1) ρ' S'
          | .bk ρ' S' => .nx ρ' S'
          | r => r
def sFor (a : IF) (t : Tg) (b : SF) : SF := fun ρ S => (a ρ S).sb ρ fun it S1 => forGo it t b (it.size S1) 0 ρ S1
section
variable {X : Cx} {W : WX} {f : SF} {iter tg c : Expr} {body : List Stmt} {gi : IF} {gt : TF} {pos : Pos}
/-- the body's ends within a loop -/
theorem postS_in {φ : List Addr} {H : Hp} {N : Ends} {M : L2.St → Hp → Prop} {r : SR} {k : Lc → Sto → SR}
    (hM : ∀ φ' σ' H' ρ' S', Ext φ H φ' H' → Sr X.K φ' S' H' → Er X.K φ' H' σ' ρ' → postS X.K W φ' H' N (k ρ' S') → M σ' H')
    (p : postS X.K W φ H N (match r with | .nx ρ' S' => k ρ' S' | .ct ρ' S' => k ρ' S' | .bk ρ' S' => .nx ρ' S' | r => r)) : postS X.K W φ H { N with nx := M, ct := M, bk := N.nx } r := by
  cases r with
  | nx ρ' S' => exact fun φ' σ' H' e s er => hM φ' σ' H' ρ' S' e s er (postS.mono e p)
  | ct ρ' S' => exact fun φ' σ' H' e s er => hM φ' σ' H' ρ' S' e s er (postS.mono e p)
  | bk ρ' S' => exact p
  | rt d S' => exact p
  | ex c ρ' S' => exact p
  | no => exact p
theorem ds_while {fuel : Lc → Sto → Nat} (h : PS X (.While c body [] pos) (tWhile (lT X.K W gt) (lS X.K W f))) : DS X W (.While c body [] pos) (sWh fuel gt f) := ps_wk h fun N σ H ⟨φ, ρ, S, er, sr, p⟩ => by
  refine ⟨fun n σ H => ∃ φ ρ S, Er X.K φ H σ ρ ∧ Sr X.K φ S H ∧ postS X.K W φ H N (whGo gt f n ρ S), ⟨fuel ρ S, φ, ρ, S, er, sr, p⟩, ?_⟩
  rintro n σ H ⟨φ, ρ, S, er, sr, p⟩
  unfold whGo at p
  refine (lf.sb er sr p).imp fun k H1 ⟨φ1, S1, k', e1, sr1, r1, p1⟩ => ?_
  cases r1
  split
  · rename_i hk
    rw [if_pos hk] at p1
    cases n with
    | zero => exact p1.elim
    | succ n =>
      refine ⟨fun σ' H' => ∃ φ ρ S, Er X.K φ H' σ' ρ ∧ Sr X.K φ S H' ∧ postS X.K W φ H' N (whGo gt f n ρ S), fun σ' H' w => ⟨n, Nat.lt_succ_self n, w⟩, φ1, ρ, S1, er.mono e1, sr1, ?_⟩
      exact postS_in (k := whGo gt f n) (fun φ' σ' H' ρ' S' _ s er q => ⟨φ', ρ', S', er, s, q⟩) p1
  · rename_i hk
    rw [if_neg hk] at p1
    exact p1 φ1 σ H1 Ext.rfl' sr1 (er.mono e1)
theorem ds_for {t : Tg} (h : PS X (.For tg iter body [] pos) (L2.tFor (lf (ItR X.K) X.K W gi) (gOf X.K t) (lS X.K W f))) : DS X W (.For tg iter body [] pos) (sFor gi t f) := ps_wk h fun N σ H ⟨φ, ρ, S, er, sr, p⟩ =>
  (lf.sb er sr p).imp fun J H1 ⟨φ1, S1, it, e1, sr1, r1, p1⟩ => by
    refine ⟨fun i n σ H => ∃ φ ρ S, Ext φ1 H1 φ H ∧ Er X.K φ H σ ρ ∧ Sr X.K φ S H ∧ postS X.K W φ H N (forGo it t f n i ρ S), ⟨it.size S1, φ1, ρ, S1, Ext.rfl', er.mono e1, sr1, p1⟩, ?_⟩
    rintro i n σ H ⟨φ, ρ, S, ex, er, sr, p⟩
    have J1 := r1 i φ S H ex sr
    unfold forGo at p
    cases ha : it.at' i S with
    | none => rw [ha] at p; exact p.elim
    | some o =>
      rw [ha] at p J1
      cases o with
      | none => exact .inl ⟨J1, p φ σ H Ext.rfl' sr er⟩
      | some d =>
        obtain ⟨go, yld⟩ := J1
        cases n with
        | zero => exact p.elim
        | succ n =>
          refine .inr ⟨go, fun σ' H' => ∃ φ ρ S, Ext φ1 H1 φ H' ∧ Er X.K φ H' σ' ρ ∧ Sr X.K φ S H' ∧ postS X.K W φ H' N (forGo it t f n (i + 1) ρ S), fun σ' H' w => ⟨n, Nat.lt_succ_self n, w⟩, fun x H' hy => ?_⟩
          obtain ⟨ex2, sr2, rx⟩ := yld x H' hy
          simp only at p
          split at p
          · exact p.elim
          · rename_i ρ1 hp
            refine gOf_ok sr2 t x d σ ρ ρ1 _ (er.mono ex2) rx hp fun σ' er' _ => ⟨φ, ρ1, S, er', sr2, ?_⟩
            exact postS_in (k := forGo it t f n (i + 1)) (fun φ' σ' H'' ρ' S' e' s er q => ⟨φ', ρ', S', (ex.trans ex2).trans e', er, s, q⟩) (postS.mono ex2 p)
end

/-! ### comprehensions -/
theorem wipe_wipe {σ : L2.St} {vs : List Nat} : wipe (wipe σ vs) vs = wipe σ vs := by
  refine List.ext_getElem? fun i => ?_
  rw [wipe_at, wipe_length]
  by_cases hc : i ∈ vs ∧ i < σ.length
  · rw [if_pos hc, wipe_at, if_pos hc]
  · rw [if_neg hc]
def wipeD (ρ : Lc) : List Nat → Lc
  | [] => ρ
  | v :: vs => (wipeD ρ vs).set v none
theorem Er.wipe {K : PySem.W.Frag} {φ : List Addr} {H : Hp} {σ : L2.St} {ρ : Lc} (er : Er K φ H σ ρ) : ∀ vs, Er K φ H (wipe σ vs) (wipeD ρ vs)
  | [] => er
  | v :: vs => by
    have ih := er.wipe vs
    refine ⟨by simp [L2.wipe, wipeD, ih.len], fun i d h => ?_⟩
    unfold wipeD at h
    unfold L2.wipe
    rw [List.getElem?_set] at h ⊢
    by_cases hv : v = i
    · rw [if_pos hv] at h
      split at h <;> cases h
    · rw [if_neg hv] at h ⊢
      exact ih.at' i d h
def lcGo (it : Itd) (t : Tg) (c : TF) (e : EF) (ρ : Lc) (k : Nat) : Nat → Nat → Sto → Res D
  | n, i, S => match it.at' i S with
    | none => .no
    | some none => .ok (.ob k) S
    | some (some d) => match n with
      | 0 => .no
      | n + 1 => match t.put d ρ S with
        | none => .no
        | some ρ1 => match c ρ1 S with
          | .ok false S2 => lcGo it t c e ρ k n (i + 1) S2
          | .ok true S2 => (match e ρ1 S2 with
            | .ok y S3 => (match S3[k]? with
              | some (.lst acc) => if szOk acc.length then lcGo it t c e ρ k n (i + 1) (S3.set k (.lst (acc ++ [y]))) else .no
              | _ => .no)
            | _ => .no)
          | _ => .no
def eLc (a : IF) (t : Tg) (c : TF) (e : EF) (own : List Nat) : EF := fun ρ S => (a ρ S).bind fun it S1 => lcGo it t c e (wipeD ρ own) S1.length (it.size S1) 0 (S1 ++ [.lst []])
def cYes : TF := fun _ S => .ok true S
section
variable {X : Cx} {W : WX} {w : Expr} {gi : IF} {gt : TF} {fe : EF} {t : Tg} {own : List Nat}
theorem tLc_of (ho : ∀ j ∈ t.slots, j ∈ own) : ∀ σ H Q, lE X.K W (eLc gi t gt fe own) σ H Q → L2.tLc (lf (ItR X.K) X.K W gi) (gOf X.K t) (lT X.K wF gt) (lE X.K wF fe) own σ H Q := fun σ H Q ⟨φ, ρ, S, er, sr, p⟩ =>
  (lf.bind er sr p).imp fun J H1 ⟨φ1, S1, it, e1, sr1, r1, p1⟩ => fun Dn hD => by
    have eD := Ext.newSnoc (φ := φ1) (o := .lst []) hD
    have srD := sr1.snoc (o := .lst []) (u := .lst []) hD ⟨[], upd_same, .nil⟩
    refine ⟨fun i n H => ∃ φ S, Ext φ1 H1 φ H ∧ φ[S1.length]? = some Dn ∧ Sr X.K φ S H ∧ post (Rp X.K) X.K W φ H σ Q (lcGo it t gt fe (wipeD ρ own) S1.length n i S),
      ⟨it.size S1, φ1 ++ [Dn], _, eD, at_snoc sr1 Dn, srD, post.mono eD p1⟩, ?_⟩
    rintro i n H ⟨φ, S, ex, hk, sr, p⟩
    have J1 := r1 i φ S H ex sr
    unfold lcGo at p
    cases ha : it.at' i S with
    | none => rw [ha] at p; exact p.elim
    | some o =>
      rw [ha] at p J1
      cases o with
      | none => exact .inl ⟨J1, p φ H _ Ext.rfl' sr (.ob hk)⟩
      | some d =>
        obtain ⟨go, yld⟩ := J1
        cases n with
        | zero => exact p.elim
        | succ n =>
          refine .inr ⟨go, fun H' => ∃ φ S, Ext φ1 H1 φ H' ∧ φ[S1.length]? = some Dn ∧ Sr X.K φ S H' ∧ post (Rp X.K) X.K W φ H' σ Q (lcGo it t gt fe (wipeD ρ own) S1.length n (i + 1) S), fun H' w => ⟨n, Nat.lt_succ_self n, w⟩, fun x H' hy => ?_⟩
          obtain ⟨ex2, sr2, rx⟩ := yld x H' hy
          simp only at p
          split at p
          · exact p.elim
          · rename_i ρ1 hp
            have erw := ((er.mono e1).mono (ex.trans ex2)).wipe own
            refine gOf_ok sr2 t x d (wipe σ own) (wipeD ρ own) ρ1 _ erw rx hp fun σ2 er2 sb => ⟨(sb.mono ho).wipe.trans wipe_wipe, φ, ρ1, S, er2, sr2, ?_⟩
            split at p
            · rename_i S2 hc
              rw [hc]
              intro φ3 H3 b e3 sr3 hb
              cases hb
              rw [if_neg Bool.false_ne_true]
              exact ⟨φ3, S2, (ex.trans ex2).trans e3, e3.pre _ _ hk, sr3, post.mono (ex2.trans e3) p⟩
            · rename_i S2 hc
              rw [hc]
              intro φ3 H3 b e3 sr3 hb
              cases hb
              rw [if_pos rfl]
              refine ⟨φ3, ρ1, S2, er2.mono e3, sr3, ?_⟩
              split at p
              · rename_i y S3 hy
                rw [hy]
                intro φ4 H4 yv e4 sr4 ry
                split at p
                · rename_i acc hacc
                  split at p
                  · rename_i hz
                    have hk4 := e4.pre _ _ (e3.pre _ _ hk)
                    obtain ⟨us, g, rs⟩ := sr4.lst hk4 hacc
                    refine ⟨us, g, by rw [rs.length]; exact szOk.lt hz, ?_⟩
                    have ex5 : Ext φ4 H4 φ4 (upd H4 Dn (.lst (us ++ [yv]))) := Ext.put (by rw [g]; trivial)
                    exact ⟨φ4, _, (((ex.trans ex2).trans e3).trans e4).trans ex5, hk4, sr4.put (u := .lst (acc ++ [y])) hk4 ⟨_, upd_same, (rs.append (.cons ry .nil)).mono ex5⟩, post.mono (((ex2.trans e3).trans e4).trans ex5) p⟩
                  · exact p.elim
                · exact p.elim
              · exact p.elim
            · exact p.elim
theorem de_lc {own' : List (Str × Nat)} (h : PE X w (L2.tLc (lf (ItR X.K) X.K W gi) (gOf X.K t) (lT X.K wF gt) (lE X.K wF fe) (own'.map (·.2)))) (ho : ∀ j ∈ t.slots, j ∈ own'.map (·.2)) : DE X W w (eLc gi t gt fe (own'.map (·.2))) :=
  pe_wk h (tLc_of ho)
/-- a comprehension without a test: its test as the hand layer has it -/
theorem tYes_of : ∀ σ H Q, lT X.K W cYes σ H Q → tYes σ H Q := fun σ H Q ⟨φ, ρ, S, er, sr, p⟩ => p φ H true Ext.rfl' sr rfl
end
/-! ### a def -/
def runF (N n : Nat) (b : SF) : FF := fun ds S => match b (ds.map some ++ List.replicate (N - n) none) S with
  | .rt d S' => .ok d S'
  | .nx _ S' => .ok .non S'
  | _ => .no
theorem start_er {K : PySem.W.Frag} {φ : List Addr} {H : Hp} {N : List Str} {vs : List V} {ds : List D} (r : Rps K φ H vs ds) {n : Nat} (hn : vs.length = n) : Er K φ H (L2.start N vs) (ds.map some ++ List.replicate (N.length - n) none) := by
  subst hn
  refine ⟨by simp [L2.start, r.length], fun i d h => ?_⟩
  by_cases hi : i < ds.length
  · rw [List.getElem?_append_left (by simpa using hi), List.getElem?_map] at h
    cases e : ds[i]? with
    | none => rw [e] at h; cases h
    | some d' =>
      rw [e] at h
      cases h
      obtain ⟨v, hv, rv⟩ := r.get e
      refine ⟨v, ?_, rv⟩
      unfold L2.start
      rw [List.getElem?_append_left (by simpa [r.length] using hi), List.getElem?_map, hv]
      rfl
  · rw [List.getElem?_append_right (by simpa using hi), List.getElem?_replicate] at h
    split at h <;> cases h
theorem fn_ok {P : Program} {w : World} {K : PySem.W.Frag} {mg : Str → Option Value} {base : Heap} {x qual : Str} {st : Stmt} {f : Addr} {fd : FuncData} {N ps : List Str} {k : Nat} {b : SF} (F : Fun K x qual st f fd) (S : FnScope N ps (defScope st))
    (hb : ∀ (cdv : Value) (A : Around) (outer : List Env) (s : Shared) (H : Hp) (E : XK), Room k (A.deeper (envOfC qual (defScope st) s.heap.objs.size f cdv)) →
      DSs (cxOf CX0 P w K mg base N qual (defScope st) f cdv A outer s H E).nox wF (defBody st) b) :
    FnOk P w K mg base CX0 (k + 1) f fd ps (spF K ps.length (runF N.length ps.length b)) := by
  refine F.ok S (fun vs H Q E h => h.1) (fun cdv A outer s H vs Q E hr h => ?_)
  obtain ⟨hl, φ, ds, S0, rs, sr, p⟩ := h
  refine ⟨_, hb cdv A outer s H E hr, φ, _, S0, start_er rs hl, sr, ?_⟩
  unfold runF at p
  split at p
  · rename_i d S' e
    rw [e]
    exact fun φ' H' v e' s' r' => p φ' H' v e' s' r'
  · rename_i ρ S' e
    rw [e]
    exact fun φ' σ' H' e' s' r' => p φ' H' .non e' s' .non
  · exact p.elim
end DL
set_option Elab.async false
set_option linter.all false
set_option maxRecDepth 100000
noncomputable section
namespace DL
open PySem PySem.Spec PyProof.Rows L2

section
variable {X : Cx} {W : WX} {e tg iter : Expr} {es : List Expr} {fa : EF} {ga : AF} {pos : Pos}
theorem de_callB {w : Expr} {r : List V → Hp → VK → Prop} {c : FF} (h : PE X w (tCB r (lA X.K W ga))) (hc : Cal X.K r c) : DE X W w (eB c ga) := pe_wk h (tCB_of hc)
/-- targets -/
theorem dg_nm {i : Nat} {t : Expr} (h : PG X t (gName i)) : PG X t (gOf X.K (.nm i)) := by unfold gOf; exact h
theorem dg_tp {ts : List Tg} {t : Expr} (h : PG X t (gTup X.K ts.length (gsOf X.K ts))) : PG X t (gOf X.K (.tp ts)) := by unfold gOf; exact h
theorem dg_ls {ts : List Tg} {t : Expr} (h : PG X t (gLst X.K ts.length (gsOf X.K ts))) : PG X t (gOf X.K (.ls ts)) := by unfold gOf; exact h
theorem dgs_nil : PGs X [] (gsOf X.K []) := by unfold gsOf; exact pgs_nil
theorem dgs_cons {t : Tg} {ts : List Tg} (h : PGs X (e :: es) (gCons (gOf X.K t) (gsOf X.K ts))) : PGs X (e :: es) (gsOf X.K (t :: ts)) := by unfold gsOf; exact h
theorem dts_nil : PTs X [] (lT X.K W cYes) := ⟨fun pins s σ H Q I z => pts_nil.run pins s σ H Q I (tYes_of σ H Q z)⟩
theorem dts_one {gt : TF} (h : DT X W e gt) : PTs X [e] (lT X.K W gt) := pts_one h
theorem ds_setLc {st : Stmt} {i : Nat} {gi : IF} {gt : TF} {fe : EF} {t : Tg} {own' : List (Str × Nat)} (h : PS X st (L2.tAsg (L2.tLc (lf (ItR X.K) X.K W gi) (gOf X.K t) (lT X.K wF gt) (lE X.K wF fe) (own'.map (·.2))) (gName i))) (ho : ∀ j ∈ t.slots, j ∈ own'.map (·.2)) :
    DS X W st (sAsg (.nm i) (eLc gi t gt fe (own'.map (·.2)))) :=
  ds_asg (ps_wk h fun N σ H z => tLc_of ho σ H _ (z.imp fun x H1 q => by unfold gOf at q; exact q))
def eNeg (a : EF) : EF := fun ρ S => (a ρ S).bind fun d S1 => match d with | .int i => .ok (.int (-i)) S1 | _ => .no
theorem de_neg (h : DE X W e fa) : DE X W (.UnaryOp .USub e pos) (eNeg fa) := pe_wk (pe_un un_neg h) fun σ H Q ⟨φ, ρ, S, er, sr, p⟩ =>
  (lf.bind er sr p).imp fun x H1 ⟨φ1, S1, d, e1, sr1, r1, p1⟩ => by
    split at p1
    · cases r1
      exact ⟨_, rfl, p1 φ1 H1 _ Ext.rfl' sr1 (.int _)⟩
    · exact p1.elim
end
/-- the script's slice: a new list of its ints -/
def eRo (a : EF) (lo hi : PF) : EF := fun ρ S => (a ρ S).bind fun d S1 => (lo ρ S1).bind fun l S2 => (hi ρ S2).bind fun u S3 => match d with
  | .ro ns => .ok (.ob S3.length) (S3 ++ [.lst ((cutD ns l u).map D.int)])
  | _ => .no
theorem Rps.ints {K : PySem.W.Frag} {φ : List Addr} {H : Hp} : ∀ ns : List Int, Rps K φ H (ns.map V.int) (ns.map D.int)
  | [] => .nil
  | n :: ns => .cons (.int n) (Rps.ints ns)
theorem cutV_map (ns : List Int) (lo hi : Option Int) : cutV (ns.map V.int) lo hi = (cutD ns lo hi).map V.int := by
  unfold cutV cutD
  rw [List.length_map, List.map_take, List.map_drop]
theorem de_ro {X : Cx} {W : WX} {a : Expr} {lo hi : Option Expr} {fa : EF} {fl fh : PF} {p2 pos : Pos} (ha : DE X W a fa) (hl : DO X W lo fl) (hh : DO X W hi fh) : DE X W (.Subscript a (.Slice lo hi none p2) pos) (eRo fa fl fh) :=
  pe_wk (pe_slice sl_list ha hl hh) fun σ H Q ⟨φ, ρ, S, er, sr, p⟩ => (lf.bind er sr p).imp fun x H1 ⟨φ1, S1, d, e1, sr1, r1, p1⟩ =>
    (lf.bind (er.mono e1) sr1 p1).imp fun l H2 ⟨φ2, S2, l', e2, sr2, r2, p2⟩ => (lf.bind ((er.mono e1).mono e2) sr2 p2).imp fun u H3 ⟨φ3, S3, u', e3, sr3, r3, p3⟩ => by
      cases r2; cases r3
      have r1' := (r1.mono e2).mono e3
      cases d with
      | ro ns =>
        cases r1' with
        | ro h =>
          refine ⟨_, ns.map V.int, rfl, ?_, fun q hq => ?_⟩
          · rcases h with ⟨o, h⟩ | (h | ⟨o, h⟩) | h
            · exact .inl (.inr ⟨o, h⟩)
            · cases h
            · cases h
            · exact .inr h
          rw [cutV_map]
          have e := Ext.newSnoc (φ := φ3) (o := .lst ((cutD ns l u).map V.int)) hq
          exact p3 _ _ _ e (sr3.snoc hq ⟨_, upd_same, Rps.ints _⟩) (.ob (at_snoc sr3 q))
      | _ => exact p3.elim

/-- a def of the text, as the top has left it -/
def FnAt (K : PySem.W.Frag) (mg : Str → Option Value) (x : Str) (st : Stmt) (ps : List Str) : Prop :=
  ∃ a fd, Fun K x x st a fd ∧ mg x = some (.ref a) ∧ Binds K fd ps []
/-- a def that keeps its promise: it does what F says -/
def Def (P : Program) (w : World) (K : PySem.W.Frag) (mg : Str → Option Value) (base : Heap) (x : Str) (ps : List Str) (k n : Nat) (F : FF) : Prop :=
  ∃ a fd, FnOk P w K mg base CX0 k a fd ps (spF K n F) ∧ mg x = some (.ref a) ∧ PySem.W.keepIn K (.ref a) = true ∧ Binds K fd ps []
theorem def_ok {P : Program} {w : World} {K : PySem.W.Frag} {mg : Str → Option Value} {base : Heap} {x : Str} {st : Stmt} {N ps : List Str} {k : Nat} {b : SF} (A : FnAt K mg x st ps) (S : FnScope N ps (defScope st))
    (hb : ∀ (f : Addr) (cdv : Value) (A : Around) (outer : List Env) (s : Shared) (H : Hp) (E : XK), Room k (A.deeper (envOfC x (defScope st) s.heap.objs.size f cdv)) →
      DSs (cxOf CX0 P w K mg base N x (defScope st) f cdv A outer s H E).nox wF (defBody st) b) : Def P w K mg base x ps (k + 1) ps.length (runF N.length ps.length b) := by
  obtain ⟨a, fd, F, g, bi⟩ := A
  exact ⟨a, fd, fn_ok F S (hb a), g, F.kp, bi⟩
theorem de_callD {X : Cx} {W : WX} {k j n : Nat} {ps : List Str} {F : FF} {x : Str} {p pos : Pos} {e : Expr} {es : List Expr} {ga : AF}
    (d : Def X.prog X.w X.K X.mg X.base x ps k n F) (hr : Room j X.A) (hkj : k ≤ j) (hg : Gl X x) (ha : DA X W (e :: es) ga) (hl : aLen ga n) (hdb : (x == ("__debug__" : Str)) = false := by decide)
    (he : starEach (e :: es) X.env = (false, eval e X.env) :: starEach es X.env := by rfl) (hpl : (backTo pos (starEach es X.env)).any (·.1) = false := by rfl) :
    DE X W (.Call (.Name x p) (e :: es) [] pos) (eCall F ga) := by
  obtain ⟨a, fd, G, hm, hk, hb⟩ := d
  exact de_call G (hr.mono hkj) hg hm hk hb ha hl hdb he hpl
theorem fnat_mk {K : PySem.W.Frag} {mg : Str → Option Value} {h : Heap} {x : Str} {st : Stmt} {f : Addr} {ps : List Str} {oc : Value} {od an : Option Addr} {osl : Array (Option Value)} {kV doc pm cdv ct : Value} (X : K.In h) (G : h.Ns mainGlobals mg)
    (a : PySem.W.nsIn K mainGlobals x = some (some (.ref f))) (l : K.lookup f = some ⟨oc, od, .func (PySem.W.fnOf x x (defArgs st) (defBody st) (defScope st) .none kV doc pm an cdv ct), osl⟩)
    (c : PySem.W.codeIn K cdv x = true) (k : PySem.W.keepIn K (.ref f) = true)
    (hb : ∀ (kV doc pm : Value) (an : Option Addr) (cdv ct : Value) (us : List Value), us.length = ps.length → bindArgs (PySem.W.fnOf x x (defArgs st) (defBody st) (defScope st) .none kV doc pm an cdv ct) ⟨us, []⟩ = pure (ps.zip us)) : FnAt K mg x st ps :=
  ⟨f, _, fun_mk l c k, PySem.W.mg_of X G a, (fun_mk l c k).binds hb⟩
/-- the law's promise: True, of every script -/
def spLaw (K : PySem.W.Frag) : Sp := fun vs H Q _ => ∃ (a : Addr) (ns : List Int), vs = [.ref a] ∧ SqL K H a (ns.map V.int) ∧ Only H ∧ ns.length ≤ 63 ∧ ∀ H', Q (.bl true) H'
theorem law_of {P : Program} {w : World} {K : PySem.W.Frag} {mg : Str → Option Value} {base : Heap} {f : Addr} {fd : FuncData} {k : Nat} {ps : List Str} {F : FF} (h : FnOk P w K mg base CX0 k f fd ps (spF K 1 F))
    (hF : ∀ ns : List Int, ns.length ≤ 63 → ∃ S, F [.ro ns] [] = .ok (.bl true) S) : FnOk P w K mg base CX0 k f fd ps (spLaw K) := h.imp fun vs H Q E ⟨a, ns, e, hs, ho, hl, q⟩ => by
  subst e
  obtain ⟨S, hS⟩ := hF ns hl
  refine ⟨rfl, [], [.ro ns], [], .cons (.ro ?_) .nil, ⟨rfl, List.nodup_nil, fun n o h => by simp at h⟩, ?_⟩
  · rcases hs with (h | ⟨o, h⟩) | h
    · rcases ho a with z | ⟨o, xs, z⟩
      · rw [h] at z; cases z
      · rw [h] at z; cases z
    · exact .inl ⟨o, h⟩
    · exact .inr (.inr h)
  · rw [hS]
    intro φ' H' v _ _ r
    cases r
    exact q H'
end DL
namespace DL
open PySem PySem.Spec PyProof.Rows L2
theorem def_no {P : Program} {w : World} {K : PySem.W.Frag} {mg : Str → Option Value} {base : Heap} {x : Str} {st : Stmt} {ps : List Str} {k n : Nat} (A : FnAt K mg x st ps) (hn : ps.length = n) : Def P w K mg base x ps k n (fun _ _ => .no) := by
  obtain ⟨a, fd, F, g, bi⟩ := A
  refine ⟨a, fd, ⟨fun vs H Q E h => h.1.trans hn.symm, fun A outer s H args us vs Q E hr he hb hv h => ?_⟩, g, F.kp, bi⟩
  obtain ⟨_, φ, ds, S, _, _, p⟩ := h
  exact p.elim
end DL
namespace DL
open PySem PySem.Spec PyProof.Rows L2
/-! ### the module's constants -/
def GInt (mg : Str → Option Value) (x : Str) (i : Int) : Prop := ∃ t, mg x = some (.int i t)
def GTup (K : PySem.W.Frag) (mg : Str → Option Value) (x : Str) (ds : List D) : Prop := ∃ a, mg x = some (.ref a) ∧ ∀ φ H, Rp K φ H (.ref a) (.tup ds)
theorem de_gint {X : Cx} {W : WX} {x : Str} {i : Int} {pos : Pos} (h : GInt X.mg x i) (hg : Gl X x) (hd : (x == ("__debug__" : Str)) = false := by decide) : DE X W (.Name x pos) (eC (.int i)) := by
  obtain ⟨t, h⟩ := h
  exact de_con (pe_glob (v := .int i) hg h ⟨t, rfl⟩ hd) fun _ _ => .int i
theorem de_gtup {X : Cx} {W : WX} {x : Str} {ds : List D} {pos : Pos} (h : GTup X.K X.mg x ds) (hg : Gl X x) (hd : (x == ("__debug__" : Str)) = false := by decide) : DE X W (.Name x pos) (eC (.tup ds)) := by
  obtain ⟨a, h, r⟩ := h
  exact de_con (pe_glob (v := .ref a) hg h rfl hd) r
theorem gtup_mk {K : PySem.W.Frag} {mg : Str → Option Value} {x : Str} {a : Addr} {od : Option Addr} {its : Array Value} {n : Nat} {sl : Array (Option Value)} {vs : List V} {ds : List D} (m : mg x = some (.ref a))
    (l : K.lookup a = some ⟨.type "tuple", od, .seq its n, sl⟩) (hz : its.size ≤ sizeLine) (hv : Vals vs its.toList) (hr : ∀ φ H, Rps K φ H vs ds) : GTup K mg x ds :=
  ⟨a, m, fun φ H => .tup (.inr ⟨_, its, n, l, rfl, rfl, hz, hv⟩) (hr φ H)⟩
end DL
namespace DL
open PySem PySem.Spec PyProof.Rows L2
/-- x += e, ints -/
def sAug (i : Nat) (a : EF) : SF := fun ρ S => match ρ[i]? with
  | some (some (.int x)) => (a ρ S).sb ρ fun d S1 => (match d with | .int y => .nx (ρ.set i (some (.int (x + y)))) S1 | _ => .no)
  | _ => .no
theorem ds_aug {X : Cx} {W : WX} {st : Stmt} {i : Nat} {fa : EF} (h : PS X st (L2.tAug i (lE X.K W fa) (ipI fun a b => a + b))) : DS X W st (sAug i fa) := ps_wk h fun N σ H ⟨φ, ρ, S, er, sr, p⟩ => by
  unfold sAug at p
  split at p
  · rename_i x hx
    obtain ⟨v, hv, rv⟩ := er.at' i _ hx
    refine ⟨v, hv, (lf.sb er sr p).imp fun y H1 ⟨φ1, S1, d, e1, sr1, r1, p1⟩ => ?_⟩
    split at p1
    · cases rv; cases r1
      exact ⟨_, _, rfl, rfl, p1 φ1 _ H1 Ext.rfl' sr1 ((er.mono e1).set (.int _) i)⟩
    · exact p1.elim
  · exact p.elim
end DL
set_option Elab.async false
set_option linter.all false
set_option maxRecDepth 100000
noncomputable section
namespace DL
open PySem PySem.Spec PyProof.Rows L2
/-! ### xs[::-1] of a list -/
def eRev (a : EF) : EF := fun ρ S => (a ρ S).bind fun d S1 => match d with
  | .ob n => (match S1[n]? with
    | some (.lst xs) => .ok (.ob S1.length) (S1 ++ [.lst xs.reverse])
    | _ => .no)
  | _ => .no
theorem pe_revL {X : Cx} {e : Expr} {te : TE} {p1 p2 p3 pos : Pos} {k : Nat} (he : PE X e te) :
    PE X (.Subscript e (.Slice none none (some (.UnaryOp .USub (.Constant (.int 1) k p1) p2)) p3) pos) (fun σ H Q => te σ H fun x H1 => ∃ a xs, x = .ref a ∧ SqL X.K H1 a xs ∧ ∀ p, H1 p = none → Q (.ref p) (upd H1 p (.lst xs.reverse))) := by
  refine ⟨fun pins s σ H Q I h => ?_⟩
  refine Subscript_ (thn (he.run pins s σ H _ I h) fun v s1 ⟨x, H1, I1, r1, a, xs, ex, hs, q1⟩ => ?_)
  subst ex
  cases r1
  refine wpAny_Slice ?_
  rw [evalPart_none]
  refine wpAny_pure (wpAny_pure ?_)
  show wpAny _ _ (eval (.UnaryOp .USub (.Constant (.int 1) k p1) p2) X.env) _ _ s1
  refine thn ((pe_un un_neg (pe_int (X := X) (i := 1) (j := k) (pos := p1)) (pos := p2)).run pins s1 σ H1 (fun v H2 => v = .int (-1) ∧ H2 = H1) I1 ⟨1, rfl, rfl, rfl⟩) fun u s2 ⟨y, H2, I2, r2, e1, e2⟩ => ?_
  subst e1; subst e2
  obtain ⟨t, rfl⟩ := r2
  obtain ⟨its, r, ht, hz⟩ := I2.list hs
  have I3 : Inv X pins σ H2 { s2 with heap := s2.heap.push { cls := .type "slice", data := .fields #[.none, .none, .int (-1) t] } } := I2.kept (t' := s2.toks) fun b ob q => Heap.get?_push_of_some _ q
  obtain ⟨its', r', ht', hz'⟩ := I3.list hs
  show wpAny (model X.prog X.w) X.A (subscriptTail e (.Slice none none (some (.UnaryOp .USub (.Constant (.int 1) k p1) p2)) p3) (.ref a) (.ref s2.heap.objs.size)) (EP X pins σ Q) X.xe { s2 with heap := s2.heap.push { cls := .type "slice", data := .fields #[.none, .none, .int (-1) t] } }
  refine tail_any (ops := _) ht'.isList.typeIs slot_list_getitem.lookup ?_ (by with_unfolding_all rfl)
  refine wpAny_getItem_list_slice (hi := none) (lo := none) (st := some (-1)) ht'.isList (Heap.IsSliceOf.new ..) .none .none (.int _ _) (by decide) ?_ (by rw [List.size_toArray, ← r'.length]; exact hz')
  rw [PySem.W.krv_pick]
  refine ⟨.ref _, _, I3.laid (t' := s2.toks) (o := .lst xs.reverse) (fun b ob q => Heap.get?_push_of_some _ q) (Nat.le_refl _) ?_, rfl, q1 _ (I3.hok.fresh (Nat.le_refl _))⟩
  exact ⟨by rw [List.length_reverse]; exact hz', its'.reverse, 0, r'.reverse, Heap.get?_push_size _ rfl⟩
theorem de_rev {X : Cx} {W : WX} {e : Expr} {fa : EF} {p1 p2 p3 pos : Pos} {k : Nat} (ha : DE X W e fa) : DE X W (.Subscript e (.Slice none none (some (.UnaryOp .USub (.Constant (.int 1) k p1) p2)) p3) pos) (eRev fa) :=
  pe_wk (pe_revL ha) fun σ H Q ⟨φ, ρ, S, er, sr, p⟩ => (lf.bind er sr p).imp fun x H1 ⟨φ1, S1, d, e1, sr1, r1, p1⟩ => by
    split at p1
    · split at p1
      · rename_i xs hx
        cases r1 with
        | ob hn =>
          obtain ⟨us, g, rs⟩ := sr1.lst hn hx
          refine ⟨_, us, rfl, .of g, fun q hq => ?_⟩
          have e := Ext.newSnoc (φ := φ1) (o := .lst us.reverse) hq
          exact p1 _ _ _ e (sr1.snoc hq ⟨_, upd_same, rs.reverse.mono e⟩) (.ob (at_snoc sr1 q))
      · exact p1.elim
    · exact p1.elim
/-! ### xs.count(b), truths -/
def eqb (k : Bool) (v : Value) : Bool := match v with
  | .bool b => b == k
  | _ => false
theorem vals_bools : ∀ {bs : List Bool} {us : List Value}, Vals (bs.map V.bl) us → us = bs.map Value.bool
  | [], _, .nil => rfl
  | b :: bs, _, .cons r h => by
    cases r
    rw [vals_bools h]
    rfl
theorem eqb_count (k : Bool) : ∀ bs : List Bool, (bs.map Value.bool).countP (eqb k) = bs.count k
  | [] => rfl
  | b :: bs => by
    rw [List.map_cons, List.countP_cons, List.count_cons, eqb_count k bs]
    rfl
def rCntB (K : PySem.W.Frag) : V → List V → Hp → VK → Prop := fun x xs H Q => ∃ (p : Addr) (bs : List Bool) (k : Bool), x = .ref p ∧ xs = [.bl k] ∧ SqL K H p (bs.map V.bl) ∧ Q (.int (bs.count k : Nat)) H
theorem mt_bcount {X : Cx} : MtR X "list.count" (rCntB X.K) := by
  intro pins s σ H x xs v us Q I rx rxs h
  obtain ⟨p, bs, k, rfl, rfl, hs, q⟩ := h
  cases rx
  obtain ⟨u, rfl, ru⟩ := rxs.one
  cases ru
  obtain ⟨its, rv, ⟨⟨cls, dd, data, sl⟩, n, ho, hc, hdn, hd⟩, hlen⟩ := I.list hs
  simp only at hc hd
  subst hc hd
  have hi := vals_bools rv
  subst hi
  refine call_meets PySem.F.slot_list_count ⟨_, ho, rfl⟩ PySem.F.entry_list_count (PySem.F.args_list_count_2 _ _)
    (SeqAt.list_countAt p _ n dd sl (.bool k) (eqb k)) ⟨ho, fun y hy => ?_, ?_⟩
  · have hy' : y ∈ bs.map Value.bool := List.mem_toArray.mp hy
    obtain ⟨b, _, rfl⟩ := List.mem_map.mp hy'
    exact SeqAt.EqAt.bool_bool b k
  · refine ⟨.int (bs.count k : Nat), H, I.tok _, ⟨s.toks, ?_⟩, q⟩
    show Value.int (((bs.map Value.bool).countP (eqb k) : Nat) : Int) s.toks = Value.int ((bs.count k : Nat) : Int) s.toks
    rw [eqb_count]
def eCnt (a b : EF) : EF := fun ρ S => (a ρ S).bind fun l S1 => match l with
  | .ob n => (match S1[n]? with
    | some (.lst _) => (b ρ S1).bind fun d S2 => (match S2[n]? with
      | some (.lst xs) => (match d, allBl xs with
        | .bl k, some bs => .ok (.int (bs.count k : Nat)) S2
        | _, _ => .no)
      | _ => .no)
    | _ => .no)
  | _ => .no
theorem de_cnt {X : Cx} {W : WX} {w : Expr} {fa fb : EF} (h : PE X w (tBM X.K "list" (rCntB X.K) (lE X.K W fa) (tCons (lE X.K W fb) tNil))) : DE X W w (eCnt fa fb) :=
  pe_wk h fun σ H Q ⟨φ, ρ, S, er, sr, p⟩ => (lf.bind er sr p).imp fun x H1 ⟨φ1, S1, d, e1, sr1, r1, p1⟩ => by
    split at p1
    · split at p1
      · rename_i ys hy
        cases r1 with
        | ob hn =>
          obtain ⟨us, g, rs⟩ := sr1.lst hn hy
          refine ⟨.inl ⟨rfl, _, .of g⟩, ?_⟩
          refine (lf.bind (er.mono e1) sr1 p1).imp fun y H2 ⟨φ2, S2, d2, e2, sr2, r2, p2⟩ => ?_
          split at p2
          · rename_i xs hx
            split at p2
            · rename_i k bs hb
              have hn2 := e2.pre _ _ hn
              obtain ⟨us2, g2, rs2⟩ := sr2.lst hn2 hx
              have := allBl_ok rs2 hb
              subst this
              cases r2
              exact ⟨_, bs, k, rfl, rfl, .of g2, p2 φ2 H2 _ Ext.rfl' sr2 (.int _)⟩
            · exact p2.elim
          · exact p2.elim
      · exact p1.elim
    · exact p1.elim
/-- a chain of two comparisons as a test -/
theorem dt_chain {X : Cx} {W : WX} {a b c : Expr} {fa fb fc : EF} {pos : Pos} {op op' : CmpOp} {r r' : R2} {o o' : OF} (ho : OpR X (compareOp op) r) (hr : Op2 X.K r o) (ho' : OpR X (compareOp op') r') (hr' : Op2 X.K r' o')
    (hb' : ∀ a b S d S', o' a b S = .ok d S' → ∃ k, d = .bl k) (ha : DE X W a fa) (hb : DE X W b fb) (hc : DE X W c fc)
    (h1 : PT X (.Compare a [op, op'] [b, c] pos) (tTest (tChain r r' (lE X.K W fa) (lE X.K W fb) (lE X.K W fc)))) : DT X W (.Compare a [op, op'] [b, c] pos) (tTru (eChain o o' fa fb fc)) :=
  pt_wk h1 fun σ H Q ⟨φ, ρ, S, er, sr, p⟩ => by
    have p0 : post RB X.K W φ H σ Q ((fa ρ S).bind fun x S1 => (fb ρ S1).bind fun y S2 => (o x y S2).bind fun z S3 => match z with
        | .bl true => (fc ρ S3).bind fun w S4 => (o' y w S4).bind fun d S5 => (match truD d S5 with | some k => .ok k S5 | none => .no)
        | .bl false => .ok false S3
        | _ => .no) := by
      unfold tTru eChain at p
      cases e1 : fa ρ S with
      | ok x S1 =>
        rw [e1] at p
        simp only [Res.bind] at p ⊢
        cases e2 : fb ρ S1 with
        | ok y S2 =>
          rw [e2] at p
          simp only at p ⊢
          cases e3 : o x y S2 with
          | ok z S3 =>
            rw [e3] at p
            simp only at p ⊢
            cases z with
            | bl k =>
              cases k with
              | true =>
                simp only at p ⊢
                cases e4 : fc ρ S3 with
                | ok w S4 => rw [e4] at p; exact p
                | ex _ _ => rw [e4] at p; exact p
                | no => rw [e4] at p; exact p
              | false => exact p
            | _ => exact p
          | ex _ _ => rw [e3] at p; exact p
          | no => rw [e3] at p; exact p
        | ex _ _ => rw [e2] at p; exact p
        | no => rw [e2] at p; exact p
      | ex _ _ => rw [e1] at p; exact p
      | no => rw [e1] at p; exact p
    refine (lf.bind er sr p0).imp fun x H1 ⟨φ1, S1, d, e1, sr1, r1, p1⟩ => (lf.bind (er.mono e1) sr1 p1).imp fun y H2 ⟨φ2, S2, d2, e2, sr2, r2, p2⟩ => ?_
    refine hr W φ2 S2 H2 σ x y d d2 _ sr2 (r1.mono e2) r2 ?_
    cases e : o d d2 S2 with
    | ok z S3 =>
      rw [e] at p2
      intro φ' H' zv e' s' rz
      simp only [Res.bind] at p2
      split at p2
      · cases rz
        refine ⟨true, rfl, ?_⟩
        rw [if_pos rfl]
        refine (lf.bind (((er.mono e1).mono e2).mono e') s' (p2.mono e')).imp fun w H4 ⟨φ4, S4, d4, e4, sr4, r4, p4⟩ => ?_
        refine hr' W φ4 S4 H4 σ y w d2 d4 _ sr4 ((r2.mono e').mono e4) r4 ?_
        cases e5 : o' d2 d4 S4 with
        | ok u S5 =>
          rw [e5] at p4
          intro φ5 H5 uv e6 s6 ru
          obtain ⟨k, rfl⟩ := hb' _ _ _ _ _ e5
          cases ru
          exact ⟨k, rfl, p4 φ5 H5 k e6 s6 rfl⟩
        | ex _ _ => rw [e5] at p4; exact p4
        | no => rw [e5] at p4; exact p4
      · cases rz
        refine ⟨false, rfl, ?_⟩
        rw [if_neg Bool.false_ne_true]
        exact ⟨false, rfl, p2 φ' H' _ e' s' rfl⟩
      · exact p2.elim
    | ex c S3 => rw [e] at p2; exact p2
    | no => rw [e] at p2; exact p2
end DL
set_option Elab.async false
set_option linter.all false
set_option maxRecDepth 100000
/-! defs of the text as functions of data -/
noncomputable section
namespace Fx
open PySem L2 DL
def c_is_whole_0 : SF :=
  (sRet (eAnd (eIs (eVar 0) "int") (eNot (eIs (eVar 0) "bool"))))
def b_is_whole : SF :=
  c_is_whole_0
def F_is_whole : FF := runF 1 1 b_is_whole
def c_is_less_0 : SF :=
  (sRet (eOp oLt (eOp oMul (eOp oIx (eVar 0) (eC (.int 0))) (eOp oIx (eVar 1) (eC (.int 1)))) (eOp oMul (eOp oIx (eVar 1) (eC (.int 0))) (eOp oIx (eVar 0) (eC (.int 1))))))
def b_is_less : SF :=
  c_is_less_0
def F_is_less : FF := runF 2 2 b_is_less
def c_floor_of_0 : SF :=
  (sRet (eOp oDiv (eOp oIx (eVar 0) (eC (.int 0))) (eOp oIx (eVar 0) (eC (.int 1)))))
def b_floor_of : SF :=
  c_floor_of_0
def F_floor_of : FF := runF 1 1 b_floor_of
def c_in_lowest_terms_0 : SF :=
  (sAsg (.nm 2) (eB cGcd (aCons (eVar 0) (aCons (eVar 1) aNil))))
def c_in_lowest_terms_1 : SF :=
  (sIf (tTru (eOp oLt (eVar 1) (eC (.int 0))))
    (sAsg (.nm 2) (eNeg (eVar 2)))
    sNil)
def c_in_lowest_terms_2 : SF :=
  (sRet (eTup (aCons (eOp oDiv (eVar 0) (eVar 2)) (aCons (eOp oDiv (eVar 1) (eVar 2)) aNil))))
def b_in_lowest_terms : SF :=
  (sSeq c_in_lowest_terms_0
    (sSeq c_in_lowest_terms_1
    c_in_lowest_terms_2))
def F_in_lowest_terms : FF := runF 3 2 b_in_lowest_terms
def c_l_pen_0 : SF :=
  (sRet (eLst (aCons (eB cList (aCons (eRo (eVar 0) pNo (pAt (eC (.int 63)))) aNil)) (aCons (eC (.int 0)) (aCons (eC (.int 0)) aNil)))))
def b_l_pen : SF :=
  c_l_pen_0
def F_l_pen : FF := runF 1 1 b_l_pen
def c_l_draw_0 : SF :=
  (sIf (tTru (eOp oGt (eOp oIx (eVar 0) (eC (.int 2))) (eC (.int 0))))
    (sSeq (sAsg (.nm 2) (eOp oMod (eOp oIx (eVar 0) (eC (.int 2))) (eVar 1)))
    (sSeq (sSub (eVar 0) (eC (.int 2)) (eOp oDiv (eOp oIx (eVar 0) (eC (.int 2))) (eVar 1)))
    (sRet (eVar 2))))
    sNil)
def c_l_draw_1 : SF :=
  (sAsg (.nm 3) (eOp oIx (eVar 0) (eC (.int 1))))
def c_l_draw_2 : SF :=
  (sSub (eVar 0) (eC (.int 1)) (eOp oAdd (eVar 3) (eC (.int 1))))
def c_l_draw_3 : SF :=
  (sAsg (.nm 4) (eC (.int 7)))
def c_l_draw_4 : SF :=
  (sIf (tTru (eOp oGt (eB cLen (aCons (eOp oIx (eVar 0) (eC (.int 0))) aNil)) (eC (.int 0))))
    (sAsg (.nm 4) (eOp oIx (eOp oIx (eVar 0) (eC (.int 0))) (eOp oMod (eVar 3) (eB cLen (aCons (eOp oIx (eVar 0) (eC (.int 0))) aNil)))))
    sNil)
def c_l_draw_5 : SF :=
  (sIf (bAnd (tTru (eOp oLt (eVar 3) (eB cLen (aCons (eOp oIx (eVar 0) (eC (.int 0))) aNil)))) (tTru (eOp oGe (eVar 4) (eOp oPow (eC (.int 10)) (eC (.int 18))))))
    (sSeq (sSub (eVar 0) (eC (.int 2)) (eOp oDiv (eVar 4) (eVar 1)))
    (sRet (eOp oMod (eVar 4) (eVar 1))))
    sNil)
def c_l_draw_6 : SF :=
  (sAsg (.nm 5) (eOp oMod (eOp oMul (eOp oAdd (eOp oMod (eVar 4) (eC (.int 2147483629))) (eC (.int 11))) (eOp oAdd (eOp oAdd (eOp oMul (eVar 3) (eVar 3)) (eOp oMul (eC (.int 5)) (eVar 3))) (eC (.int 3)))) (eC (.int 2147483647))))
def c_l_draw_7 : SF :=
  (sAsg (.nm 5) (eOp oMod (eOp oMul (eOp oMod (eOp oAdd (eOp oPow (eVar 5) (eC (.int 3))) (eOp oMul (eC (.int 69621)) (eVar 3))) (eC (.int 2147483587))) (eC (.int 40692))) (eC (.int 2147483399))))
def c_l_draw_8 : SF :=
  (sIf (tTru (eOp oGt (eVar 1) (eOp oPow (eC (.int 10)) (eC (.int 6)))))
    (sAsg (.nm 5) (eOp oAdd (eOp oMul (eVar 5) (eC (.int 2147483629))) (eOp oMod (eOp oMul (eOp oMod (eVar 5) (eC (.int 1000003))) (eC (.int 48271))) (eC (.int 2147483587)))))
    sNil)
def c_l_draw_9 : SF :=
  (sRet (eOp oMod (eOp oDiv (eVar 5) (eC (.int 64))) (eVar 1)))
def b_l_draw : SF :=
  (sSeq c_l_draw_0
    (sSeq c_l_draw_1
    (sSeq c_l_draw_2
    (sSeq c_l_draw_3
    (sSeq c_l_draw_4
    (sSeq c_l_draw_5
    (sSeq c_l_draw_6
    (sSeq c_l_draw_7
    (sSeq c_l_draw_8
    c_l_draw_9)))))))))
def F_l_draw : FF := runF 6 2 b_l_draw
def fu_l_low_0 : Lc → Sto → Nat := fun (ρ : Lc) _ => match ρ[3]? with | some (some (D.int i)) => i.natAbs | _ => 0
def c_l_low_0 : SF :=
  (sPar 2 3 (aCons (eB cAbs (aCons (eVar 0) aNil)) (aCons (eB cAbs (aCons (eVar 1) aNil)) aNil)))
def c_l_low_1_0 : SF :=
  (sPar 2 3 (aCons (eVar 3) (aCons (eOp oMod (eVar 2) (eVar 3)) aNil)))
def c_l_low_1 : SF :=
  (sWh fu_l_low_0 (tTru (eOp oGt (eVar 3) (eC (.int 0))))
    c_l_low_1_0)
def c_l_low_2 : SF :=
  (sIf (tTru (eOp oLt (eVar 1) (eC (.int 0))))
    (sPar 0 1 (aCons (eOp oSub (eC (.int 0)) (eVar 0)) (aCons (eOp oSub (eC (.int 0)) (eVar 1)) aNil)))
    sNil)
def c_l_low_3 : SF :=
  (sRet (eTup (aCons (eOp oDiv (eVar 0) (eVar 2)) (aCons (eOp oDiv (eVar 1) (eVar 2)) aNil))))
def b_l_low : SF :=
  (sSeq c_l_low_0
    (sSeq c_l_low_1
    (sSeq c_l_low_2
    c_l_low_3)))
def F_l_low : FF := runF 4 2 b_l_low
def c_l_less_0 : SF :=
  (sRet (eOp oLt (eOp oMul (eOp oIx (eVar 0) (eC (.int 0))) (eOp oIx (eVar 1) (eC (.int 1)))) (eOp oMul (eOp oIx (eVar 1) (eC (.int 0))) (eOp oIx (eVar 0) (eC (.int 1))))))
def b_l_less : SF :=
  c_l_less_0
def F_l_less : FF := runF 2 2 b_l_less
def c_l_same_0 (F_l_same : FF) : SF :=
  (sIf (tTru (eIs2 (eVar 1) "tuple" "list"))
    (sSeq (sIf (bOr (bNot (tTru (eIs2 (eVar 0) "tuple" "list"))) (tTru (eOp oNe (eIs (eVar 0) "list") (eIs (eVar 1) "list"))))
    (sRet (eC (.bl false)))
    sNil)
    (sSeq (sIf (tTru (eOp oNe (eB cLen (aCons (eVar 0) aNil)) (eB cLen (aCons (eVar 1) aNil))))
    (sRet (eC (.bl false)))
    sNil)
    (sRet (eB cAll (aCons (eLc (iZip (aCons (eVar 0) (aCons (eVar 1) aNil))) (.tp [(.nm 2), (.nm 3)]) cYes (eCall F_l_same (aCons (eVar 2) (aCons (eVar 3) aNil))) [2, 3]) aNil)))))
    sNil)
def c_l_same_1 (F_l_same : FF) : SF :=
  (sIf (bOr (tTru (eOp oIs (eVar 1) (eC .non))) (tTru (eOp oIs (eVar 0) (eC .non))))
    (sRet (eAnd (eOp oIs (eVar 0) (eC .non)) (eOp oIs (eVar 1) (eC .non))))
    sNil)
def c_l_same_2 (F_l_same : FF) : SF :=
  (sIf (bOr (tTru (eOp oNe (eIs (eVar 0) "bool") (eIs (eVar 1) "bool"))) (tTru (eOp oNe (eIs (eVar 0) "str") (eIs (eVar 1) "str"))))
    (sRet (eC (.bl false)))
    sNil)
def c_l_same_3 (F_l_same : FF) : SF :=
  (sIf (tTru (eOp oNe (eIs (eVar 0) "int") (eIs (eVar 1) "int")))
    (sRet (eC (.bl false)))
    sNil)
def c_l_same_4 (F_l_same : FF) : SF :=
  (sRet (eOp oEq (eVar 0) (eVar 1)))
def b_l_same (F_l_same : FF) : SF :=
  (sSeq (c_l_same_0 F_l_same)
    (sSeq (c_l_same_1 F_l_same)
    (sSeq (c_l_same_2 F_l_same)
    (sSeq (c_l_same_3 F_l_same)
    (c_l_same_4 F_l_same)))))
def R_l_same : Nat → FF
  | 0 => fun _ _ => .no
  | d + 1 => runF 4 2 (b_l_same (R_l_same d))
abbrev F_l_same : FF := R_l_same 12
def c_fraction_0 : SF :=
  (sIf (bOr (bNot (tTru (eCall F_is_whole (aCons (eVar 0) aNil)))) (bNot (tTru (eCall F_is_whole (aCons (eVar 1) aNil)))))
    sNo
    sNil)
def c_fraction_1 : SF :=
  (sIf (tTru (eOp oEq (eVar 1) (eC (.int 0))))
    sNo
    sNil)
def c_fraction_2 : SF :=
  (sRet (eCall F_in_lowest_terms (aCons (eVar 0) (aCons (eVar 1) aNil))))
def b_fraction : SF :=
  (sSeq c_fraction_0
    (sSeq c_fraction_1
    c_fraction_2))
def F_fraction : FF := runF 2 2 b_fraction
def c_l_add_0 : SF :=
  (sRet (eCall F_l_low (aCons (eOp oAdd (eOp oMul (eOp oIx (eVar 0) (eC (.int 0))) (eOp oIx (eVar 1) (eC (.int 1)))) (eOp oMul (eOp oIx (eVar 1) (eC (.int 0))) (eOp oIx (eVar 0) (eC (.int 1))))) (aCons (eOp oMul (eOp oIx (eVar 0) (eC (.int 1))) (eOp oIx (eVar 1) (eC (.int 1)))) aNil))))
def b_l_add : SF :=
  c_l_add_0
def F_l_add : FF := runF 2 2 b_l_add
def c_l_sub_0 : SF :=
  (sRet (eCall F_l_low (aCons (eOp oSub (eOp oMul (eOp oIx (eVar 0) (eC (.int 0))) (eOp oIx (eVar 1) (eC (.int 1)))) (eOp oMul (eOp oIx (eVar 1) (eC (.int 0))) (eOp oIx (eVar 0) (eC (.int 1))))) (aCons (eOp oMul (eOp oIx (eVar 0) (eC (.int 1))) (eOp oIx (eVar 1) (eC (.int 1)))) aNil))))
def b_l_sub : SF :=
  c_l_sub_0
def F_l_sub : FF := runF 2 2 b_l_sub
def c_l_number_0 : SF :=
  (sPar 1 2 (aCons (eCall F_l_draw (aCons (eVar 0) (aCons (eC (.int 5)) aNil))) (aCons (eCall F_l_draw (aCons (eVar 0) (aCons (eC (.int 13)) aNil))) aNil)))
def c_l_number_1 : SF :=
  (sIf (tTru (eOp oEq (eVar 1) (eC (.int 2))))
    (sAsg (.nm 2) (eCall F_l_draw (aCons (eVar 0) (aCons (eOp oPow (eC (.int 10)) (eC (.int 12))) aNil))))
    sNil)
def c_l_number_2 : SF :=
  (sIf (tTru (eOp oEq (eVar 1) (eC (.int 3))))
    (sAsg (.nm 2) (eOp oSub (eOp oSub (eOp oPow (eC (.int 10)) (eC (.int 12))) (eC (.int 1))) (eCall F_l_draw (aCons (eVar 0) (aCons (eC (.int 3)) aNil)))))
    sNil)
def c_l_number_3 : SF :=
  (sIf (tTru (eOp oEq (eVar 1) (eC (.int 4))))
    (sFor (iRng (aCons (eC (.int 5)) aNil)) (.nm 3)
    (sAsg (.nm 2) (eOp oAdd (eOp oMul (eOp oMod (eVar 2) (eOp oPow (eC (.int 10)) (eC (.int 48)))) (eOp oPow (eC (.int 10)) (eC (.int 12)))) (eCall F_l_draw (aCons (eVar 0) (aCons (eOp oPow (eC (.int 10)) (eC (.int 12))) aNil))))))
    sNil)
def c_l_number_4 : SF :=
  (sRet (eOp oMul (eVar 2) (eOp oIx (eLst (aCons (eC (.int 1)) (aCons (eNeg (eC (.int 1))) aNil))) (eCall F_l_draw (aCons (eVar 0) (aCons (eC (.int 2)) aNil))))))
def b_l_number : SF :=
  (sSeq c_l_number_0
    (sSeq c_l_number_1
    (sSeq c_l_number_2
    (sSeq c_l_number_3
    c_l_number_4))))
def F_l_number : FF := runF 4 1 b_l_number
def c_is_tuple_of_0 : SF :=
  (sRet (eAnd (eIs (eVar 0) "tuple") (eOp oEq (eB cLen (aCons (eVar 0) aNil)) (eVar 1))))
def b_is_tuple_of : SF :=
  c_is_tuple_of_0
def F_is_tuple_of : FF := runF 2 2 b_is_tuple_of
def c_is_fraction_0 : SF :=
  (sIf (bNot (tTru (eCall F_is_tuple_of (aCons (eVar 0) (aCons (eC (.int 2)) aNil)))))
    (sRet (eC (.bl false)))
    sNil)
def c_is_fraction_1 : SF :=
  (sAsg (.tp [(.nm 1), (.nm 2)]) (eVar 0))
def c_is_fraction_2 : SF :=
  (sIf (bOr (bNot (tTru (eCall F_is_whole (aCons (eVar 1) aNil)))) (bNot (tTru (eCall F_is_whole (aCons (eVar 2) aNil)))))
    (sRet (eC (.bl false)))
    sNil)
def c_is_fraction_3 : SF :=
  (sRet (eAnd (eOp oGe (eVar 2) (eC (.int 1))) (eOp oEq (eB cGcd (aCons (eVar 1) (aCons (eVar 2) aNil))) (eC (.int 1)))))
def b_is_fraction : SF :=
  (sSeq c_is_fraction_0
    (sSeq c_is_fraction_1
    (sSeq c_is_fraction_2
    c_is_fraction_3)))
def F_is_fraction : FF := runF 3 1 b_is_fraction
def c_plus_0 : SF :=
  (sAsg (.tp [(.nm 2), (.nm 3)]) (eVar 0))
def c_plus_1 : SF :=
  (sAsg (.tp [(.nm 4), (.nm 5)]) (eVar 1))
def c_plus_2 : SF :=
  (sRet (eCall F_in_lowest_terms (aCons (eOp oAdd (eOp oMul (eVar 2) (eVar 5)) (eOp oMul (eVar 4) (eVar 3))) (aCons (eOp oMul (eVar 3) (eVar 5)) aNil))))
def b_plus : SF :=
  (sSeq c_plus_0
    (sSeq c_plus_1
    c_plus_2))
def F_plus : FF := runF 6 2 b_plus
def c_minus_0 : SF :=
  (sAsg (.tp [(.nm 2), (.nm 3)]) (eVar 0))
def c_minus_1 : SF :=
  (sAsg (.tp [(.nm 4), (.nm 5)]) (eVar 1))
def c_minus_2 : SF :=
  (sRet (eCall F_in_lowest_terms (aCons (eOp oSub (eOp oMul (eVar 2) (eVar 5)) (eOp oMul (eVar 4) (eVar 3))) (aCons (eOp oMul (eVar 3) (eVar 5)) aNil))))
def b_minus : SF :=
  (sSeq c_minus_0
    (sSeq c_minus_1
    c_minus_2))
def F_minus : FF := runF 6 2 b_minus
def c_times_0 : SF :=
  (sRet (eCall F_in_lowest_terms (aCons (eOp oMul (eOp oIx (eVar 0) (eC (.int 0))) (eOp oIx (eVar 1) (eC (.int 0)))) (aCons (eOp oMul (eOp oIx (eVar 0) (eC (.int 1))) (eOp oIx (eVar 1) (eC (.int 1)))) aNil))))
def b_times : SF :=
  c_times_0
def F_times : FF := runF 2 2 b_times
def c_over_0 : SF :=
  (sIf (tTru (eOp oEq (eVar 1) (eC (.tup [(.int 0), (.int 1)]))))
    sNo
    sNil)
def c_over_1 : SF :=
  (sRet (eCall F_in_lowest_terms (aCons (eOp oMul (eOp oIx (eVar 0) (eC (.int 0))) (eOp oIx (eVar 1) (eC (.int 1)))) (aCons (eOp oMul (eOp oIx (eVar 0) (eC (.int 1))) (eOp oIx (eVar 1) (eC (.int 0)))) aNil))))
def b_over : SF :=
  (sSeq c_over_0
    c_over_1)
def F_over : FF := runF 2 2 b_over
def c_l_sums_0 : SF :=
  (sAsg (.nm 3) (eLst (aCons (eTup (aCons (eCall F_plus (aCons (eVar 0) (aCons (eVar 1) aNil))) (aCons (eCall F_plus (aCons (eVar 1) (aCons (eVar 0) aNil))) aNil))) (aCons (eTup (aCons (eCall F_times (aCons (eVar 0) (aCons (eVar 1) aNil))) (aCons (eCall F_times (aCons (eVar 1) (aCons (eVar 0) aNil))) aNil))) aNil))))
def c_l_sums_1 : SF :=
  (sExpr (eApp (eVar 3) (eTup (aCons (eCall F_plus (aCons (eCall F_plus (aCons (eVar 0) (aCons (eVar 1) aNil))) (aCons (eVar 2) aNil))) (aCons (eCall F_plus (aCons (eVar 0) (aCons (eCall F_plus (aCons (eVar 1) (aCons (eVar 2) aNil))) aNil))) aNil)))))
def c_l_sums_2 : SF :=
  (sExpr (eApp (eVar 3) (eTup (aCons (eCall F_times (aCons (eCall F_times (aCons (eVar 0) (aCons (eVar 1) aNil))) (aCons (eVar 2) aNil))) (aCons (eCall F_times (aCons (eVar 0) (aCons (eCall F_times (aCons (eVar 1) (aCons (eVar 2) aNil))) aNil))) aNil)))))
def c_l_sums_3 : SF :=
  (sExpr (eApp (eVar 3) (eTup (aCons (eCall F_times (aCons (eCall F_plus (aCons (eVar 0) (aCons (eVar 1) aNil))) (aCons (eVar 2) aNil))) (aCons (eCall F_plus (aCons (eCall F_times (aCons (eVar 0) (aCons (eVar 2) aNil))) (aCons (eCall F_times (aCons (eVar 1) (aCons (eVar 2) aNil))) aNil))) aNil)))))
def c_l_sums_4 : SF :=
  (sAsg (.nm 3) (eOp oAdd (eVar 3) (eLst (aCons (eTup (aCons (eCall F_minus (aCons (eCall F_plus (aCons (eVar 0) (aCons (eVar 1) aNil))) (aCons (eVar 1) aNil))) (aCons (eVar 0) aNil))) (aCons (eTup (aCons (eCall F_minus (aCons (eVar 0) (aCons (eVar 0) aNil))) (aCons (eTup (aCons (eC (.int 0)) (aCons (eC (.int 1)) aNil))) aNil))) (aCons (eTup (aCons (eCall F_plus (aCons (eVar 0) (aCons (eTup (aCons (eC (.int 0)) (aCons (eC (.int 1)) aNil))) aNil))) (aCons (eVar 0) aNil))) aNil))))))
def c_l_sums_5 : SF :=
  (sAsg (.nm 3) (eOp oAdd (eVar 3) (eLst (aCons (eTup (aCons (eCall F_times (aCons (eVar 0) (aCons (eTup (aCons (eC (.int 1)) (aCons (eC (.int 1)) aNil))) aNil))) (aCons (eVar 0) aNil))) (aCons (eTup (aCons (eCall F_minus (aCons (eVar 0) (aCons (eVar 1) aNil))) (aCons (eCall F_times (aCons (eTup (aCons (eNeg (eC (.int 1))) (aCons (eC (.int 1)) aNil))) (aCons (eCall F_minus (aCons (eVar 1) (aCons (eVar 0) aNil))) aNil))) aNil))) aNil)))))
def c_l_sums_6 : SF :=
  (sIf (tTru (eOp oNe (eOp oIx (eVar 1) (eC (.int 0))) (eC (.int 0))))
    (sSeq (sAsg (.nm 3) (eOp oAdd (eVar 3) (eLst (aCons (eTup (aCons (eCall F_over (aCons (eCall F_times (aCons (eVar 0) (aCons (eVar 1) aNil))) (aCons (eVar 1) aNil))) (aCons (eVar 0) aNil))) (aCons (eTup (aCons (eCall F_times (aCons (eCall F_over (aCons (eVar 0) (aCons (eVar 1) aNil))) (aCons (eVar 1) aNil))) (aCons (eVar 0) aNil))) aNil)))))
    (sAsg (.nm 3) (eOp oAdd (eVar 3) (eLst (aCons (eTup (aCons (eCall F_over (aCons (eVar 1) (aCons (eVar 1) aNil))) (aCons (eTup (aCons (eC (.int 1)) (aCons (eC (.int 1)) aNil))) aNil))) (aCons (eTup (aCons (eCall F_over (aCons (eVar 0) (aCons (eVar 1) aNil))) (aCons (eCall F_times (aCons (eVar 0) (aCons (eCall F_over (aCons (eTup (aCons (eC (.int 1)) (aCons (eC (.int 1)) aNil))) (aCons (eVar 1) aNil))) aNil))) aNil))) aNil))))))
    sNil)
def c_l_sums_7 : SF :=
  (sRet (eVar 3))
def b_l_sums : SF :=
  (sSeq c_l_sums_0
    (sSeq c_l_sums_1
    (sSeq c_l_sums_2
    (sSeq c_l_sums_3
    (sSeq c_l_sums_4
    (sSeq c_l_sums_5
    (sSeq c_l_sums_6
    c_l_sums_7)))))))
def F_l_sums : FF := runF 4 3 b_l_sums
def c_l_order_right_0 : SF :=
  (sPar 3 4 (aCons (eCall F_is_less (aCons (eVar 0) (aCons (eVar 1) aNil))) (aCons (eCall F_is_less (aCons (eVar 1) (aCons (eVar 0) aNil))) aNil)))
def c_l_order_right_1 : SF :=
  (sIf (bOr (bNot (tTru (eIs (eVar 3) "bool"))) (bOr (bNot (tTru (eIs (eVar 4) "bool"))) (tTru (eOp oNe (eCnt (eLst (aCons (eVar 3) (aCons (eVar 4) aNil))) (eC (.bl true))) (eB cInt (aCons (eOp oNe (eVar 0) (eVar 1)) aNil))))))
    (sRet (eC (.bl false)))
    sNil)
def c_l_order_right_2 : SF :=
  (sIf (bOr (tTru (eOp oNe (eCall F_is_less (aCons (eCall F_plus (aCons (eVar 0) (aCons (eVar 2) aNil))) (aCons (eCall F_plus (aCons (eVar 1) (aCons (eVar 2) aNil))) aNil))) (eVar 3))) (tTru (eCall F_is_less (aCons (eVar 0) (aCons (eVar 0) aNil)))))
    (sRet (eC (.bl false)))
    sNil)
def c_l_order_right_3 : SF :=
  (sIf (tTru (eOp oEq (eOp oIx (eVar 2) (eC (.int 0))) (eC (.int 0))))
    (sRet (eC (.bl true)))
    sNil)
def c_l_order_right_4 : SF :=
  (sRet (eOp oEq (eCall F_is_less (aCons (eCall F_times (aCons (eVar 0) (aCons (eVar 2) aNil))) (aCons (eCall F_times (aCons (eVar 1) (aCons (eVar 2) aNil))) aNil))) (eOp oIx (eLst (aCons (eVar 3) (aCons (eVar 4) aNil))) (eB cInt (aCons (eOp oLt (eOp oIx (eVar 2) (eC (.int 0))) (eC (.int 0))) aNil)))))
def b_l_order_right : SF :=
  (sSeq c_l_order_right_0
    (sSeq c_l_order_right_1
    (sSeq c_l_order_right_2
    (sSeq c_l_order_right_3
    c_l_order_right_4))))
def F_l_order_right : FF := runF 5 3 b_l_order_right
def c_l_floor_right_0 : SF :=
  (sAsg (.nm 1) (eCall F_floor_of (aCons (eVar 0) aNil)))
def c_l_floor_right_1 : SF :=
  (sIf (bOr (bNot (tTru (eIs (eVar 1) "int"))) (tTru (eIs (eVar 1) "bool")))
    (sRet (eC (.bl false)))
    sNil)
def c_l_floor_right_2 : SF :=
  (sPar 2 3 (aCons (eCall F_fraction (aCons (eVar 1) (aCons (eC (.int 1)) aNil))) (aCons (eCall F_fraction (aCons (eOp oAdd (eVar 1) (eC (.int 1))) (aCons (eC (.int 1)) aNil))) aNil)))
def c_l_floor_right_3 : SF :=
  (sRet (eAnd (eNot (eCall F_is_less (aCons (eVar 0) (aCons (eVar 2) aNil)))) (eCall F_is_less (aCons (eVar 0) (aCons (eVar 3) aNil)))))
def b_l_floor_right : SF :=
  (sSeq c_l_floor_right_0
    (sSeq c_l_floor_right_1
    (sSeq c_l_floor_right_2
    c_l_floor_right_3)))
def F_l_floor_right : FF := runF 4 1 b_l_floor_right
def c_l_edges_0 : SF :=
  (sAsg (.nm 1) (eLst (aCons (eC (.int 0)) aNil)))
def c_l_edges_1_0 : SF :=
  (sExpr (eApp (eVar 1) (eOp oAdd (eOp oIx (eVar 1) (eNeg (eC (.int 1)))) (eOp oIx (eVar 2) (eC (.int 0))))))
def c_l_edges_1 : SF :=
  (sFor (jTup (eOp oIx (eVar 0) (eC (.int 0)))) (.nm 2)
    c_l_edges_1_0)
def c_l_edges_2 : SF :=
  (sRet (eVar 1))
def b_l_edges : SF :=
  (sSeq c_l_edges_0
    (sSeq c_l_edges_1
    c_l_edges_2))
def F_l_edges : FF := runF 3 1 b_l_edges
def c_is_whole_within_0 : SF :=
  (sRet (eAnd (eCall F_is_whole (aCons (eVar 0) aNil)) (eChain oLe oLe (eVar 1) (eVar 0) (eVar 2))))
def b_is_whole_within : SF :=
  c_is_whole_within_0
def F_is_whole_within : FF := runF 3 3 b_is_whole_within
def c_l_mul_0 : SF :=
  (sRet (eCall F_l_low (aCons (eOp oMul (eOp oIx (eVar 0) (eC (.int 0))) (eOp oIx (eVar 1) (eC (.int 0)))) (aCons (eOp oMul (eOp oIx (eVar 0) (eC (.int 1))) (eOp oIx (eVar 1) (eC (.int 1)))) aNil))))
def b_l_mul : SF :=
  c_l_mul_0
def F_l_mul : FF := runF 2 2 b_l_mul
def c_l_above_0 : SF :=
  (sAsg (.nm 1) (eOp oIx (eLst (aCons (eC (.int 6)) (aCons (eC (.int 6)) (aCons (eC (.int 12)) (aCons (eC (.int 12)) (aCons (eOp oSub (eOp oPow (eC (.int 10)) (eC (.int 9))) (eC (.int 1))) aNil)))))) (eCall F_l_draw (aCons (eVar 0) (aCons (eC (.int 5)) aNil)))))
def c_l_above_1 : SF :=
  (sRet (eCall F_l_low (aCons (eOp oAdd (eC (.int 1)) (eCall F_l_draw (aCons (eVar 0) (aCons (eVar 1) aNil)))) (aCons (eOp oAdd (eC (.int 1)) (eCall F_l_draw (aCons (eVar 0) (aCons (eVar 1) aNil)))) aNil))))
def b_l_above : SF :=
  (sSeq c_l_above_0
    c_l_above_1)
def F_l_above : FF := runF 2 1 b_l_above
def c_l_rising_0_0_0 : SF :=
  (sIf (bOr (tTru (eOp oNe (eCall F_l_less (aCons (eVar 2) (aCons (eVar 4) aNil))) (eCall F_l_less (aCons (eVar 3) (aCons (eVar 5) aNil))))) (tTru (eOp oNe (eOp oEq (eVar 2) (eVar 4)) (eOp oEq (eVar 3) (eVar 5)))))
    (sRet (eC (.bl false)))
    sNil)
def c_l_rising_0_0 : SF :=
  (sFor (iZip (aCons (eVar 0) (aCons (eVar 1) aNil))) (.tp [(.nm 4), (.nm 5)])
    c_l_rising_0_0_0)
def c_l_rising_0 : SF :=
  (sFor (iZip (aCons (eVar 0) (aCons (eVar 1) aNil))) (.tp [(.nm 2), (.nm 3)])
    c_l_rising_0_0)
def c_l_rising_1 : SF :=
  (sRet (eC (.bl true)))
def b_l_rising : SF :=
  (sSeq c_l_rising_0
    c_l_rising_1)
def F_l_rising : FF := runF 6 2 b_l_rising
def c_is_from_nought_0 : SF :=
  (sRet (eAnd (eCall F_is_fraction (aCons (eVar 0) aNil)) (eOp oGe (eOp oIx (eVar 0) (eC (.int 0))) (eC (.int 0)))))
def b_is_from_nought : SF :=
  c_is_from_nought_0
def F_is_from_nought : FF := runF 1 1 b_is_from_nought
def c_is_above_nought_0 : SF :=
  (sRet (eAnd (eCall F_is_fraction (aCons (eVar 0) aNil)) (eOp oGt (eOp oIx (eVar 0) (eC (.int 0))) (eC (.int 0)))))
def b_is_above_nought : SF :=
  c_is_above_nought_0
def F_is_above_nought : FF := runF 1 1 b_is_above_nought
def c_rise_of_0 : SF :=
  (sAsg (.tp [(.nm 1), (.nm 2), (.nm 3)]) (eVar 0))
def c_rise_of_1 : SF :=
  (sRet (eCall F_over (aCons (eCall F_minus (aCons (eVar 3) (aCons (eVar 2) aNil))) (aCons (eTup (aCons (eVar 1) (aCons (eC (.int 1)) aNil))) aNil))))
def b_rise_of : SF :=
  (sSeq c_rise_of_0
    c_rise_of_1)
def F_rise_of : FF := runF 4 1 b_rise_of
def fu_step_at_0 : Lc → Sto → Nat := fun (ρ : Lc) _ => 1000
def c_step_at_0 : SF :=
  (sAsg (.tp [(.nm 2), (.tp [(.nm 3), (.nm 4)]), (.tp [(.nm 5), (.nm 6)])]) (eVar 0))
def c_step_at_1 : SF :=
  (sAsg (.nm 7) (eOp oMul (eOp oMul (eOp oMul (eC (.int 2)) (eVar 2)) (eVar 3)) (eVar 6)))
def c_step_at_2 : SF :=
  (sAsg (.nm 8) (eOp oSub (eOp oMul (eVar 5) (eVar 4)) (eOp oMul (eVar 3) (eVar 6))))
def c_step_at_3 : SF :=
  (sAsg (.nm 9) (eCall F_floor_of (aCons (eCall F_times (aCons (eVar 1) (aCons (eTup (aCons (eOp oMul (eOp oMul (eOp oMul (eC (.int 2)) (eVar 2)) (eVar 4)) (eVar 6)) (aCons (eC (.int 1)) aNil))) aNil))) aNil)))
def c_step_at_4 : SF :=
  (sAsg (.nm 10) (eC (.int 0)))
def c_step_at_5 : SF :=
  (sAsg (.nm 11) (eOp oSub (eVar 2) (eC (.int 1))))
def c_step_at_6_0 : SF :=
  (sAsg (.nm 12) (eOp oDiv (eOp oAdd (eOp oAdd (eVar 10) (eVar 11)) (eC (.int 1))) (eC (.int 2))))
def c_step_at_6_1 : SF :=
  (sIf (tTru (eOp oLe (eOp oAdd (eOp oMul (eVar 12) (eVar 7)) (eOp oMul (eOp oMul (eVar 12) (eVar 12)) (eVar 8))) (eVar 9)))
    (sAsg (.nm 10) (eVar 12))
    (sAsg (.nm 11) (eOp oSub (eVar 12) (eC (.int 1)))))
def c_step_at_6 : SF :=
  (sWh fu_step_at_0 (tTru (eOp oLt (eVar 10) (eVar 11)))
    (sSeq c_step_at_6_0
    c_step_at_6_1))
def c_step_at_7 : SF :=
  (sRet (eVar 10))
def b_step_at : SF :=
  (sSeq c_step_at_0
    (sSeq c_step_at_1
    (sSeq c_step_at_2
    (sSeq c_step_at_3
    (sSeq c_step_at_4
    (sSeq c_step_at_5
    (sSeq c_step_at_6
    c_step_at_7)))))))
def F_step_at : FF := runF 13 2 b_step_at
def c_l_goes_on_0 : SF :=
  (sAsg (.nm 2) (eCall F_l_mul (aCons (eCall F_l_sub (aCons (eOp oIx (eVar 0) (eC (.int 2))) (aCons (eOp oIx (eVar 0) (eC (.int 1))) aNil))) (aCons (eTup (aCons (eC (.int 1)) (aCons (eOp oIx (eVar 0) (eC (.int 0))) aNil))) aNil))))
def c_l_goes_on_1 : SF :=
  (sRet (eAnd (eOp oEq (eOp oIx (eVar 0) (eC (.int 2))) (eOp oIx (eVar 1) (eC (.int 1)))) (eOp oEq (eVar 2) (eCall F_l_mul (aCons (eCall F_l_sub (aCons (eOp oIx (eVar 1) (eC (.int 2))) (aCons (eOp oIx (eVar 1) (eC (.int 1))) aNil))) (aCons (eTup (aCons (eC (.int 1)) (aCons (eOp oIx (eVar 1) (eC (.int 0))) aNil))) aNil))))))
def b_l_goes_on : SF :=
  (sSeq c_l_goes_on_0
    c_l_goes_on_1)
def F_l_goes_on : FF := runF 3 2 b_l_goes_on
def c_l_places_0 : SF :=
  (sAsg (.nm 2) (eCall F_l_edges (aCons (eVar 1) aNil)))
def c_l_places_1 : SF :=
  (sAsg (.nm 3) (eOp oAdd (eOp oIx (eVar 2) (eCall F_l_draw (aCons (eVar 0) (aCons (eB cLen (aCons (eVar 2) aNil)) aNil)))) (eCall F_l_draw (aCons (eVar 0) (aCons (eC (.int 3)) aNil)))))
def c_l_places_2 : SF :=
  (sAsg (.nm 4) (eLst (aCons (eCall F_l_add (aCons (eTup (aCons (eVar 3) (aCons (eC (.int 1)) aNil))) (aCons (eCall F_l_low (aCons (eOp oAdd (eC (.int 1)) (eCall F_l_draw (aCons (eVar 0) (aCons (eC (.int 6)) aNil)))) (aCons (eC (.int 7)) aNil))) aNil))) (aCons (eTup (aCons (eC (.int 0)) (aCons (eC (.int 1)) aNil))) (aCons (eTup (aCons (eVar 3) (aCons (eC (.int 1)) aNil))) aNil)))))
def c_l_places_3 : SF :=
  (sExpr (eApp (eVar 4) (eCall F_l_add (aCons (eTup (aCons (eVar 3) (aCons (eC (.int 1)) aNil))) (aCons (eCall F_l_low (aCons (eOp oAdd (eC (.int 1)) (eCall F_l_draw (aCons (eVar 0) (aCons (eC (.int 10)) aNil)))) (aCons (eC (.int 11)) aNil))) aNil)))))
def c_l_places_4 : SF :=
  (sAsg (.nm 4) (eOp oAdd (eVar 4) (eLst (aCons (eTup (aCons (eOp oIx (eVar 2) (eCall F_l_draw (aCons (eVar 0) (aCons (eB cLen (aCons (eVar 2) aNil)) aNil)))) (aCons (eC (.int 1)) aNil))) (aCons (eTup (aCons (eOp oAdd (eOp oIx (eVar 2) (eNeg (eC (.int 1)))) (eCall F_l_draw (aCons (eVar 0) (aCons (eOp oPow (eC (.int 10)) (eC (.int 6))) aNil)))) (aCons (eC (.int 1)) aNil))) aNil)))))
def c_l_places_5 : SF :=
  (sExpr (eApp (eVar 4) (eCall F_l_low (aCons (eCall F_l_draw (aCons (eVar 0) (aCons (eOp oAdd (eC (.int 1)) (eOp oMul (eC (.int 97)) (eOp oIx (eVar 2) (eNeg (eC (.int 1)))))) aNil))) (aCons (eC (.int 97)) aNil)))))
def c_l_places_6 : SF :=
  (sRet (eVar 4))
def b_l_places : SF :=
  (sSeq c_l_places_0
    (sSeq c_l_places_1
    (sSeq c_l_places_2
    (sSeq c_l_places_3
    (sSeq c_l_places_4
    (sSeq c_l_places_5
    c_l_places_6))))))
def F_l_places : FF := runF 5 2 b_l_places
def c_l_far_0 : SF :=
  (sPar 1 2 (aCons (eCall F_l_above (aCons (eVar 0) aNil)) (aCons (eCall F_l_above (aCons (eVar 0) aNil)) aNil)))
def c_l_far_1 : SF :=
  (sAsg (.nm 3) (eOp oSub (eC (.int 200000)) (eOp oIx (eLst (aCons (eC (.int 0)) (aCons (eCall F_l_draw (aCons (eVar 0) (aCons (eC (.int 150000)) aNil))) aNil))) (eCall F_l_draw (aCons (eVar 0) (aCons (eC (.int 2)) aNil))))))
def c_l_far_2 : SF :=
  (sAsg (.nm 4) (eCall F_l_add (aCons (eVar 2) (aCons (eTup (aCons (eOp oAdd (eC (.int 1)) (eCall F_l_draw (aCons (eVar 0) (aCons (eOp oIx (eLst (aCons (eC (.int 9)) (aCons (eC (.int 899)) aNil))) (eCall F_l_draw (aCons (eVar 0) (aCons (eC (.int 2)) aNil)))) aNil)))) (aCons (eC (.int 1)) aNil))) aNil))))
def c_l_far_3 : SF :=
  (sIf (tTru (eOp oEq (eCall F_l_draw (aCons (eVar 0) (aCons (eC (.int 2)) aNil))) (eC (.int 0))))
    (sRet (eTup (aCons (eTup (aCons (eTup (aCons (eVar 3) (aCons (eVar 2) (aCons (eVar 4) aNil)))) aNil)) (aCons (eVar 1) aNil))))
    sNil)
def c_l_far_4 : SF :=
  (sAsg (.nm 5) (eOp oAdd (eC (.int 1)) (eCall F_l_draw (aCons (eVar 0) (aCons (eOp oSub (eVar 3) (eC (.int 1))) aNil)))))
def c_l_far_5 : SF :=
  (sRet (eTup (aCons (eTup (aCons (eTup (aCons (eVar 5) (aCons (eVar 2) (aCons (eVar 4) aNil)))) (aCons (eTup (aCons (eOp oSub (eVar 3) (eVar 5)) (aCons (eCall F_l_add (aCons (eVar 4) (aCons (eTup (aCons (eC (.int 1)) (aCons (eC (.int 1)) aNil))) aNil))) (aCons (eVar 2) aNil)))) aNil))) (aCons (eVar 1) aNil))))
def b_l_far : SF :=
  (sSeq c_l_far_0
    (sSeq c_l_far_1
    (sSeq c_l_far_2
    (sSeq c_l_far_3
    (sSeq c_l_far_4
    c_l_far_5)))))
def F_l_far : FF := runF 6 1 b_l_far
def c_l_wide_0 : SF :=
  (sPar 1 2 (aCons (eCall F_l_above (aCons (eVar 0) aNil)) (aCons (eLst aNil) aNil)))
def c_l_wide_1_0 : SF :=
  (sAsg (.nm 4) (eOp oAdd (eC (.int 1)) (eCall F_l_draw (aCons (eVar 0) (aCons (eOp oIx (eLst (aCons (eC (.int 5)) (aCons (eC (.int 8000)) aNil))) (eCall F_l_draw (aCons (eVar 0) (aCons (eC (.int 2)) aNil)))) aNil)))))
def c_l_wide_1_1 : SF :=
  (sExpr (eApp (eVar 2) (eTup (aCons (eVar 4) (aCons (eCall F_l_add (aCons (eVar 1) (aCons (eTup (aCons (eVar 3) (aCons (eC (.int 1)) aNil))) aNil))) (aCons (eCall F_l_add (aCons (eVar 1) (aCons (eTup (aCons (eOp oAdd (eVar 3) (eC (.int 2))) (aCons (eC (.int 1)) aNil))) aNil))) aNil))))))
def c_l_wide_1 : SF :=
  (sFor (iRng (aCons (eOp oAdd (eC (.int 17)) (eCall F_l_draw (aCons (eVar 0) (aCons (eC (.int 8)) aNil)))) aNil)) (.nm 3)
    (sSeq c_l_wide_1_0
    c_l_wide_1_1))
def c_l_wide_2 : SF :=
  (sRet (eTup (aCons (eB cTuple (aCons (eVar 2) aNil)) (aCons (eVar 1) aNil))))
def b_l_wide : SF :=
  (sSeq c_l_wide_0
    (sSeq c_l_wide_1
    c_l_wide_2))
def F_l_wide : FF := runF 5 1 b_l_wide
def c_is_stretch_0 : SF :=
  (sIf (bNot (tTru (eCall F_is_tuple_of (aCons (eVar 0) (aCons (eC (.int 3)) aNil)))))
    (sRet (eC (.bl false)))
    sNil)
def c_is_stretch_1 : SF :=
  (sAsg (.tp [(.nm 1), (.nm 2), (.nm 3)]) (eVar 0))
def c_is_stretch_2 : SF :=
  (sRet (eAnd (eCall F_is_whole_within (aCons (eVar 1) (aCons (eC (.int 1)) (aCons (eC (.int 200000)) aNil)))) (eAnd (eCall F_is_above_nought (aCons (eVar 2) aNil)) (eCall F_is_above_nought (aCons (eVar 3) aNil)))))
def b_is_stretch : SF :=
  (sSeq c_is_stretch_0
    (sSeq c_is_stretch_1
    c_is_stretch_2))
def F_is_stretch : FF := runF 4 1 b_is_stretch
def c_goes_on_0 : SF :=
  (sRet (eAnd (eOp oEq (eOp oIx (eVar 0) (eC (.int 2))) (eOp oIx (eVar 1) (eC (.int 1)))) (eOp oEq (eCall F_rise_of (aCons (eVar 0) aNil)) (eCall F_rise_of (aCons (eVar 1) aNil)))))
def b_goes_on : SF :=
  c_goes_on_0
def F_goes_on : FF := runF 2 2 b_goes_on
def c_length_within_0 : SF :=
  (sAsg (.nm 2) (eCall F_times (aCons (eCall F_rise_of (aCons (eVar 0) aNil)) (aCons (eTup (aCons (eOp oAdd (eOp oMul (eC (.int 2)) (eVar 1)) (eC (.int 1))) (aCons (eC (.int 2)) aNil))) aNil))))
def c_length_within_1 : SF :=
  (sRet (eCall F_plus (aCons (eOp oIx (eVar 0) (eC (.int 1))) (aCons (eVar 2) aNil))))
def b_length_within : SF :=
  (sSeq c_length_within_0
    c_length_within_1)
def F_length_within : FF := runF 3 2 b_length_within
def c_length_of_steps_0 : SF :=
  (sAsg (.nm 2) (eCall F_times (aCons (eCall F_rise_of (aCons (eVar 0) aNil)) (aCons (eTup (aCons (eOp oMul (eVar 1) (eVar 1)) (aCons (eC (.int 2)) aNil))) aNil))))
def c_length_of_steps_1 : SF :=
  (sRet (eCall F_plus (aCons (eCall F_times (aCons (eOp oIx (eVar 0) (eC (.int 1))) (aCons (eTup (aCons (eVar 1) (aCons (eC (.int 1)) aNil))) aNil))) (aCons (eVar 2) aNil))))
def b_length_of_steps : SF :=
  (sSeq c_length_of_steps_0
    c_length_of_steps_1)
def F_length_of_steps : FF := runF 3 2 b_length_of_steps
def fu_l_tempo_0 : Lc → Sto → Nat := fun (ρ : Lc) _ => 1000
def c_l_tempo_0 : SF :=
  (sAsg (.nm 2) (eCall F_l_above (aCons (eVar 0) aNil)))
def c_l_tempo_1 : SF :=
  (sAsg (.nm 3) (eLst aNil))
def c_l_tempo_2_0 : SF :=
  (sAsg (.nm 5) (eCall F_l_above (aCons (eVar 0) aNil)))
def c_l_tempo_2_1 : SF :=
  (sIf (bAnd (tTru (eOp oNe (eVar 3) (eLst aNil))) (tTru (eOp oEq (eCall F_l_draw (aCons (eVar 0) (aCons (eC (.int 2)) aNil))) (eC (.int 0)))))
    (sAsg (.nm 5) (eOp oIx (eOp oIx (eVar 3) (eNeg (eC (.int 1)))) (eC (.int 2))))
    sNil)
def c_l_tempo_2_2 : SF :=
  (sAsg (.nm 6) (eOp oIx (eLst (aCons (eVar 5) (aCons (eCall F_l_above (aCons (eVar 0) aNil)) (aCons (eVar 2) aNil)))) (eCall F_l_draw (aCons (eVar 0) (aCons (eC (.int 3)) aNil)))))
def c_l_tempo_2_3 : SF :=
  (sAsg (.nm 7) (eTup (aCons (eOp oAdd (eC (.int 1)) (eCall F_l_draw (aCons (eVar 0) (aCons (eOp oIx (eLst (aCons (eC (.int 12)) (aCons (eC (.int 12)) (aCons (eC (.int 9000)) aNil)))) (eCall F_l_draw (aCons (eVar 0) (aCons (eC (.int 3)) aNil)))) aNil)))) (aCons (eVar 5) (aCons (eVar 6) aNil)))))
def c_l_tempo_2_4 : SF :=
  (sIf (bOr (tTru (eOp oEq (eVar 3) (eLst aNil))) (bNot (tTru (eCall F_l_goes_on (aCons (eOp oIx (eVar 3) (eNeg (eC (.int 1)))) (aCons (eVar 7) aNil))))))
    (sExpr (eApp (eVar 3) (eVar 7)))
    sNil)
def c_l_tempo_2 : SF :=
  (sFor (iRng (aCons (eCall F_l_draw (aCons (eVar 0) (aCons (eOp oAdd (eVar 1) (eC (.int 1))) aNil))) aNil)) (.nm 4)
    (sSeq c_l_tempo_2_0
    (sSeq c_l_tempo_2_1
    (sSeq c_l_tempo_2_2
    (sSeq c_l_tempo_2_3
    c_l_tempo_2_4)))))
def c_l_tempo_3_0 : SF :=
  (sExpr (ePop (eVar 3)))
def c_l_tempo_3 : SF :=
  (sWh fu_l_tempo_0 (bAnd (tTru (eOp oNe (eVar 3) (eLst aNil))) (tTru (eOp oEq (eSl (eOp oIx (eVar 3) (eNeg (eC (.int 1)))) (pAt (eC (.int 1))) pNo) (eTup (aCons (eVar 2) (aCons (eVar 2) aNil))))))
    c_l_tempo_3_0)
def c_l_tempo_4 : SF :=
  (sRet (eTup (aCons (eB cTuple (aCons (eVar 3) aNil)) (aCons (eVar 2) aNil))))
def b_l_tempo : SF :=
  (sSeq c_l_tempo_0
    (sSeq c_l_tempo_1
    (sSeq c_l_tempo_2
    (sSeq c_l_tempo_3
    c_l_tempo_4))))
def F_l_tempo : FF := runF 8 2 b_l_tempo
def c_is_plain_0_0 : SF :=
  (sIf (tTru (eCall F_goes_on (aCons (eOp oIx (eVar 0) (eOp oSub (eVar 2) (eC (.int 1)))) (aCons (eOp oIx (eVar 0) (eVar 2)) aNil))))
    (sRet (eC (.bl false)))
    sNil)
def c_is_plain_0 : SF :=
  (sFor (iRng (aCons (eC (.int 1)) (aCons (eB cLen (aCons (eVar 0) aNil)) aNil))) (.nm 2)
    c_is_plain_0_0)
def c_is_plain_1 : SF :=
  (sRet (eOr (eNot (eVar 0)) (eOp oNe (eSl (eOp oIx (eVar 0) (eNeg (eC (.int 1)))) (pAt (eC (.int 1))) pNo) (eTup (aCons (eVar 1) (aCons (eVar 1) aNil))))))
def b_is_plain : SF :=
  (sSeq c_is_plain_0
    c_is_plain_1)
def F_is_plain : FF := runF 3 2 b_is_plain
def c_moment_within_0 : SF :=
  (sAsg (.nm 2) (eCall F_floor_of (aCons (eVar 1) aNil)))
def c_moment_within_1 : SF :=
  (sAsg (.nm 3) (eCall F_minus (aCons (eVar 1) (aCons (eTup (aCons (eVar 2) (aCons (eC (.int 1)) aNil))) aNil))))
def c_moment_within_2 : SF :=
  (sRet (eCall F_plus (aCons (eCall F_length_of_steps (aCons (eVar 0) (aCons (eVar 2) aNil))) (aCons (eCall F_times (aCons (eVar 3) (aCons (eCall F_length_within (aCons (eVar 0) (aCons (eVar 2) aNil))) aNil))) aNil))))
def b_moment_within : SF :=
  (sSeq c_moment_within_0
    (sSeq c_moment_within_1
    c_moment_within_2))
def F_moment_within : FF := runF 4 2 b_moment_within
def c_place_within_0 : SF :=
  (sAsg (.nm 2) (eCall F_step_at (aCons (eVar 0) (aCons (eVar 1) aNil))))
def c_place_within_1 : SF :=
  (sAsg (.nm 3) (eCall F_minus (aCons (eVar 1) (aCons (eCall F_length_of_steps (aCons (eVar 0) (aCons (eVar 2) aNil))) aNil))))
def c_place_within_2 : SF :=
  (sRet (eCall F_plus (aCons (eTup (aCons (eVar 2) (aCons (eC (.int 1)) aNil))) (aCons (eCall F_over (aCons (eVar 3) (aCons (eCall F_length_within (aCons (eVar 0) (aCons (eVar 2) aNil))) aNil))) aNil))))
def b_place_within : SF :=
  (sSeq c_place_within_0
    (sSeq c_place_within_1
    c_place_within_2))
def F_place_within : FF := runF 4 2 b_place_within
def c_is_tempo_0 : SF :=
  (sIf (bNot (tTru (eCall F_is_tuple_of (aCons (eVar 0) (aCons (eC (.int 2)) aNil)))))
    (sRet (eC (.bl false)))
    sNil)
def c_is_tempo_1 : SF :=
  (sAsg (.tp [(.nm 1), (.nm 2)]) (eVar 0))
def c_is_tempo_2 : SF :=
  (sIf (bOr (bNot (tTru (eIs (eVar 1) "tuple"))) (tTru (eOp oGt (eB cLen (aCons (eVar 1) aNil)) (eC (.int 24)))))
    (sRet (eC (.bl false)))
    sNil)
def c_is_tempo_3 : SF :=
  (sIf (bOr (bNot (tTru (eCall F_is_above_nought (aCons (eVar 2) aNil)))) (bNot (tTru (eB cAll (aCons (eLc (jTup (eVar 1)) (.nm 3) cYes (eCall F_is_stretch (aCons (eVar 3) aNil)) [3]) aNil)))))
    (sRet (eC (.bl false)))
    sNil)
def c_is_tempo_4 : SF :=
  (sRet (eAnd (eOp oLe (eB cSum (aCons (eLc (jTup (eVar 1)) (.nm 3) cYes (eOp oIx (eVar 3) (eC (.int 0))) [3]) aNil)) (eC (.int 200000))) (eCall F_is_plain (aCons (eVar 1) (aCons (eVar 2) aNil)))))
def b_is_tempo : SF :=
  (sSeq c_is_tempo_0
    (sSeq c_is_tempo_1
    (sSeq c_is_tempo_2
    (sSeq c_is_tempo_3
    c_is_tempo_4))))
def F_is_tempo : FF := runF 4 1 b_is_tempo
def c_refuse_no_tempo_0 : SF :=
  (sIf (bNot (tTru (eCall F_is_tempo (aCons (eVar 0) aNil))))
    sNo
    sNil)
def b_refuse_no_tempo : SF :=
  c_refuse_no_tempo_0
def F_refuse_no_tempo : FF := runF 1 1 b_refuse_no_tempo
def c_length_of_0 : SF :=
  (sExpr (eCall F_refuse_no_tempo (aCons (eVar 0) aNil)))
def c_length_of_1 : SF :=
  (sIf (bOr (bNot (tTru (eCall F_is_whole (aCons (eVar 1) aNil)))) (tTru (eOp oLt (eVar 1) (eC (.int 0)))))
    sNo
    sNil)
def c_length_of_2 : SF :=
  (sAsg (.tp [(.nm 2), (.nm 3)]) (eVar 0))
def c_length_of_3 : SF :=
  (sAsg (.nm 4) (eC (.int 0)))
def c_length_of_4_0 : SF :=
  (sIf (tTru (eOp oLt (eVar 1) (eOp oAdd (eVar 4) (eOp oIx (eVar 5) (eC (.int 0))))))
    (sRet (eCall F_length_within (aCons (eVar 5) (aCons (eOp oSub (eVar 1) (eVar 4)) aNil))))
    sNil)
def c_length_of_4_1 : SF :=
  (sAug 4 (eOp oIx (eVar 5) (eC (.int 0))))
def c_length_of_4 : SF :=
  (sFor (jTup (eVar 2)) (.nm 5)
    (sSeq c_length_of_4_0
    c_length_of_4_1))
def c_length_of_5 : SF :=
  (sRet (eVar 3))
def b_length_of : SF :=
  (sSeq c_length_of_0
    (sSeq c_length_of_1
    (sSeq c_length_of_2
    (sSeq c_length_of_3
    (sSeq c_length_of_4
    c_length_of_5)))))
def F_length_of : FF := runF 6 2 b_length_of
def c_moment_of_0 : SF :=
  (sExpr (eCall F_refuse_no_tempo (aCons (eVar 0) aNil)))
def c_moment_of_1 : SF :=
  (sIf (bNot (tTru (eCall F_is_from_nought (aCons (eVar 1) aNil))))
    sNo
    sNil)
def c_moment_of_2 : SF :=
  (sAsg (.tp [(.nm 2), (.nm 3)]) (eVar 0))
def c_moment_of_3 : SF :=
  (sAsg (.nm 4) (eC (.tup [(.int 0), (.int 1)])))
def c_moment_of_4 : SF :=
  (sAsg (.nm 5) (eVar 1))
def c_moment_of_5_0 : SF :=
  (sAsg (.nm 7) (eTup (aCons (eOp oIx (eVar 6) (eC (.int 0))) (aCons (eC (.int 1)) aNil))))
def c_moment_of_5_1 : SF :=
  (sIf (tTru (eCall F_is_less (aCons (eVar 5) (aCons (eVar 7) aNil))))
    (sRet (eCall F_plus (aCons (eVar 4) (aCons (eCall F_moment_within (aCons (eVar 6) (aCons (eVar 5) aNil))) aNil))))
    sNil)
def c_moment_of_5_2 : SF :=
  (sAsg (.nm 4) (eCall F_plus (aCons (eVar 4) (aCons (eCall F_length_of_steps (aCons (eVar 6) (aCons (eOp oIx (eVar 6) (eC (.int 0))) aNil))) aNil))))
def c_moment_of_5_3 : SF :=
  (sAsg (.nm 5) (eCall F_minus (aCons (eVar 5) (aCons (eVar 7) aNil))))
def c_moment_of_5 : SF :=
  (sFor (jTup (eVar 2)) (.nm 6)
    (sSeq c_moment_of_5_0
    (sSeq c_moment_of_5_1
    (sSeq c_moment_of_5_2
    c_moment_of_5_3))))
def c_moment_of_6 : SF :=
  (sRet (eCall F_plus (aCons (eVar 4) (aCons (eCall F_times (aCons (eVar 5) (aCons (eVar 3) aNil))) aNil))))
def b_moment_of : SF :=
  (sSeq c_moment_of_0
    (sSeq c_moment_of_1
    (sSeq c_moment_of_2
    (sSeq c_moment_of_3
    (sSeq c_moment_of_4
    (sSeq c_moment_of_5
    c_moment_of_6))))))
def F_moment_of : FF := runF 8 2 b_moment_of
def c_place_of_0 : SF :=
  (sExpr (eCall F_refuse_no_tempo (aCons (eVar 0) aNil)))
def c_place_of_1 : SF :=
  (sIf (bNot (tTru (eCall F_is_from_nought (aCons (eVar 1) aNil))))
    sNo
    sNil)
def c_place_of_2 : SF :=
  (sAsg (.tp [(.nm 2), (.nm 3)]) (eVar 0))
def c_place_of_3 : SF :=
  (sAsg (.nm 4) (eC (.int 0)))
def c_place_of_4 : SF :=
  (sAsg (.nm 5) (eVar 1))
def c_place_of_5_0 : SF :=
  (sAsg (.nm 7) (eCall F_length_of_steps (aCons (eVar 6) (aCons (eOp oIx (eVar 6) (eC (.int 0))) aNil))))
def c_place_of_5_1 : SF :=
  (sIf (tTru (eCall F_is_less (aCons (eVar 5) (aCons (eVar 7) aNil))))
    (sRet (eCall F_plus (aCons (eTup (aCons (eVar 4) (aCons (eC (.int 1)) aNil))) (aCons (eCall F_place_within (aCons (eVar 6) (aCons (eVar 5) aNil))) aNil))))
    sNil)
def c_place_of_5_2 : SF :=
  (sAug 4 (eOp oIx (eVar 6) (eC (.int 0))))
def c_place_of_5_3 : SF :=
  (sAsg (.nm 5) (eCall F_minus (aCons (eVar 5) (aCons (eVar 7) aNil))))
def c_place_of_5 : SF :=
  (sFor (jTup (eVar 2)) (.nm 6)
    (sSeq c_place_of_5_0
    (sSeq c_place_of_5_1
    (sSeq c_place_of_5_2
    c_place_of_5_3))))
def c_place_of_6 : SF :=
  (sRet (eCall F_plus (aCons (eTup (aCons (eVar 4) (aCons (eC (.int 1)) aNil))) (aCons (eCall F_over (aCons (eVar 5) (aCons (eVar 3) aNil))) aNil))))
def b_place_of : SF :=
  (sSeq c_place_of_0
    (sSeq c_place_of_1
    (sSeq c_place_of_2
    (sSeq c_place_of_3
    (sSeq c_place_of_4
    (sSeq c_place_of_5
    c_place_of_6))))))
def F_place_of : FF := runF 8 2 b_place_of
def c_l_div_0 : SF :=
  (sRet (eCall F_l_low (aCons (eOp oMul (eOp oIx (eVar 0) (eC (.int 0))) (eOp oIx (eVar 1) (eC (.int 1)))) (aCons (eOp oMul (eOp oIx (eVar 0) (eC (.int 1))) (eOp oIx (eVar 1) (eC (.int 0)))) aNil))))
def b_l_div : SF :=
  c_l_div_0
def F_l_div : FF := runF 2 2 b_l_div
def c_l_line_0 : SF :=
  (sRet (eCall F_l_add (aCons (eOp oIx (eVar 0) (eC (.int 1))) (aCons (eCall F_l_mul (aCons (eCall F_l_sub (aCons (eOp oIx (eVar 0) (eC (.int 2))) (aCons (eOp oIx (eVar 0) (eC (.int 1))) aNil))) (aCons (eCall F_l_low (aCons (eVar 1) (aCons (eOp oMul (eC (.int 2)) (eOp oIx (eVar 0) (eC (.int 0)))) aNil))) aNil))) aNil))))
def b_l_line : SF :=
  c_l_line_0
def F_l_line : FF := runF 2 2 b_l_line
def c_l_moment_0 : SF :=
  (sPar 2 3 (aCons (eOp oDiv (eOp oIx (eVar 1) (eC (.int 0))) (eOp oIx (eVar 1) (eC (.int 1)))) (aCons (eTup (aCons (eC (.int 0)) (aCons (eC (.int 1)) aNil))) aNil)))
def c_l_moment_1 : SF :=
  (sAsg (.nm 4) (eCall F_l_low (aCons (eOp oMod (eOp oIx (eVar 1) (eC (.int 0))) (eOp oIx (eVar 1) (eC (.int 1)))) (aCons (eOp oIx (eVar 1) (eC (.int 1))) aNil))))
def c_l_moment_2_0 : SF :=
  (sAsg (.nm 6) (eB cMin (aCons (eVar 2) (aCons (eOp oIx (eVar 5) (eC (.int 0))) aNil))))
def c_l_moment_2_1 : SF :=
  (sAsg (.nm 3) (eCall F_l_add (aCons (eVar 3) (aCons (eCall F_l_mul (aCons (eTup (aCons (eVar 6) (aCons (eC (.int 1)) aNil))) (aCons (eCall F_l_line (aCons (eVar 5) (aCons (eVar 6) aNil))) aNil))) aNil))))
def c_l_moment_2_2 : SF :=
  (sIf (tTru (eOp oLt (eVar 2) (eOp oIx (eVar 5) (eC (.int 0)))))
    (sRet (eCall F_l_add (aCons (eVar 3) (aCons (eCall F_l_mul (aCons (eVar 4) (aCons (eCall F_l_line (aCons (eVar 5) (aCons (eOp oAdd (eOp oMul (eC (.int 2)) (eVar 2)) (eC (.int 1))) aNil))) aNil))) aNil))))
    sNil)
def c_l_moment_2_3 : SF :=
  (sAsg (.nm 2) (eOp oSub (eVar 2) (eOp oIx (eVar 5) (eC (.int 0)))))
def c_l_moment_2 : SF :=
  (sFor (jTup (eOp oIx (eVar 0) (eC (.int 0)))) (.nm 5)
    (sSeq c_l_moment_2_0
    (sSeq c_l_moment_2_1
    (sSeq c_l_moment_2_2
    c_l_moment_2_3))))
def c_l_moment_3 : SF :=
  (sRet (eCall F_l_add (aCons (eVar 3) (aCons (eCall F_l_mul (aCons (eCall F_l_add (aCons (eTup (aCons (eVar 2) (aCons (eC (.int 1)) aNil))) (aCons (eVar 4) aNil))) (aCons (eOp oIx (eVar 0) (eC (.int 1))) aNil))) aNil))))
def b_l_moment : SF :=
  (sSeq c_l_moment_0
    (sSeq c_l_moment_1
    (sSeq c_l_moment_2
    c_l_moment_3)))
def F_l_moment : FF := runF 7 2 b_l_moment
def fu_l_place_0 : Lc → Sto → Nat := fun (ρ : Lc) _ => 100000
def fu_l_place_1 : Lc → Sto → Nat := fun (ρ : Lc) _ => 100000
def c_l_place_0 : SF :=
  (sAsg (.tp [(.nm 2), (.nm 3)]) (eTup (aCons (eC (.int 0)) (aCons (eC (.int 1)) aNil))))
def c_l_place_1_0 : SF :=
  (sPar 2 3 (aCons (eVar 3) (aCons (eOp oMul (eC (.int 2)) (eVar 3)) aNil)))
def c_l_place_1 : SF :=
  (sWh fu_l_place_0 (bNot (tTru (eCall F_l_less (aCons (eVar 1) (aCons (eCall F_l_moment (aCons (eVar 0) (aCons (eTup (aCons (eVar 3) (aCons (eC (.int 1)) aNil))) aNil))) aNil)))))
    c_l_place_1_0)
def c_l_place_2_0 : SF :=
  (sAsg (.nm 4) (eOp oDiv (eOp oAdd (eVar 2) (eVar 3)) (eC (.int 2))))
def c_l_place_2_1 : SF :=
  (sIf (tTru (eCall F_l_less (aCons (eVar 1) (aCons (eCall F_l_moment (aCons (eVar 0) (aCons (eTup (aCons (eVar 4) (aCons (eC (.int 1)) aNil))) aNil))) aNil))))
    (sAsg (.nm 3) (eVar 4))
    (sAsg (.nm 2) (eVar 4)))
def c_l_place_2 : SF :=
  (sWh fu_l_place_1 (tTru (eOp oGt (eOp oSub (eVar 3) (eVar 2)) (eC (.int 1))))
    (sSeq c_l_place_2_0
    c_l_place_2_1))
def c_l_place_3 : SF :=
  (sPar 5 6 (aCons (eCall F_l_moment (aCons (eVar 0) (aCons (eTup (aCons (eVar 2) (aCons (eC (.int 1)) aNil))) aNil))) (aCons (eCall F_l_moment (aCons (eVar 0) (aCons (eTup (aCons (eOp oAdd (eVar 2) (eC (.int 1))) (aCons (eC (.int 1)) aNil))) aNil))) aNil)))
def c_l_place_4 : SF :=
  (sRet (eCall F_l_add (aCons (eTup (aCons (eVar 2) (aCons (eC (.int 1)) aNil))) (aCons (eCall F_l_div (aCons (eCall F_l_sub (aCons (eVar 1) (aCons (eVar 5) aNil))) (aCons (eCall F_l_sub (aCons (eVar 6) (aCons (eVar 5) aNil))) aNil))) aNil))))
def b_l_place : SF :=
  (sSeq c_l_place_0
    (sSeq c_l_place_1
    (sSeq c_l_place_2
    (sSeq c_l_place_3
    c_l_place_4))))
def F_l_place : FF := runF 7 2 b_l_place
def c_l_near_0 : SF :=
  (sAsg (.nm 2) (eCall F_l_add (aCons (eOp oIx (eVar 1) (eC (.int 1))) (aCons (eTup (aCons (eC (.int 1)) (aCons (eC (.int 2)) aNil))) aNil))))
def c_l_near_1 : SF :=
  (sIf (bOr (tTru (eOp oEq (eCall F_l_draw (aCons (eVar 0) (aCons (eC (.int 2)) aNil))) (eC (.int 0)))) (bAnd (tTru (eOp oNe (eOp oIx (eVar 1) (eC (.int 0))) (eTup aNil))) (tTru (eOp oEq (eSl (eOp oIx (eOp oIx (eVar 1) (eC (.int 0))) (eNeg (eC (.int 1)))) (pAt (eC (.int 1))) pNo) (eTup (aCons (eVar 2) (aCons (eVar 2) aNil)))))))
    (sRet (eCall F_l_tempo (aCons (eVar 0) (aCons (eC (.int 3)) aNil))))
    sNil)
def c_l_near_2 : SF :=
  (sRet (eTup (aCons (eOp oIx (eVar 1) (eC (.int 0))) (aCons (eVar 2) aNil))))
def b_l_near : SF :=
  (sSeq c_l_near_0
    (sSeq c_l_near_1
    c_l_near_2))
def F_l_near : FF := runF 3 2 b_l_near
def c_l_far_right_0 : SF :=
  (sAsg (.nm 1) (eIf (tTru (eOp oEq (eCall F_l_draw (aCons (eVar 0) (aCons (eC (.int 2)) aNil))) (eC (.int 0)))) (eCall F_l_far (aCons (eVar 0) aNil)) (eCall F_l_wide (aCons (eVar 0) aNil))))
def c_l_far_right_1 : SF :=
  (sAsg (.nm 2) (eB cSum (aCons (eLc (jTup (eOp oIx (eVar 1) (eC (.int 0)))) (.nm 3) cYes (eOp oIx (eVar 3) (eC (.int 0))) [3]) aNil)))
def c_l_far_right_2_0_0 : SF :=
  (sAsg (.nm 6) (eCall F_moment_of (aCons (eVar 1) (aCons (eVar 5) aNil))))
def c_l_far_right_2_0_1 : SF :=
  (sIf (bOr (bNot (tTru (eCall F_l_same (aCons (eVar 6) (aCons (eCall F_l_moment (aCons (eVar 1) (aCons (eVar 5) aNil))) aNil))))) (bNot (tTru (eCall F_l_same (aCons (eCall F_place_of (aCons (eVar 1) (aCons (eVar 6) aNil))) (aCons (eVar 5) aNil))))))
    (sRet (eC (.bl false)))
    sNil)
def c_l_far_right_2_0 : SF :=
  (sFor (jTup (eTup (aCons (eTup (aCons (eVar 4) (aCons (eC (.int 1)) aNil))) (aCons (eTup (aCons (eOp oAdd (eOp oMul (eC (.int 2)) (eVar 4)) (eC (.int 1))) (aCons (eC (.int 2)) aNil))) aNil)))) (.nm 5)
    (sSeq c_l_far_right_2_0_0
    c_l_far_right_2_0_1))
def c_l_far_right_2 : SF :=
  (sFor (jTup (eTup (aCons (eCall F_l_draw (aCons (eVar 0) (aCons (eVar 2) aNil))) (aCons (eOp oSub (eOp oSub (eVar 2) (eC (.int 1))) (eCall F_l_draw (aCons (eVar 0) (aCons (eC (.int 9)) aNil)))) (aCons (eCall F_l_draw (aCons (eVar 0) (aCons (eC (.int 9)) aNil))) (aCons (eCall F_l_draw (aCons (eVar 0) (aCons (eVar 2) aNil))) aNil)))))) (.nm 4)
    c_l_far_right_2_0)
def c_l_far_right_3 : SF :=
  (sRet (eC (.bl true)))
def b_l_far_right : SF :=
  (sSeq c_l_far_right_0
    (sSeq c_l_far_right_1
    (sSeq c_l_far_right_2
    c_l_far_right_3)))
def F_l_far_right : FF := runF 7 1 b_l_far_right
def c_l_fine_right_0 : SF :=
  (sAsg (.nm 1) (eLc (iRng (aCons (eC (.int 5)) aNil)) (.nm 2) cYes (eCall F_l_low (aCons (eOp oAdd (eC (.int 1)) (eCall F_l_draw (aCons (eVar 0) (aCons (eOp oSub (eOp oPow (eC (.int 10)) (eC (.int 12))) (eC (.int 1))) aNil)))) (aCons (eOp oSub (eOp oSub (eOp oPow (eC (.int 10)) (eC (.int 12))) (eC (.int 1))) (eCall F_l_draw (aCons (eVar 0) (aCons (eC (.int 99)) aNil)))) aNil))) [2]))
def c_l_fine_right_1 : SF :=
  (sAsg (.nm 3) (eLc (iRng (aCons (eC (.int 2)) aNil)) (.nm 2) cYes (eCall F_l_low (aCons (eOp oAdd (eC (.int 1)) (eCall F_l_draw (aCons (eVar 0) (aCons (eOp oSub (eOp oPow (eC (.int 10)) (eC (.int 12))) (eC (.int 1))) aNil)))) (aCons (eOp oAdd (eC (.int 1)) (eCall F_l_draw (aCons (eVar 0) (aCons (eC (.int 999)) aNil)))) aNil))) [2]))
def c_l_fine_right_2 : SF :=
  (sAsg (.nm 4) (eTup (aCons (eTup (aCons (eTup (aCons (eOp oAdd (eC (.int 1)) (eCall F_l_draw (aCons (eVar 0) (aCons (eC (.int 9000)) aNil)))) (aCons (eOp oIx (eVar 1) (eC (.int 0))) (aCons (eOp oIx (eVar 1) (eC (.int 1))) aNil)))) aNil)) (aCons (eOp oIx (eVar 1) (eC (.int 2))) aNil))))
def c_l_fine_right_3 : SF :=
  (sIf (tTru (eOp oEq (eSl (eVar 1) pNo (pAt (eC (.int 2)))) (eLst (aCons (eOp oIx (eVar 1) (eC (.int 2))) (aCons (eOp oIx (eVar 1) (eC (.int 2))) aNil)))))
    (sAsg (.nm 4) (eTup (aCons (eTup aNil) (aCons (eOp oIx (eVar 1) (eC (.int 2))) aNil))))
    sNil)
def c_l_fine_right_4_0 : SF :=
  (sAsg (.nm 6) (eCall F_moment_of (aCons (eVar 4) (aCons (eVar 5) aNil))))
def c_l_fine_right_4_1 : SF :=
  (sIf (bOr (bNot (tTru (eCall F_l_same (aCons (eVar 6) (aCons (eCall F_l_moment (aCons (eVar 4) (aCons (eVar 5) aNil))) aNil))))) (bNot (tTru (eCall F_l_same (aCons (eCall F_place_of (aCons (eVar 4) (aCons (eVar 6) aNil))) (aCons (eVar 5) aNil))))))
    (sRet (eC (.bl false)))
    sNil)
def c_l_fine_right_4 : SF :=
  (sFor (jTup (eTup (aCons (eOp oIx (eVar 1) (eC (.int 3))) (aCons (eOp oIx (eVar 3) (eC (.int 0))) aNil)))) (.nm 5)
    (sSeq c_l_fine_right_4_0
    c_l_fine_right_4_1))
def c_l_fine_right_5_0 : SF :=
  (sIf (bNot (tTru (eCall F_l_same (aCons (eCall F_place_of (aCons (eVar 4) (aCons (eVar 6) aNil))) (aCons (eCall F_l_place (aCons (eVar 4) (aCons (eVar 6) aNil))) aNil)))))
    (sRet (eC (.bl false)))
    sNil)
def c_l_fine_right_5 : SF :=
  (sFor (jTup (eTup (aCons (eOp oIx (eVar 1) (eC (.int 4))) (aCons (eOp oIx (eVar 3) (eC (.int 1))) aNil)))) (.nm 6)
    c_l_fine_right_5_0)
def c_l_fine_right_6 : SF :=
  (sRet (eC (.bl true)))
def b_l_fine_right : SF :=
  (sSeq c_l_fine_right_0
    (sSeq c_l_fine_right_1
    (sSeq c_l_fine_right_2
    (sSeq c_l_fine_right_3
    (sSeq c_l_fine_right_4
    (sSeq c_l_fine_right_5
    c_l_fine_right_6))))))
def F_l_fine_right : FF := runF 7 1 b_l_fine_right
end Fx
set_option Elab.async false
set_option linter.all false
set_option maxRecDepth 100000
/-! how the functions of data are reckoned: equations for simp -/
noncomputable section
namespace DL
open PySem L2
@[simp] theorem bind_ok {α β : Type} (a : α) (S : Sto) (k : α → Sto → Res β) : (Res.ok a S).bind k = k a S := rfl
@[simp] theorem bind_no {α β : Type} (k : α → Sto → Res β) : (Res.no : Res α).bind k = .no := rfl
@[simp] theorem bind_ex {α β : Type} (c : Addr) (S : Sto) (k : α → Sto → Res β) : (Res.ex c S : Res α).bind k = .ex c S := rfl
@[simp] theorem sb_ok {α : Type} (a : α) (S : Sto) (ρ : Lc) (k : α → Sto → SR) : (Res.ok a S).sb ρ k = k a S := rfl
@[simp] theorem sb_no {α : Type} (ρ : Lc) (k : α → Sto → SR) : (Res.no : Res α).sb ρ k = .no := rfl
@[simp] theorem noex_ok {α : Type} (a : α) (S : Sto) : (Res.ok a S).noex = .ok a S := rfl
@[simp] theorem noex_no {α : Type} : (Res.no : Res α).noex = .no := rfl
@[simp] theorem eC_eq (d : D) (ρ : Lc) (S : Sto) : eC d ρ S = .ok d S := rfl
@[simp] theorem eVar_0 (d : D) (ρ : Lc) (S : Sto) : eVar 0 (some d :: ρ) S = .ok d S := rfl
@[simp] theorem eVar_s (i : Nat) (o : Option D) (ρ : Lc) (S : Sto) : eVar (i + 1) (o :: ρ) S = eVar i ρ S := rfl
@[simp] theorem aNil_eq (ρ : Lc) (S : Sto) : aNil ρ S = .ok [] S := rfl
@[simp] theorem aCons_eq (a : EF) (r : AF) (ρ : Lc) (S : Sto) : aCons a r ρ S = (a ρ S).bind fun x S1 => (r ρ S1).bind fun xs S2 => .ok (x :: xs) S2 := rfl
@[simp] theorem eOp_eq (o : OF) (a b : EF) (ρ : Lc) (S : Sto) : eOp o a b ρ S = (a ρ S).bind fun x S1 => (b ρ S1).bind fun y S2 => o x y S2 := rfl
@[simp] theorem eCall_eq (F : FF) (a : AF) (ρ : Lc) (S : Sto) : eCall F a ρ S = (a ρ S).bind fun ds S1 => (F ds S1).noex := rfl
@[simp] theorem eB_eq (F : FF) (a : AF) (ρ : Lc) (S : Sto) : eB F a ρ S = (a ρ S).bind fun ds S1 => F ds S1 := rfl
@[simp] theorem oAdd_int (i j : Int) (S : Sto) : oAdd (.int i) (.int j) S = .ok (.int (i + j)) S := rfl
@[simp] theorem oSub_int (i j : Int) (S : Sto) : oSub (.int i) (.int j) S = .ok (.int (i - j)) S := rfl
@[simp] theorem oLt_int (i j : Int) (S : Sto) : oLt (.int i) (.int j) S = .ok (.bl (decide (i < j))) S := rfl
@[simp] theorem oLe_int (i j : Int) (S : Sto) : oLe (.int i) (.int j) S = .ok (.bl (decide (i ≤ j))) S := rfl
@[simp] theorem oGt_int (i j : Int) (S : Sto) : oGt (.int i) (.int j) S = .ok (.bl (decide (j < i))) S := rfl
@[simp] theorem oGe_int (i j : Int) (S : Sto) : oGe (.int i) (.int j) S = .ok (.bl (decide (j ≤ i))) S := rfl
theorem oMul_int {i j : Int} (S : Sto) (h : mulOk i j = true) : oMul (.int i) (.int j) S = .ok (.int (i * j)) S := by
  show (if mulOk i j = true then _ else _) = _
  rw [if_pos h]
theorem oDiv_int {i j : Int} (S : Sto) (h : divOk i j = true) : oDiv (.int i) (.int j) S = .ok (.int (i.fdiv j)) S := by
  unfold oDiv oI
  simp [h]
theorem oMod_int {i j : Int} (S : Sto) (h : 0 < j) : oMod (.int i) (.int j) S = .ok (.int (i % j)) S := by
  unfold oMod oI
  simp only [gd_of h, if_true]
theorem oPow_int {i j : Int} (S : Sto) (h : 0 ≤ j ∧ j ≤ 1000000 ∧ i.natAbs < 2 ^ 64) : oPow (.int i) (.int j) S = .ok (.int (i ^ j.toNat)) S := by
  unfold oPow oI
  simp only [gd_of h, if_true]
/-- from bounds by powers of two -/
theorem mulOk_of {i j : Int} {a b : Nat} (ha : i.natAbs < 2 ^ a) (hb : j.natAbs < 2 ^ b) (h : a + b ≤ 134217728) : mulOk i j = true := by
  have x := PyProof.Rows.intBits_le ha
  have y := PyProof.Rows.intBits_le hb
  exact gd_of (by omega)
theorem divOk_of {i j : Int} {b : Nat} (h : j ≠ 0) (hb : j.natAbs < 2 ^ b) (h9 : b ≤ 9000) : divOk i j = true := by
  refine gd_of ⟨h, PyProof.noPylong_of_log2 (show j.natAbs.log2 < 9000 from ?_)⟩
  have hn : j.natAbs ≠ 0 := by omega
  have := (Nat.log2_lt hn).mpr hb
  omega
theorem atI_cast {α : Type} (l : List α) (j : Nat) : atI l (j : Int) = l[j]? := by
  unfold atI ixN
  rw [if_pos (Int.natCast_nonneg j)]
  by_cases h : j < l.length
  · rw [if_pos (by omega)]; simp
  · rw [if_neg (by omega)]
    simp only [Option.bind_none]
    exact (List.getElem?_eq_none (by omega)).symm
@[simp] theorem atI_0 {α : Type} (a : α) (l : List α) : atI (a :: l) 0 = some a := atI_cast _ 0
@[simp] theorem atI_1 {α : Type} (a b : α) (l : List α) : atI (a :: b :: l) 1 = some b := atI_cast _ 1
@[simp] theorem atI_2 {α : Type} (a b c : α) (l : List α) : atI (a :: b :: c :: l) 2 = some c := atI_cast _ 2
@[simp] theorem atI_3 {α : Type} (a b c d : α) (l : List α) : atI (a :: b :: c :: d :: l) 3 = some d := atI_cast _ 3
@[simp] theorem oIx_tup (xs : List D) (i : Int) (S : Sto) : oIx (.tup xs) (.int i) S = match atI xs i with | some d => .ok d S | none => .no := rfl
theorem oIx_ob {n : Nat} {xs : List D} {S : Sto} (h : S[n]? = some (.lst xs)) (i : Int) : oIx (.ob n) (.int i) S = match atI xs i with | some d => .ok d S | none => .no := by
  simp only [oIx, h]
  try (cases atI xs i <;> rfl)
@[simp] theorem truD_bl (b : Bool) (S : Sto) : truD (.bl b) S = some b := rfl
@[simp] theorem truD_int (i : Int) (S : Sto) : truD (.int i) S = some (i != 0) := rfl
@[simp] theorem truD_non (S : Sto) : truD .non S = some false := rfl
@[simp] theorem tTru_eq (a : EF) (ρ : Lc) (S : Sto) : tTru a ρ S = (a ρ S).bind fun d S1 => match truD d S1 with | some k => .ok k S1 | none => .no := rfl
@[simp] theorem sSeq_eq (a b : SF) (ρ : Lc) (S : Sto) : sSeq a b ρ S = match a ρ S with | .nx ρ' S' => b ρ' S' | r => r := rfl
@[simp] theorem sRet_eq (a : EF) (ρ : Lc) (S : Sto) : sRet a ρ S = (a ρ S).sb ρ fun d S1 => .rt d S1 := rfl
@[simp] theorem sNil_eq (ρ : Lc) (S : Sto) : sNil ρ S = .nx ρ S := rfl
@[simp] theorem sIf_eq (c : TF) (a b : SF) (ρ : Lc) (S : Sto) : sIf c a b ρ S = (c ρ S).sb ρ fun k S1 => if k = true then a ρ S1 else b ρ S1 := rfl
@[simp] theorem sAsg_nm (i : Nat) (a : EF) (ρ : Lc) (S : Sto) : sAsg (.nm i) a ρ S = (a ρ S).sb ρ fun d S1 => .nx (ρ.set i (some d)) S1 := by
  unfold sAsg; rfl
@[simp] theorem sPar_eq (i j : Nat) (a : AF) (ρ : Lc) (S : Sto) : sPar i j a ρ S = (a ρ S).sb ρ fun ds S1 => match ds with | [x, y] => .nx ((ρ.set i (some x)).set j (some y)) S1 | _ => .no := rfl
@[simp] theorem cGcd_int (i j : Int) (S : Sto) : cGcd [.int i, .int j] S = .ok (.int ((Nat.gcd i.natAbs j.natAbs : Nat) : Int)) S := rfl
@[simp] theorem cAbs_int (i : Int) (S : Sto) : cAbs [.int i] S = .ok (.int (if i < 0 then -i else i)) S := rfl
@[simp] theorem eNeg_eq (a : EF) (ρ : Lc) (S : Sto) : eNeg a ρ S = (a ρ S).bind fun d S1 => match d with | .int i => .ok (.int (-i)) S1 | _ => .no := rfl
@[simp] theorem szOk_le {n : Nat} : (szOk n = true) = (n ≤ 1000000) := propext ⟨fun h => of_gd h, fun h => gd_of h⟩
@[simp] theorem eTup_eq (a : AF) (ρ : Lc) (S : Sto) : eTup a ρ S = (a ρ S).bind fun ds S1 => if szOk ds.length then .ok (.tup ds) S1 else .no := rfl
@[simp] theorem eLst_eq (a : AF) (ρ : Lc) (S : Sto) : eLst a ρ S = (a ρ S).bind fun ds S1 => if szOk ds.length then .ok (.ob S1.length) (S1 ++ [.lst ds]) else .no := rfl
@[simp] theorem sSub_eq (o i a : EF) (ρ : Lc) (S : Sto) : sSub o i a ρ S = (a ρ S).sb ρ fun d S1 => (o ρ S1).sb ρ fun l S2 => (i ρ S2).sb ρ fun k S3 => match l, k with
  | .ob n, .int k => (match S3[n]? with
    | some (.lst xs) => (match ixN xs.length k with
      | some j => .nx ρ (S3.set n (.lst (xs.set j d)))
      | none => .no)
    | _ => .no)
  | _, _ => .no := rfl
@[simp] theorem ixN_31 : ixN 3 1 = some 1 := rfl
@[simp] theorem ixN_32 : ixN 3 2 = some 2 := rfl
@[simp] theorem bAnd_eq (a b : TF) (ρ : Lc) (S : Sto) : bAnd a b ρ S = (a ρ S).bind fun k S1 => if k = true then b ρ S1 else .ok false S1 := rfl
@[simp] theorem bOr_eq (a b : TF) (ρ : Lc) (S : Sto) : bOr a b ρ S = (a ρ S).bind fun k S1 => if k = true then .ok true S1 else b ρ S1 := rfl
@[simp] theorem bNot_eq (a : TF) (ρ : Lc) (S : Sto) : bNot a ρ S = (a ρ S).bind fun k S1 => .ok (!k) S1 := rfl
@[simp] theorem eIf_eq (c : TF) (a b : EF) (ρ : Lc) (S : Sto) : eIf c a b ρ S = (c ρ S).bind fun k S1 => if k = true then a ρ S1 else b ρ S1 := rfl
@[simp] theorem eNot_eq (a : EF) (ρ : Lc) (S : Sto) : eNot a ρ S = (a ρ S).bind fun d S1 => match truD d S1 with | some k => .ok (.bl (!k)) S1 | none => .no := rfl
@[simp] theorem eAnd_eq (a b : EF) (ρ : Lc) (S : Sto) : eAnd a b ρ S = (a ρ S).bind fun d S1 => match truD d S1 with | some true => b ρ S1 | some false => .ok d S1 | none => .no := rfl
@[simp] theorem eOr_eq (a b : EF) (ρ : Lc) (S : Sto) : eOr a b ρ S = (a ρ S).bind fun d S1 => match truD d S1 with | some true => .ok d S1 | some false => b ρ S1 | none => .no := rfl
theorem cLen_ob {n : Nat} {xs : List D} {S : Sto} (h : S[n]? = some (.lst xs)) : cLen [.ob n] S = .ok (.int xs.length) S := by simp only [cLen, h]
@[simp] theorem cLen_tup (xs : List D) (S : Sto) : cLen [.tup xs] S = .ok (.int xs.length) S := rfl
@[simp] theorem eRo_eq (ns : List Int) (i : Int) (ρ : Lc) (S : Sto) : eRo (eVar 0) pNo (pAt (eC (.int i))) (some (.ro ns) :: ρ) S = .ok (.ob S.length) (S ++ [.lst ((cutD ns none (some i)).map D.int)]) := rfl
@[simp] theorem cList_tup (xs : List D) (S : Sto) : cList [.tup xs] S = .ok (.ob S.length) (S ++ [.lst xs]) := rfl
theorem cList_ob {n : Nat} {xs : List D} {S : Sto} (h : S[n]? = some (.lst xs)) : cList [.ob n] S = .ok (.ob S.length) (S ++ [.lst xs]) := by simp only [cList, h]
@[simp] theorem cInt_int (i : Int) (S : Sto) : cInt [.int i] S = .ok (.int i) S := rfl
@[simp] theorem cInt_bl (b : Bool) (S : Sto) : cInt [.bl b] S = .ok (.int (if b then 1 else 0)) S := rfl
theorem runF_eq (N n : Nat) (b : SF) (ds : List D) (S : Sto) : runF N n b ds S = match b (ds.map some ++ List.replicate (N - n) none) S with | .rt d S' => .ok d S' | .nx _ S' => .ok .non S' | _ => .no := rfl
theorem seq_nx {a : SF} {ρ ρ' : Lc} {S S' : Sto} (h : a ρ S = .nx ρ' S') (b : SF) : sSeq a b ρ S = b ρ' S' := by simp only [sSeq, h]
theorem seq_rt {a : SF} {ρ : Lc} {d : D} {S S' : Sto} (h : a ρ S = .rt d S') (b : SF) : sSeq a b ρ S = .rt d S' := by simp only [sSeq, h]
theorem run_rt {N n : Nat} {b : SF} {ds : List D} {S S' : Sto} {d : D} (h : b (ds.map some ++ List.replicate (N - n) none) S = .rt d S') : runF N n b ds S = .ok d S' := by simp only [runF, h]
/-- what is wanted of a result -/
def Wp {α : Type} (r : Res α) (Q : α → Sto → Prop) : Prop := ∃ d S', r = .ok d S' ∧ Q d S'
theorem wp_ok {α : Type} {d : α} {S : Sto} {Q : α → Sto → Prop} (h : Q d S) : Wp (.ok d S) Q := ⟨d, S, rfl, h⟩
theorem Wp.imp {α : Type} {r : Res α} {Q Q' : α → Sto → Prop} (h : Wp r Q) (hq : ∀ d S, Q d S → Q' d S) : Wp r Q' := let ⟨d, S, e, q⟩ := h; ⟨d, S, e, hq d S q⟩
end DL
set_option Elab.async false
set_option linter.all false
set_option maxRecDepth 100000
noncomputable section
namespace DL
open PySem L2
@[simp] theorem kb_NoneType_int : kitB "NoneType" "int" = some false := by decide +kernel
@[simp] theorem kb_NoneType_bool : kitB "NoneType" "bool" = some false := by decide +kernel
@[simp] theorem kb_NoneType_str : kitB "NoneType" "str" = some false := by decide +kernel
@[simp] theorem kb_NoneType_list : kitB "NoneType" "list" = some false := by decide +kernel
@[simp] theorem kb_NoneType_tuple : kitB "NoneType" "tuple" = some false := by decide +kernel
@[simp] theorem kb_bool_int : kitB "bool" "int" = some true := by decide +kernel
@[simp] theorem kb_bool_bool : kitB "bool" "bool" = some true := by decide +kernel
@[simp] theorem kb_bool_str : kitB "bool" "str" = some false := by decide +kernel
@[simp] theorem kb_bool_list : kitB "bool" "list" = some false := by decide +kernel
@[simp] theorem kb_bool_tuple : kitB "bool" "tuple" = some false := by decide +kernel
@[simp] theorem kb_int_int : kitB "int" "int" = some true := by decide +kernel
@[simp] theorem kb_int_bool : kitB "int" "bool" = some false := by decide +kernel
@[simp] theorem kb_int_str : kitB "int" "str" = some false := by decide +kernel
@[simp] theorem kb_int_list : kitB "int" "list" = some false := by decide +kernel
@[simp] theorem kb_int_tuple : kitB "int" "tuple" = some false := by decide +kernel
@[simp] theorem kb_str_int : kitB "str" "int" = some false := by decide +kernel
@[simp] theorem kb_str_bool : kitB "str" "bool" = some false := by decide +kernel
@[simp] theorem kb_str_str : kitB "str" "str" = some true := by decide +kernel
@[simp] theorem kb_str_list : kitB "str" "list" = some false := by decide +kernel
@[simp] theorem kb_str_tuple : kitB "str" "tuple" = some false := by decide +kernel
@[simp] theorem kb_tuple_int : kitB "tuple" "int" = some false := by decide +kernel
@[simp] theorem kb_tuple_bool : kitB "tuple" "bool" = some false := by decide +kernel
@[simp] theorem kb_tuple_str : kitB "tuple" "str" = some false := by decide +kernel
@[simp] theorem kb_tuple_list : kitB "tuple" "list" = some false := by decide +kernel
@[simp] theorem kb_tuple_tuple : kitB "tuple" "tuple" = some true := by decide +kernel
@[simp] theorem kb_list_int : kitB "list" "int" = some false := by decide +kernel
@[simp] theorem kb_list_bool : kitB "list" "bool" = some false := by decide +kernel
@[simp] theorem kb_list_str : kitB "list" "str" = some false := by decide +kernel
@[simp] theorem kb_list_list : kitB "list" "list" = some true := by decide +kernel
@[simp] theorem kb_list_tuple : kitB "list" "tuple" = some false := by decide +kernel
@[simp] theorem kb_dict_int : kitB "dict" "int" = some false := by decide +kernel
@[simp] theorem kb_dict_bool : kitB "dict" "bool" = some false := by decide +kernel
@[simp] theorem kb_dict_str : kitB "dict" "str" = some false := by decide +kernel
@[simp] theorem kb_dict_list : kitB "dict" "list" = some false := by decide +kernel
@[simp] theorem kb_dict_tuple : kitB "dict" "tuple" = some false := by decide +kernel
@[simp] theorem tyD_non (S : Sto) : tyD .non S = some "NoneType" := rfl
@[simp] theorem tyD_bl (b : Bool) (S : Sto) : tyD (.bl b) S = some "bool" := rfl
@[simp] theorem tyD_int (b : Int) (S : Sto) : tyD (.int b) S = some "int" := rfl
@[simp] theorem tyD_str (b : Str) (S : Sto) : tyD (.str b) S = some "str" := rfl
@[simp] theorem tyD_tup (b : List D) (S : Sto) : tyD (.tup b) S = some "tuple" := rfl
theorem tyD_ob {n : Nat} {xs : List D} {S : Sto} (h : S[n]? = some (.lst xs)) : tyD (.ob n) S = some "list" := by simp only [tyD, h]
theorem tyD_dic {n : Nat} {xs : List (Key × D)} {S : Sto} (h : S[n]? = some (.dic xs)) : tyD (.ob n) S = some "dict" := by simp only [tyD, h]
@[simp] theorem eIs_eq (a : EF) (b : String) (ρ : Lc) (S : Sto) : eIs a b ρ S = (a ρ S).bind fun d S1 => match isD d S1 b with | some k => .ok (.bl k) S1 | none => .no := rfl
@[simp] theorem isD_eq (d : D) (S : Sto) (b : String) : isD d S b = match tyD d S with | some t => kitB t b | none => none := rfl
@[simp] theorem eIs2_eq (a : EF) (b c : String) (ρ : Lc) (S : Sto) : eIs2 a b c ρ S = (a ρ S).bind fun d S1 => match tyD d S1 with
  | some t => (match kitB t b, kitB t c with
    | some k, some l => .ok (.bl (k || l)) S1
    | _, _ => .no)
  | none => .no := rfl
/-! equality of flat data -/
theorem shaped_of {d : PyData} (h1 : d.canLay0 = true) (h2 : d.depth ≤ 64) : SeqAt.shaped d = true := Bool.and_eq_true_iff.mpr ⟨h1, decide_eq_true h2⟩
@[simp] theorem shaped_bool (b : Bool) : SeqAt.shaped (.bool b) = true := by simp [SeqAt.shaped, PyData.canLay0, PyData.depth]
@[simp] theorem shaped_int (b : Int) : SeqAt.shaped (.int b) = true := by simp [SeqAt.shaped, PyData.canLay0, PyData.depth]
@[simp] theorem oEqG_bl2 (n a b : Bool) (S : Sto) : oEqG n (.bl a) (.bl b) S = .ok (.bl ((a == b) != n)) S := by
  simp [oEqG, pyOf, PyData.eqv]
@[simp] theorem oEqG_int2 (n : Bool) (a b : Int) (S : Sto) : oEqG n (.int a) (.int b) S = .ok (.bl ((a == b) != n)) S := by
  simp [oEqG, pyOf, PyData.eqv]
@[simp] theorem oEq_bl2 (a b : Bool) (S : Sto) : oEq (.bl a) (.bl b) S = .ok (.bl (a == b)) S := by simp [oEq]
@[simp] theorem oNe_bl2 (a b : Bool) (S : Sto) : oNe (.bl a) (.bl b) S = .ok (.bl (a != b)) S := by simp [oNe, bne]
@[simp] theorem oEq_int2 (a b : Int) (S : Sto) : oEq (.int a) (.int b) S = .ok (.bl (a == b)) S := by simp [oEq]
@[simp] theorem oNe_int2 (a b : Int) (S : Sto) : oNe (.int a) (.int b) S = .ok (.bl (a != b)) S := by simp [oNe, bne]
@[simp] theorem oIs_bl (a b : Bool) (S : Sto) : oIs (.bl a) (.bl b) S = .ok (.bl (decide (a = b))) S := by simp [oIs, oIsG]
@[simp] theorem oIsnt_bl (a b : Bool) (S : Sto) : oIsnt (.bl a) (.bl b) S = .ok (.bl (!decide (a = b))) S := by simp [oIsnt, oIsG, Bool.bne_true]
@[simp] theorem oIs_non (d : D) (S : Sto) : oIs d .non S = match isNonD d with | some k => .ok (.bl k) S | none => .no := by unfold oIs oIsG; cases isNonD d <;> simp
@[simp] theorem isNon_bl (b : Bool) : isNonD (.bl b) = some false := rfl
@[simp] theorem isNon_int (b : Int) : isNonD (.int b) = some false := rfl
@[simp] theorem isNon_str (b : Str) : isNonD (.str b) = some false := rfl
@[simp] theorem isNon_tup (b : List D) : isNonD (.tup b) = some false := rfl
@[simp] theorem isNon_ob (b : Nat) : isNonD (.ob b) = some false := rfl
@[simp] theorem isNon_non : isNonD .non = some true := rfl
end DL
set_option Elab.async false
set_option linter.all false
set_option maxRecDepth 100000
/-! what the law's own helpers do -/
namespace Fx
open PySem L2 DL
/-- the pen stands at 2, the script's ints at 1; at most k draws are behind -/
def Pen (S : Sto) (ns : List Int) (k : Nat) : Prop := ∃ a r : Int, S[2]? = some (.lst [.ob 1, .int a, .int r]) ∧ S[1]? = some (.lst (ns.map D.int)) ∧ 0 ≤ a ∧ a ≤ k
/-- nothing but the pen is otherwise -/
def Fr (S S' : Sto) : Prop := S.length ≤ S'.length ∧ ∀ (n : Nat) (o : O), n ≠ 2 → S[n]? = some o → S'[n]? = some o
theorem Fr.refl {S : Sto} : Fr S S := ⟨Nat.le_refl _, fun _ _ _ h => h⟩
theorem Fr.trans {S S1 S2 : Sto} (a : Fr S S1) (b : Fr S1 S2) : Fr S S2 := ⟨Nat.le_trans a.1 b.1, fun n o h q => b.2 n o h (a.2 n o h q)⟩
theorem Fr.set {S : Sto} {o : O} : Fr S (S.set 2 o) := ⟨by rw [List.length_set]; exact Nat.le_refl _, fun n u h q => by rw [List.getElem?_set_ne (Ne.symm h)]; exact q⟩
theorem Fr.app {S e : Sto} : Fr S (S ++ e) := ⟨by simp, fun n u h q => by rw [List.getElem?_append_left (List.getElem?_eq_some_iff.mp q).1]; exact q⟩
theorem Pen.app {S e : Sto} {ns : List Int} {k : Nat} (h : Pen S ns k) : Pen (S ++ e) ns k := by
  obtain ⟨a, r, h1, h2, h3⟩ := h
  exact ⟨a, r, by rw [List.getElem?_append_left (List.getElem?_eq_some_iff.mp h1).1]; exact h1, by rw [List.getElem?_append_left (List.getElem?_eq_some_iff.mp h2).1]; exact h2, h3⟩
theorem Pen.mono {S : Sto} {ns : List Int} {k j : Nat} (h : Pen S ns k) (hj : k ≤ j) : Pen S ns j := by
  obtain ⟨a, r, h1, h2, h3, h4⟩ := h
  exact ⟨a, r, h1, h2, h3, by omega⟩
theorem Pen.pen {S : Sto} {ns : List Int} {k : Nat} {a r a' r' : Int} (h1 : S[2]? = some (.lst [.ob 1, .int a, .int r])) (h2 : S[1]? = some (.lst (ns.map D.int))) (h3 : 0 ≤ a') (h4 : a' ≤ k) : Pen (S.set 2 (.lst [.ob 1, .int a', .int r'])) ns k := by
  have hl := (List.getElem?_eq_some_iff.mp h1).1
  exact ⟨a', r', by rw [List.getElem?_set_self hl], by rw [List.getElem?_set_ne (by decide)]; exact h2, h3, h4⟩
section
variable {S : Sto} {ns : List Int} {m a r : Int} {o2 o3 o4 o5 : Option D}
theorem draw0 (h1 : S[2]? = some (.lst [.ob 1, .int a, .int r])) (hr : ¬ 0 < r) : c_l_draw_0 [some (.ob 2), some (.int m), o2, o3, o4, o5] S = .nx [some (.ob 2), some (.int m), o2, o3, o4, o5] S := by
  simp [c_l_draw_0, oIx_ob h1, hr]
theorem draw0r (h1 : S[2]? = some (.lst [.ob 1, .int a, .int r])) (hr : 0 < r) (hm : 0 < m) (dm : ∀ x, divOk x m = true) : c_l_draw_0 [some (.ob 2), some (.int m), o2, o3, o4, o5] S = .rt (.int (r % m)) (S.set 2 (.lst [.ob 1, .int a, .int (r.fdiv m)])) := by
  simp [c_l_draw_0, oIx_ob h1, hr, oMod_int _ hm, oDiv_int _ (dm _), h1]
theorem draw1 (h1 : S[2]? = some (.lst [.ob 1, .int a, .int r])) : c_l_draw_1 [some (.ob 2), some (.int m), o2, o3, o4, o5] S = .nx [some (.ob 2), some (.int m), o2, some (.int a), o4, o5] S := by
  simp [c_l_draw_1, oIx_ob h1]
theorem draw2 (h1 : S[2]? = some (.lst [.ob 1, .int a, .int r])) : c_l_draw_2 [some (.ob 2), some (.int m), o2, some (.int a), o4, o5] S = .nx [some (.ob 2), some (.int m), o2, some (.int a), o4, o5] (S.set 2 (.lst [.ob 1, .int (a + 1), .int r])) := by
  simp [c_l_draw_2, h1]
theorem draw3 : c_l_draw_3 [some (.ob 2), some (.int m), o2, some (.int a), o4, o5] S = .nx [some (.ob 2), some (.int m), o2, some (.int a), some (.int 7), o5] S := by
  simp [c_l_draw_3]
theorem draw4 {a' : Int} (h1 : S[2]? = some (.lst [.ob 1, .int a', .int r])) (h2 : S[1]? = some (.lst (ns.map D.int))) (h3 : 0 ≤ a) : ∃ c : Int, c_l_draw_4 [some (.ob 2), some (.int m), o2, some (.int a), some (.int 7), o5] S = .nx [some (.ob 2), some (.int m), o2, some (.int a), some (.int c), o5] S := by
  by_cases hz : 0 < ns.length
  · have hz2 : (0 : Int) < ns.length := by omega
    have hc : ∃ c, atI (ns.map D.int) (a % (ns.length : Int)) = some (.int c) := by
      have h5 := Int.emod_nonneg a (show (ns.length : Int) ≠ 0 by omega)
      have h6 := Int.emod_lt_of_pos a hz2
      obtain ⟨j, hj⟩ : ∃ j : Nat, a % (ns.length : Int) = j := ⟨_, (Int.toNat_of_nonneg h5).symm⟩
      rw [hj, atI_cast, List.getElem?_map, List.getElem?_eq_getElem (by omega)]
      exact ⟨_, rfl⟩
    obtain ⟨c, hc⟩ := hc
    exact ⟨c, by simp [c_l_draw_4, oIx_ob h1, cLen_ob h2, hz, oMod_int _ hz2, oIx_ob h2, hc]⟩
  · exact ⟨7, by simp [c_l_draw_4, oIx_ob h1, cLen_ob h2, hz]⟩
theorem draw5 {a' c : Int} (h1 : S[2]? = some (.lst [.ob 1, .int a', .int r])) (h2 : S[1]? = some (.lst (ns.map D.int))) (hm : 0 < m) (dm : ∀ x, divOk x m = true) :
    c_l_draw_5 [some (.ob 2), some (.int m), o2, some (.int a), some (.int c), o5] S = .nx [some (.ob 2), some (.int m), o2, some (.int a), some (.int c), o5] S ∨
    c_l_draw_5 [some (.ob 2), some (.int m), o2, some (.int a), some (.int c), o5] S = .rt (.int (c % m)) (S.set 2 (.lst [.ob 1, .int a', .int (c.fdiv m)])) := by
  have g : ∀ (S : Sto), oPow (.int 10) (.int 18) S = .ok (.int 1000000000000000000) S := fun S => oPow_int S (by decide)
  by_cases hb1 : a < (ns.length : Int)
  · by_cases hb2 : 1000000000000000000 ≤ c
    · exact .inr (by simp [c_l_draw_5, oIx_ob h1, cLen_ob h2, hb1, hb2, g, h1, oMod_int _ hm, oDiv_int _ (dm _)])
    · exact .inl (by simp [c_l_draw_5, oIx_ob h1, cLen_ob h2, hb1, hb2, g])
  · exact .inl (by simp [c_l_draw_5, oIx_ob h1, cLen_ob h2, hb1])
theorem modB (x : Int) {p : Int} (hp : 0 < p) : 0 ≤ x % p ∧ x % p < p := ⟨Int.emod_nonneg _ (by omega), Int.emod_lt_of_pos _ hp⟩
theorem draw6 {c : Int} (h3 : 0 ≤ a) (h4 : a ≤ 1000000000000) : ∃ x : Int, c_l_draw_6 [some (.ob 2), some (.int m), o2, some (.int a), some (.int c), o5] S = .nx [some (.ob 2), some (.int m), o2, some (.int a), some (.int c), some (.int (x % 2147483647))] S := by
  have haa : 0 ≤ a * a ∧ a * a ≤ 1000000000000 * 1000000000000 := ⟨Int.mul_nonneg h3 h3, Int.mul_le_mul h4 h4 h3 (by decide)⟩
  have g1 : mulOk (c % 2147483629 + 11) (a * a + 5 * a + 3) = true := by
    have := modB c (p := 2147483629) (by decide)
    exact mulOk_of (a := 40) (b := 90) (by omega) (by omega) (by decide)
  have g2 : mulOk a a = true := mulOk_of (a := 41) (b := 41) (by omega) (by omega) (by decide)
  have g3 : mulOk 5 a = true := mulOk_of (a := 41) (b := 41) (by omega) (by omega) (by decide)
  exact ⟨(c % 2147483629 + 11) * (a * a + 5 * a + 3), by simp [c_l_draw_6, oMod_int, g1, g2, g3, oMul_int]⟩
theorem draw7 {c x : Int} (h3 : 0 ≤ a) (h4 : a ≤ 1000000000000) : ∃ y : Int, c_l_draw_7 [some (.ob 2), some (.int m), o2, some (.int a), some (.int c), some (.int (x % 2147483647))] S = .nx [some (.ob 2), some (.int m), o2, some (.int a), some (.int c), some (.int (y % 2147483399))] S := by
  have h5 := modB x (p := 2147483647) (by decide)
  have g1 : ∀ S, oPow (.int (x % 2147483647)) (.int 3) S = .ok (.int ((x % 2147483647) ^ 3)) S := fun S => oPow_int S ⟨by decide, by decide, by omega⟩
  have g4 : mulOk 69621 a = true := mulOk_of (a := 41) (b := 41) (by omega) (by omega) (by decide)
  have g5 : ∀ x : Int, mulOk (x % 2147483587) 40692 = true := fun x => by
    have := modB x (p := 2147483587) (by decide)
    exact mulOk_of (a := 41) (b := 41) (by omega) (by omega) (by decide)
  exact ⟨((x % 2147483647) ^ 3 + 69621 * a) % 2147483587 * 40692, by simp [c_l_draw_7, oMod_int, g1, g4, g5, oMul_int]⟩
theorem draw8 {c y : Int} : ∃ z : Int, c_l_draw_8 [some (.ob 2), some (.int m), o2, some (.int a), some (.int c), some (.int (y % 2147483399))] S = .nx [some (.ob 2), some (.int m), o2, some (.int a), some (.int c), some (.int z)] S := by
  have h5 := modB y (p := 2147483399) (by decide)
  have g1 : ∀ S, oPow (.int 10) (.int 6) S = .ok (.int 1000000) S := fun S => oPow_int S (by decide)
  have g4 : mulOk (y % 2147483399) 2147483629 = true := mulOk_of (a := 41) (b := 41) (by omega) (by decide) (by decide)
  have g5 : ∀ x : Int, mulOk (x % 1000003) 48271 = true := fun x => by
    have := modB x (p := 1000003) (by decide)
    exact mulOk_of (a := 41) (b := 41) (by omega) (by omega) (by decide)
  by_cases h : 1000000 < m
  · exact ⟨y % 2147483399 * 2147483629 + y % 2147483399 % 1000003 * 48271 % 2147483587, by simp [c_l_draw_8, oMod_int, g1, g4, g5, oMul_int, h]⟩
  · exact ⟨y % 2147483399, by simp [c_l_draw_8, g1, h]⟩
theorem draw9 {c z : Int} (hm : 0 < m) : c_l_draw_9 [some (.ob 2), some (.int m), o2, some (.int a), some (.int c), some (.int z)] S = .rt (.int ((z.fdiv 64) % m)) S := by
  have g : ∀ x : Int, divOk x 64 = true := fun x => divOk_of (b := 10) (by decide) (by decide) (by decide)
  simp [c_l_draw_9, oMod_int _ hm, oDiv_int _ (g _)]
end
theorem draw_ok {S : Sto} {ns : List Int} {k : Nat} {m : Int} (h : Pen S ns k) (hk : k ≤ 1000000000000) (hm : 0 < m) (hm2 : m.natAbs < 2 ^ 200) :
    ∃ v S', F_l_draw [.ob 2, .int m] S = .ok (.int v) S' ∧ 0 ≤ v ∧ v < m ∧ Pen S' ns (k + 1) ∧ Fr S S' ∧ S'.length = S.length := by
  obtain ⟨a, r, h1, h2, h3, h4⟩ := h
  have hl := (List.getElem?_eq_some_iff.mp h1).1
  have dm : ∀ x, divOk x m = true := fun x => divOk_of (by omega) hm2 (by decide)
  have nn : ∀ x : Int, 0 ≤ x % m ∧ x % m < m := fun x => modB x hm
  have fin : ∀ (x a' r' : Int), 0 ≤ a' → a' ≤ a + 1 → F_l_draw [.ob 2, .int m] S = .ok (.int (x % m)) (S.set 2 (.lst [.ob 1, .int a', .int r'])) →
      ∃ v S', F_l_draw [.ob 2, .int m] S = .ok (.int v) S' ∧ 0 ≤ v ∧ v < m ∧ Pen S' ns (k + 1) ∧ Fr S S' ∧ S'.length = S.length :=
    fun x a' r' h5 h6 e => ⟨_, _, e, (nn x).1, (nn x).2, Pen.pen h1 h2 h5 (by omega), Fr.set, by simp⟩
  by_cases hr : 0 < r
  · refine fin r a (r.fdiv m) h3 (by omega) (run_rt ?_)
    exact seq_rt (draw0r h1 hr hm dm) _
  · have q1 : (S.set 2 (.lst [.ob 1, .int (a + 1), .int r]))[2]? = some (.lst [.ob 1, .int (a + 1), .int r]) := by rw [List.getElem?_set_self hl]
    have q2 : (S.set 2 (.lst [.ob 1, .int (a + 1), .int r]))[1]? = some (.lst (ns.map D.int)) := by rw [List.getElem?_set_ne (by decide)]; exact h2
    obtain ⟨c, e4⟩ := draw4 (m := m) (o2 := none) (o5 := none) q1 q2 h3
    have pre : ∀ R, (sSeq c_l_draw_5 (sSeq c_l_draw_6 (sSeq c_l_draw_7 (sSeq c_l_draw_8 c_l_draw_9)))) [some (.ob 2), some (.int m), none, some (.int a), some (.int c), none] (S.set 2 (.lst [.ob 1, .int (a + 1), .int r])) = R → b_l_draw [some (.ob 2), some (.int m), none, none, none, none] S = R := fun R e => by
      unfold b_l_draw
      rw [seq_nx (draw0 h1 hr), seq_nx (draw1 h1), seq_nx (draw2 h1), seq_nx draw3, seq_nx e4]
      exact e
    rcases draw5 (m := m) (a := a) (c := c) (o2 := none) (o5 := none) q1 q2 hm dm with e5 | e5
    · obtain ⟨x, e6⟩ := draw6 (S := S.set 2 (.lst [.ob 1, .int (a + 1), .int r])) (m := m) (c := c) (o2 := none) (o5 := none) h3 (by omega)
      obtain ⟨y, e7⟩ := draw7 (S := S.set 2 (.lst [.ob 1, .int (a + 1), .int r])) (m := m) (c := c) (x := x) (o2 := none) h3 (by omega)
      obtain ⟨z, e8⟩ := draw8 (S := S.set 2 (.lst [.ob 1, .int (a + 1), .int r])) (m := m) (a := a) (c := c) (y := y) (o2 := none)
      refine fin (z.fdiv 64) (a + 1) r (by omega) (by omega) (run_rt (pre _ ?_))
      rw [seq_nx e5, seq_nx e6, seq_nx e7, seq_nx e8]
      exact draw9 hm
    · refine fin c (a + 1) (c.fdiv m) (by omega) (by omega) (run_rt (pre _ ?_))
      rw [seq_rt e5, List.set_set]
end Fx
set_option Elab.async false
set_option linter.all false
set_option maxRecDepth 100000
/-! fractions: the program's and the law's -/
namespace Fx
open PySem L2 DL
/-- a fraction as data -/
def fq (q : Rat) : D := .tup [.int q.num, .int q.den]
/-- numbers of at most n bits -/
def Bq (n : Nat) (q : Rat) : Prop := q.num.natAbs < 2 ^ n ∧ q.den < 2 ^ n
theorem Bq.mono {n m : Nat} {q : Rat} (h : Bq n q) (hm : n ≤ m) : Bq m q :=
  ⟨Nat.lt_of_lt_of_le h.1 (Nat.pow_le_pow_right (by decide) hm), Nat.lt_of_lt_of_le h.2 (Nat.pow_le_pow_right (by decide) hm)⟩
theorem divOk_any {i j : Int} (hj : j ≠ 0) (hi : i.natAbs < 2 ^ 13000) : divOk i j = true := by
  refine gd_of ⟨hj, ?_⟩
  by_cases h : j.natAbs.log2 < 9000
  · exact PyProof.noPylong_of_log2 h
  · have h1 : i.natAbs.log2 < 13000 := PySem.Flt.log2_lt_of (by decide) hi
    show (decide ((if j == 0 then 0 else j.natAbs.log2 / 30 + 1) > 300) && decide ((if i == 0 then 0 else i.natAbs.log2 / 30 + 1) > (if j == 0 then 0 else j.natAbs.log2 / 30 + 1) + 150)) = false
    rw [if_neg (show ¬ (j == 0) = true by simpa using hj)]
    have k : ¬ ((if i == 0 then 0 else i.natAbs.log2 / 30 + 1) > j.natAbs.log2 / 30 + 1 + 150) := by
      split <;> omega
    rw [decide_eq_false k, Bool.and_false]
/-- the two forms of a quotient by the greatest common divisor -/
theorem low_pos {a b : Int} (hb : 0 < b) : a.fdiv (Nat.gcd a.natAbs b.natAbs : Nat) = (Rat.divInt a b).num ∧ b.fdiv (Nat.gcd a.natAbs b.natAbs : Nat) = ((Rat.divInt a b).den : Int) := by
  rw [Rat.num_divInt, Rat.den_divInt, if_neg (by omega), Int.sign_eq_one_of_pos hb, Int.one_mul]
  have e : (Int.gcd b a : Int) = (Nat.gcd a.natAbs b.natAbs : Nat) := by rw [Int.gcd, Nat.gcd_comm]
  rw [e, Int.fdiv_eq_ediv_of_nonneg _ (Int.natCast_nonneg _), Int.fdiv_eq_ediv_of_nonneg _ (Int.natCast_nonneg _)]
  refine ⟨rfl, ?_⟩
  rw [Int.gcd, Nat.gcd_comm, Int.natCast_ediv]
  congr 1
  omega
theorem low_neg {a b : Int} (hb : b < 0) : a.fdiv (-((Nat.gcd a.natAbs b.natAbs : Nat) : Int)) = (Rat.divInt a b).num ∧ b.fdiv (-((Nat.gcd a.natAbs b.natAbs : Nat) : Int)) = ((Rat.divInt a b).den : Int) := by
  have d1 : ((Nat.gcd a.natAbs b.natAbs : Nat) : Int) ∣ a := Int.ofNat_dvd_left.mpr (Nat.gcd_dvd_left _ _)
  have d2 : ((Nat.gcd a.natAbs b.natAbs : Nat) : Int) ∣ b := Int.ofNat_dvd_left.mpr (Nat.gcd_dvd_right _ _)
  rw [Int.fdiv_eq_ediv_of_dvd (Int.neg_dvd.mpr d1), Int.fdiv_eq_ediv_of_dvd (Int.neg_dvd.mpr d2), Int.ediv_neg, Int.ediv_neg, ← Int.neg_ediv_of_dvd d1, ← Int.neg_ediv_of_dvd d2]
  have e : Rat.divInt a b = Rat.divInt (-a) (-b) := (Rat.neg_divInt_neg a b).symm
  have := low_pos (a := -a) (b := -b) (by omega)
  rw [Int.natAbs_neg, Int.natAbs_neg, Int.fdiv_eq_ediv_of_nonneg _ (Int.natCast_nonneg _), Int.fdiv_eq_ediv_of_nonneg _ (Int.natCast_nonneg _)] at this
  rw [e]
  exact this
theorem gcd_ne {a b : Int} (hb : b ≠ 0) : ((Nat.gcd a.natAbs b.natAbs : Nat) : Int) ≠ 0 := by
  intro h
  have h2 : Nat.gcd a.natAbs b.natAbs = 0 := by exact_mod_cast h
  have := Nat.eq_zero_of_gcd_eq_zero_right h2
  omega
theorem lowest_ok {a b : Int} (S : Sto) (hb : b ≠ 0) (ha2 : a.natAbs < 2 ^ 13000) (hb2 : b.natAbs < 2 ^ 13000) : F_in_lowest_terms [.int a, .int b] S = .ok (fq (Rat.divInt a b)) S := by
  have hg := gcd_ne (a := a) hb
  by_cases h : b < 0
  · have e := low_neg (a := a) h
    have hg' : -((Nat.gcd a.natAbs b.natAbs : Nat) : Int) ≠ 0 := by omega
    unfold F_in_lowest_terms b_in_lowest_terms
    refine run_rt ?_
    rw [seq_nx (ρ' := [some (.int a), some (.int b), some (.int (Nat.gcd a.natAbs b.natAbs : Nat))]) (S' := S) (by simp [c_in_lowest_terms_0]), seq_nx (ρ' := [some (.int a), some (.int b), some (.int (-(Nat.gcd a.natAbs b.natAbs : Nat)))]) (S' := S) (by simp [c_in_lowest_terms_1, h])]
    simp [c_in_lowest_terms_2, oDiv_int _ (divOk_any hg' ha2), oDiv_int _ (divOk_any hg' hb2), fq, e.1, e.2]
  · have e := low_pos (a := a) (b := b) (by omega)
    unfold F_in_lowest_terms b_in_lowest_terms
    refine run_rt ?_
    rw [seq_nx (ρ' := [some (.int a), some (.int b), some (.int (Nat.gcd a.natAbs b.natAbs : Nat))]) (S' := S) (by simp [c_in_lowest_terms_0]), seq_nx (ρ' := [some (.int a), some (.int b), some (.int (Nat.gcd a.natAbs b.natAbs : Nat))]) (S' := S) (by simp [c_in_lowest_terms_1, h])]
    simp [c_in_lowest_terms_2, oDiv_int _ (divOk_any hg ha2), oDiv_int _ (divOk_any hg hb2), fq, e.1, e.2]
theorem euclid (o0 o1 : Option D) (S : Sto) : ∀ (n : Nat) (x y : Nat), y ≤ n →
    whGo (tTru (eOp oGt (eVar 3) (eC (.int 0)))) c_l_low_1_0 n [o0, o1, some (.int x), some (.int y)] S = .nx [o0, o1, some (.int (Nat.gcd x y : Nat)), some (.int 0)] S
  | n, x, 0, _ => by unfold whGo; simp
  | 0, x, y + 1, h => by omega
  | n + 1, x, y + 1, h => by
    have h1 : (0 : Int) < ((y + 1 : Nat) : Int) := by omega
    have e : c_l_low_1_0 [o0, o1, some (.int x), some (.int ((y + 1 : Nat) : Int))] S = .nx [o0, o1, some (.int ((y + 1 : Nat) : Int)), some (.int ((x % (y + 1) : Nat) : Int))] S := by
      simp only [c_l_low_1_0, sPar_eq, aCons_eq, aNil_eq, eVar_s, eVar_0, bind_ok, sb_ok, eOp_eq, oMod_int _ h1, List.set_cons_succ, List.set_cons_zero]
      rfl
    unfold whGo
    simp only [tTru_eq, eOp_eq, eVar_s, eVar_0, bind_ok, eC_eq, oGt_int, decide_eq_true h1, truD_bl, sb_ok, if_true, e]
    rw [euclid o0 o1 S n (y + 1) (x % (y + 1)) (by have := Nat.mod_lt x (show 0 < y + 1 by omega); omega)]
    rw [Nat.gcd_comm (y + 1), ← Nat.gcd_rec, Nat.gcd_comm]
theorem abs_nat (i : Int) : (if i < 0 then -i else i) = (i.natAbs : Int) := by split <;> omega
theorem l_low_ok {a b : Int} (S : Sto) (hb : b ≠ 0) (ha2 : a.natAbs < 2 ^ 13000) (hb2 : b.natAbs < 2 ^ 13000) : F_l_low [.int a, .int b] S = .ok (fq (Rat.divInt a b)) S := by
  have hg := gcd_ne (a := a) hb
  have ha3 : (0 - a).natAbs < 2 ^ 13000 := by rw [show (0 - a).natAbs = a.natAbs by omega]; exact ha2
  have hb3 : (0 - b).natAbs < 2 ^ 13000 := by rw [show (0 - b).natAbs = b.natAbs by omega]; exact hb2
  unfold F_l_low b_l_low
  refine run_rt ?_
  rw [seq_nx (ρ' := [some (.int a), some (.int b), some (.int (a.natAbs : Int)), some (.int (b.natAbs : Int))]) (S' := S) (by simp [c_l_low_0, abs_nat])]
  rw [seq_nx (ρ' := [some (.int a), some (.int b), some (.int (Nat.gcd a.natAbs b.natAbs : Nat)), some (.int 0)]) (S' := S) (by
    unfold c_l_low_1 sWh
    exact euclid _ _ S _ a.natAbs b.natAbs (by simp [fu_l_low_0]))]
  by_cases h : b < 0
  · have e := low_neg (a := a) h
    rw [seq_nx (ρ' := [some (.int (0 - a)), some (.int (0 - b)), some (.int (Nat.gcd a.natAbs b.natAbs : Nat)), some (.int 0)]) (S' := S) (by simp [c_l_low_2, h])]
    have d1 : ((Nat.gcd a.natAbs b.natAbs : Nat) : Int) ∣ a := Int.ofNat_dvd_left.mpr (Nat.gcd_dvd_left _ _)
    have d2 : ((Nat.gcd a.natAbs b.natAbs : Nat) : Int) ∣ b := Int.ofNat_dvd_left.mpr (Nat.gcd_dvd_right _ _)
    have e1 : (0 - a).fdiv (Nat.gcd a.natAbs b.natAbs : Nat) = (Rat.divInt a b).num := by
      rw [← e.1, Int.fdiv_eq_ediv_of_dvd (Int.neg_dvd.mpr d1), Int.ediv_neg, Int.zero_sub, Int.fdiv_eq_ediv_of_dvd (Int.dvd_neg.mpr d1), Int.neg_ediv_of_dvd d1]
    have e2 : (0 - b).fdiv (Nat.gcd a.natAbs b.natAbs : Nat) = ((Rat.divInt a b).den : Int) := by
      rw [← e.2, Int.fdiv_eq_ediv_of_dvd (Int.neg_dvd.mpr d2), Int.ediv_neg, Int.zero_sub, Int.fdiv_eq_ediv_of_dvd (Int.dvd_neg.mpr d2), Int.neg_ediv_of_dvd d2]
    simp only [c_l_low_3, sRet_eq, eTup_eq, aCons_eq, aNil_eq, eOp_eq, eVar_s, eVar_0, bind_ok, oDiv_int _ (divOk_any hg ha3), oDiv_int _ (divOk_any hg hb3), e1, e2, fq, sb_ok]
    rw [if_pos (by rw [szOk_le]; simp)]
    rfl
  · have e := low_pos (a := a) (b := b) (by omega)
    rw [seq_nx (ρ' := [some (.int a), some (.int b), some (.int (Nat.gcd a.natAbs b.natAbs : Nat)), some (.int 0)]) (S' := S) (by simp [c_l_low_2, h])]
    simp [c_l_low_3, oDiv_int _ (divOk_any hg ha2), oDiv_int _ (divOk_any hg hb2), fq, e.1, e.2]
end Fx
set_option Elab.async false
set_option linter.all false
set_option maxRecDepth 100000
namespace DL
open PySem L2
@[simp] theorem put_nm (i : Nat) (d : D) (ρ : Lc) (S : Sto) : Tg.put (.nm i) d ρ S = some (ρ.set i (some d)) := by simp [Tg.put]
@[simp] theorem put_tp (ts : List Tg) (ds : List D) (ρ : Lc) (S : Sto) : Tg.put (.tp ts) (.tup ds) ρ S = Tg.puts ts ds ρ S := by simp [Tg.put]
@[simp] theorem puts_nil (ρ : Lc) (S : Sto) : Tg.puts [] [] ρ S = some ρ := by simp [Tg.puts]
@[simp] theorem puts_cons (t : Tg) (ts : List Tg) (d : D) (ds : List D) (ρ : Lc) (S : Sto) : Tg.puts (t :: ts) (d :: ds) ρ S = match Tg.put t d ρ S with | some ρ' => Tg.puts ts ds ρ' S | none => none := by
  simp only [Tg.puts]
  try (cases Tg.put t d ρ S <;> rfl)
@[simp] theorem sAsg_tp (ts : List Tg) (a : EF) (ρ : Lc) (S : Sto) : sAsg (.tp ts) a ρ S = (a ρ S).sb ρ fun d S1 => match Tg.put (.tp ts) d ρ S1 with | some ρ' => .nx ρ' S1 | none => .no := rfl
end DL
namespace Fx
open PySem L2 DL
theorem Bq_divInt {a b : Int} {n : Nat} (hb : b ≠ 0) (ha : a.natAbs < 2 ^ n) (hb2 : b.natAbs < 2 ^ n) : Bq n (Rat.divInt a b) := by
  constructor
  · rw [Rat.num_divInt]
    refine Nat.lt_of_le_of_lt (Int.natAbs_ediv_le_natAbs _ _) ?_
    rw [Int.natAbs_mul]
    have : b.sign.natAbs = 1 := by rw [Int.natAbs_sign, if_neg hb]
    rw [this, Nat.one_mul]
    exact ha
  · rw [Rat.den_divInt, if_neg hb]
    exact Nat.lt_of_le_of_lt (Nat.div_le_self _ _) hb2
theorem den_ne (q : Rat) : (q.den : Int) ≠ 0 := by
  have := q.den_nz
  omega
theorem mul_lt {i j : Int} {a b : Nat} (ha : i.natAbs < 2 ^ a) (hb : j.natAbs < 2 ^ b) : (i * j).natAbs < 2 ^ (a + b) := wide_lt ha hb
theorem pow_mono {x n m : Nat} (h : x < 2 ^ n) (hm : n ≤ m) : x < 2 ^ m := Nat.lt_of_lt_of_le h (Nat.pow_le_pow_right (by decide) hm)
theorem add_lt {i j : Int} {n : Nat} (ha : i.natAbs < 2 ^ n) (hb : j.natAbs < 2 ^ n) : (i + j).natAbs < 2 ^ (n + 1) := by
  rw [Nat.pow_succ]; omega
theorem sub_lt {i j : Int} {n : Nat} (ha : i.natAbs < 2 ^ n) (hb : j.natAbs < 2 ^ n) : (i - j).natAbs < 2 ^ (n + 1) := by
  rw [Nat.pow_succ]; omega
theorem den_abs (q : Rat) : (q.den : Int).natAbs = q.den := Int.natAbs_natCast _
section
variable {p q : Rat} {n m : Nat}
theorem dd_ne : (p.den : Int) * (q.den : Int) ≠ 0 := by
  have := den_ne p
  have := den_ne q
  exact Int.mul_ne_zero (by assumption) (by assumption)
/-- what is asked of the numbers of a sum -/
theorem sum_ok (hp : Bq n p) (hq : Bq m q) : (p.num * q.den + q.num * p.den).natAbs < 2 ^ (n + m + 1) ∧ (p.num * q.den - q.num * p.den).natAbs < 2 ^ (n + m + 1) ∧ ((p.den : Int) * (q.den : Int)).natAbs < 2 ^ (n + m + 1) ∧ ((p.den : Int) * (q.den : Int)).natAbs < 2 ^ (n + m) ∧ (p.num * q.num).natAbs < 2 ^ (n + m) ∧
    mulOk p.num q.den = mulOk p.num q.den := by
  have h1 : (p.num * (q.den : Int)).natAbs < 2 ^ (n + m) := mul_lt hp.1 (by rw [den_abs]; exact hq.2)
  have h2 : (q.num * (p.den : Int)).natAbs < 2 ^ (n + m) := by rw [Nat.add_comm]; exact mul_lt hq.1 (by rw [den_abs]; exact hp.2)
  have h3 : ((p.den : Int) * (q.den : Int)).natAbs < 2 ^ (n + m) := mul_lt (by rw [den_abs]; exact hp.2) (by rw [den_abs]; exact hq.2)
  exact ⟨add_lt h1 h2, sub_lt h1 h2, pow_mono h3 (by omega), h3, mul_lt hp.1 hq.1, rfl⟩
theorem mok (hp : Bq n p) (hq : Bq m q) (h : n + m ≤ 100000) : mulOk p.num q.den = true ∧ mulOk q.num p.den = true ∧ mulOk (p.den : Int) q.den = true ∧ mulOk p.num q.num = true :=
  ⟨mulOk_of hp.1 (by rw [den_abs]; exact hq.2) (by omega), mulOk_of hq.1 (by rw [den_abs]; exact hp.2) (by omega), mulOk_of (by rw [den_abs]; exact hp.2) (by rw [den_abs]; exact hq.2) (by omega), mulOk_of hp.1 hq.1 (by omega)⟩
theorem add_eq : Rat.divInt (p.num * q.den + q.num * p.den) (p.den * q.den) = p + q := by
  rw [Rat.add_def', ← Rat.divInt_ofNat]; rfl
theorem sub_eq : Rat.divInt (p.num * q.den - q.num * p.den) (p.den * q.den) = p - q := by
  rw [Rat.sub_def', ← Rat.divInt_ofNat]; rfl
theorem mul_eq : Rat.divInt (p.num * q.num) (p.den * q.den) = p * q := by
  rw [Rat.mul_def', ← Rat.divInt_ofNat]; rfl
theorem Bq_add (hp : Bq n p) (hq : Bq m q) : Bq (n + m + 1) (p + q) := by
  obtain ⟨h1, h2, h3, h4, h5, _⟩ := sum_ok hp hq
  rw [← add_eq]; exact Bq_divInt dd_ne h1 h3
theorem Bq_sub (hp : Bq n p) (hq : Bq m q) : Bq (n + m + 1) (p - q) := by
  obtain ⟨h1, h2, h3, h4, h5, _⟩ := sum_ok hp hq
  rw [← sub_eq]; exact Bq_divInt dd_ne h2 h3
theorem Bq_mul (hp : Bq n p) (hq : Bq m q) : Bq (n + m) (p * q) := by
  obtain ⟨h1, h2, h3, h4, h5, _⟩ := sum_ok hp hq
  rw [← mul_eq]; exact Bq_divInt dd_ne h5 h4
theorem l_add_ok (hp : Bq n p) (hq : Bq m q) (h : n + m + 1 ≤ 13000) (S : Sto) : F_l_add [fq p, fq q] S = .ok (fq (p + q)) S := by
  obtain ⟨h1, h2, h3, h4, h5, _⟩ := sum_ok hp hq
  obtain ⟨g1, g2, g3, g4⟩ := mok hp hq (by omega)
  have e := l_low_ok S (dd_ne (p := p) (q := q)) (pow_mono h1 h) (pow_mono h3 h)
  rw [add_eq] at e
  unfold F_l_add b_l_add
  refine run_rt ?_
  simp only [fq] at e ⊢
  simp [c_l_add_0, oMul_int, g1, g2, g3, e]
theorem l_sub_ok (hp : Bq n p) (hq : Bq m q) (h : n + m + 1 ≤ 13000) (S : Sto) : F_l_sub [fq p, fq q] S = .ok (fq (p - q)) S := by
  obtain ⟨h1, h2, h3, h4, h5, _⟩ := sum_ok hp hq
  obtain ⟨g1, g2, g3, g4⟩ := mok hp hq (by omega)
  have e := l_low_ok S (dd_ne (p := p) (q := q)) (pow_mono h2 h) (pow_mono h3 h)
  rw [sub_eq] at e
  unfold F_l_sub b_l_sub
  refine run_rt ?_
  simp only [fq] at e ⊢
  simp [c_l_sub_0, oMul_int, g1, g2, g3, e]
theorem l_mul_ok (hp : Bq n p) (hq : Bq m q) (h : n + m + 1 ≤ 13000) (S : Sto) : F_l_mul [fq p, fq q] S = .ok (fq (p * q)) S := by
  obtain ⟨h1, h2, h3, h4, h5, _⟩ := sum_ok hp hq
  obtain ⟨g1, g2, g3, g4⟩ := mok hp hq (by omega)
  have e := l_low_ok S (dd_ne (p := p) (q := q)) (pow_mono h5 (by omega)) (pow_mono h3 h)
  rw [mul_eq] at e
  unfold F_l_mul b_l_mul
  refine run_rt ?_
  simp only [fq] at e ⊢
  simp [c_l_mul_0, oMul_int, g3, g4, e]
theorem lt_cross : (p.num * q.den < q.num * p.den) = (p < q) := propext (Rat.lt_iff p q).symm
theorem l_less_ok (hp : Bq n p) (hq : Bq m q) (h : n + m ≤ 100000) (S : Sto) : F_l_less [fq p, fq q] S = .ok (.bl (decide (p < q))) S := by
  obtain ⟨g1, g2, g3, g4⟩ := mok hp hq h
  unfold F_l_less b_l_less
  refine run_rt ?_
  simp only [fq]
  simp [c_l_less_0, oMul_int, g1, g2, lt_cross]
theorem plus_ok (hp : Bq n p) (hq : Bq m q) (h : n + m + 1 ≤ 13000) (S : Sto) : F_plus [fq p, fq q] S = .ok (fq (p + q)) S := by
  obtain ⟨h1, h2, h3, h4, h5, _⟩ := sum_ok hp hq
  obtain ⟨g1, g2, g3, g4⟩ := mok hp hq (by omega)
  have e := lowest_ok S (dd_ne (p := p) (q := q)) (pow_mono h1 h) (pow_mono h3 h)
  rw [add_eq] at e
  unfold F_plus b_plus
  refine run_rt ?_
  simp only [fq] at e ⊢
  simp [c_plus_0, c_plus_1, c_plus_2, oMul_int, g1, g2, g3, e]
theorem minus_ok (hp : Bq n p) (hq : Bq m q) (h : n + m + 1 ≤ 13000) (S : Sto) : F_minus [fq p, fq q] S = .ok (fq (p - q)) S := by
  obtain ⟨h1, h2, h3, h4, h5, _⟩ := sum_ok hp hq
  obtain ⟨g1, g2, g3, g4⟩ := mok hp hq (by omega)
  have e := lowest_ok S (dd_ne (p := p) (q := q)) (pow_mono h2 h) (pow_mono h3 h)
  rw [sub_eq] at e
  unfold F_minus b_minus
  refine run_rt ?_
  simp only [fq] at e ⊢
  simp [c_minus_0, c_minus_1, c_minus_2, oMul_int, g1, g2, g3, e]
theorem times_ok (hp : Bq n p) (hq : Bq m q) (h : n + m + 1 ≤ 13000) (S : Sto) : F_times [fq p, fq q] S = .ok (fq (p * q)) S := by
  obtain ⟨h1, h2, h3, h4, h5, _⟩ := sum_ok hp hq
  obtain ⟨g1, g2, g3, g4⟩ := mok hp hq (by omega)
  have e := lowest_ok S (dd_ne (p := p) (q := q)) (pow_mono h5 (by omega)) (pow_mono h3 h)
  rw [mul_eq] at e
  unfold F_times b_times
  refine run_rt ?_
  simp only [fq] at e ⊢
  simp [c_times_0, oMul_int, g3, g4, e]
theorem is_less_ok (hp : Bq n p) (hq : Bq m q) (h : n + m ≤ 100000) (S : Sto) : F_is_less [fq p, fq q] S = .ok (.bl (decide (p < q))) S := by
  obtain ⟨g1, g2, g3, g4⟩ := mok hp hq h
  unfold F_is_less b_is_less
  refine run_rt ?_
  simp only [fq]
  simp [c_is_less_0, oMul_int, g1, g2, lt_cross]
theorem floor_of_ok (hp : Bq n p) (h : n ≤ 13000) (S : Sto) : F_floor_of [fq p] S = .ok (.int p.floor) S := by
  have g : divOk p.num p.den = true := divOk_any (den_ne p) (pow_mono hp.1 h)
  unfold F_floor_of b_floor_of
  refine run_rt ?_
  simp only [fq]
  simp [c_floor_of_0, oDiv_int _ g, Rat.floor_def, Int.fdiv_eq_ediv_of_nonneg]
theorem fraction_ok {a b : Int} (S : Sto) (hb : b ≠ 0) (ha2 : a.natAbs < 2 ^ 13000) (hb2 : b.natAbs < 2 ^ 13000) : F_fraction [.int a, .int b] S = .ok (fq (Rat.divInt a b)) S := by
  have e := lowest_ok S hb ha2 hb2
  have w : ∀ i : Int, F_is_whole [.int i] S = .ok (.bl true) S := fun i => by
    unfold F_is_whole b_is_whole
    refine run_rt ?_
    simp [c_is_whole_0]
  unfold F_fraction b_fraction
  refine run_rt ?_
  simp only [fq] at e ⊢
  simp [c_fraction_0, c_fraction_1, c_fraction_2, w, hb, e]
theorem is_fraction_ok (S : Sto) : F_is_fraction [fq p] S = .ok (.bl true) S := by
  have w : ∀ i : Int, F_is_whole [.int i] S = .ok (.bl true) S := fun i => by
    unfold F_is_whole b_is_whole
    refine run_rt ?_
    simp [c_is_whole_0]
  have t : F_is_tuple_of [fq p, .int 2] S = .ok (.bl true) S := by
    unfold F_is_tuple_of b_is_tuple_of
    refine run_rt ?_
    simp [c_is_tuple_of_0, fq]
  have r : (p.num.natAbs.gcd p.den) = 1 := p.reduced
  have d := p.den_nz
  unfold F_is_fraction b_is_fraction
  refine run_rt ?_
  simp only [fq] at t ⊢
  have d2 : (1 : Int) ≤ p.den := by omega
  simp [c_is_fraction_0, c_is_fraction_1, c_is_fraction_2, c_is_fraction_3, t, w, r, d2]
end
end Fx
set_option Elab.async false
set_option linter.all false
set_option maxRecDepth 100000
/-! loops, comprehensions -/
namespace DL
open PySem L2
/-- a store with more behind it -/
theorem at_app {S e : Sto} {n : Nat} {o : O} (h : S[n]? = some o) : (S ++ e)[n]? = some o := by
  rw [List.getElem?_append_left (List.getElem?_eq_some_iff.mp h).1]; exact h
theorem at_k {T e : Sto} {j : Nat} : (T ++ e)[T.length + j]? = e[j]? := by
  rw [List.getElem?_append_right (by omega)]; simp
@[simp] theorem at_end {S : Sto} {o : O} : (S ++ [o])[S.length]? = some o := by simp
theorem for_gen {it : Itd} {t : Tg} {b : SF} {n : Nat} (P : Nat → Lc → Sto → Prop)
    (step : ∀ i ρ S, i < n → P i ρ S → ∃ d ρ1 ρ' S', it.at' i S = some (some d) ∧ t.put d ρ S = some ρ1 ∧ b ρ1 S = .nx ρ' S' ∧ P (i + 1) ρ' S')
    (stop : ∀ ρ S, P n ρ S → it.at' n S = some none) : ∀ m i ρ S, n ≤ m + i → i ≤ n → P i ρ S → ∃ ρ' S', forGo it t b m i ρ S = .nx ρ' S' ∧ P n ρ' S' := by
  intro m
  induction m with
  | zero =>
    intro i ρ S h1 h2 p
    have : i = n := by omega
    subst this
    exact ⟨ρ, S, by unfold forGo; simp only [stop _ _ p], p⟩
  | succ m ih =>
    intro i ρ S h1 h2 p
    by_cases hi : i = n
    · subst hi
      exact ⟨ρ, S, by unfold forGo; simp only [stop _ _ p], p⟩
    · obtain ⟨d, ρ1, ρ', S', e1, e2, e3, q⟩ := step i ρ S (by omega) p
      obtain ⟨ρ'', S'', e4, r⟩ := ih (i + 1) ρ' S' (by omega) (by omega) q
      exact ⟨ρ'', S'', by unfold forGo; simp only [e1, e2, e3, e4], r⟩
theorem for_lst {a : EF} {j : Nat} {b : SF} {ρ : Lc} {S S1 : Sto} {n : Nat} {xs : List D} (P : Nat → Lc → Sto → Prop)
    (ha : a ρ S = .ok (.ob n) S1) (h0 : P 0 ρ S1) (hl : ∀ i ρ S, P i ρ S → S[n]? = some (.lst xs))
    (step : ∀ (i : Nat) (h : i < xs.length) ρ S, P i ρ S → ∃ ρ' S', b (ρ.set j (some xs[i])) S = .nx ρ' S' ∧ P (i + 1) ρ' S') :
    ∃ ρ' S', sFor (iLst a) (.nm j) b ρ S = .nx ρ' S' ∧ P xs.length ρ' S' := by
  have l1 := hl _ _ _ h0
  have e : sFor (iLst a) (.nm j) b ρ S = forGo (.lst n) (.nm j) b xs.length 0 ρ S1 := by
    simp [sFor, iLst, ha, l1, Itd.size]
  rw [e]
  refine for_gen (n := xs.length) P (fun i ρ S hi p => ?_) (fun ρ S p => ?_) _ _ _ _ (by omega) (by omega) h0
  · obtain ⟨ρ', S', e1, q⟩ := step i hi ρ S p
    exact ⟨xs[i], ρ.set j (some xs[i]), ρ', S', by simp [Itd.at', hl _ _ _ p, hi], by simp, e1, q⟩
  · simp [Itd.at', hl _ _ _ p]
theorem for_rng {n : Nat} {j : Nat} {b : SF} {ρ : Lc} {S : Sto} (P : Nat → Lc → Sto → Prop) (hn : (n : Int) < 2 ^ 62) (h0 : P 0 ρ S)
    (step : ∀ (i : Nat) (h : i < n) ρ S, P i ρ S → ∃ ρ' S', b (ρ.set j (some (.int i))) S = .nx ρ' S' ∧ P (i + 1) ρ' S') :
    ∃ ρ' S', sFor (iRng (aCons (eC (.int n)) aNil)) (.nm j) b ρ S = .nx ρ' S' ∧ P n ρ' S' := by
  have g : gd (-(2 ^ 62) ≤ (n : Int) ∧ (n : Int) < 2 ^ 62) = true := gd_of ⟨by omega, hn⟩
  have e : sFor (iRng (aCons (eC (.int n)) aNil)) (.nm j) b ρ S = forGo (.rng 0 n) (.nm j) b n 0 ρ S := by
    unfold sFor iRng
    simp only [aCons_eq, eC_eq, aNil_eq, bind_ok, g, if_true, sb_ok, Int.toNat_natCast, Itd.size]
  rw [e]
  refine for_gen (n := n) P (fun i ρ S hi p => ?_) (fun ρ S p => ?_) _ _ _ _ (by omega) (by omega) h0
  · obtain ⟨ρ', S', e1, q⟩ := step i hi ρ S p
    exact ⟨.int i, ρ.set j (some (.int i)), ρ', S', by simp [Itd.at', hi], by simp, e1, q⟩
  · simp [Itd.at']
theorem lc_gen {it : Itd} {t : Tg} {e : EF} {ρ : Lc} {k n : Nat} (P : Nat → List D → Sto → Prop)
    (step : ∀ i acc S, i < n → P i acc S → ∃ d ρ1 y S3, it.at' i S = some (some d) ∧ t.put d ρ S = some ρ1 ∧ e ρ1 S = .ok y S3 ∧ S3[k]? = some (.lst acc) ∧ acc.length ≤ 1000000 ∧ P (i + 1) (acc ++ [y]) (S3.set k (.lst (acc ++ [y]))))
    (stop : ∀ acc S, P n acc S → it.at' n S = some none) :
    ∀ m i acc S, n ≤ m + i → i ≤ n → P i acc S → ∃ acc' S', lcGo it t cYes e ρ k m i S = .ok (.ob k) S' ∧ P n acc' S' := by
  intro m
  induction m with
  | zero =>
    intro i acc S h1 h2 p
    have : i = n := by omega
    subst this
    exact ⟨acc, S, by unfold lcGo; simp only [stop _ _ p], p⟩
  | succ m ih =>
    intro i acc S h1 h2 p
    by_cases hi : i = n
    · subst hi
      exact ⟨acc, S, by unfold lcGo; simp only [stop _ _ p], p⟩
    · obtain ⟨d, ρ1, y, S3, e1, e2, e3, e4, e5, q⟩ := step i acc S (by omega) p
      obtain ⟨acc'', S'', e6, r⟩ := ih (i + 1) _ _ (by omega) (by omega) q
      have g : szOk acc.length = true := by simpa using e5
      exact ⟨acc'', S'', by unfold lcGo; simp only [e1, e2, cYes, e3, e4, g, if_true, e6], r⟩
/-- a comprehension whose element leaves the store as it was -/
theorem lc_map {α : Type} {a : EF} {j : Nat} {e : EF} {own : List Nat} {ρ : Lc} {S S1 : Sto} {n : Nat} {qs : List α} (g f : α → D)
    (ha : a ρ S = .ok (.ob n) S1) (h1 : S1[n]? = some (.lst (qs.map g))) (hq : qs.length ≤ 1000000)
    (step : ∀ q ∈ qs, ∀ S2, e ((wipeD ρ own).set j (some (g q))) S2 = .ok (f q) S2) :
    eLc (iLst a) (.nm j) cYes e own ρ S = .ok (.ob S1.length) (S1 ++ [.lst (qs.map f)]) := by
  have hn := (List.getElem?_eq_some_iff.mp h1).1
  have e1 : eLc (iLst a) (.nm j) cYes e own ρ S = lcGo (.lst n) (.nm j) cYes e (wipeD ρ own) S1.length qs.length 0 (S1 ++ [.lst []]) := by
    simp [eLc, iLst, ha, h1, Itd.size]
  rw [e1]
  have main := lc_gen (it := .lst n) (t := .nm j) (e := e) (ρ := wipeD ρ own) (k := S1.length) (n := qs.length)
    (fun i acc S => S = S1 ++ [.lst acc] ∧ acc = (qs.take i).map f) (by
      intro i acc S hi ⟨p1, p2⟩
      refine ⟨g qs[i], _, f qs[i], S, ?_, put_nm _ _ _ _, step _ (List.getElem_mem hi) _, ?_, ?_, ?_, ?_⟩
      · simp [Itd.at', p1, at_app h1, hi]
      · rw [p1]; simp
      · rw [p2]; simp; omega
      · rw [p1]; simp
      · rw [p2, List.take_succ, List.map_append]; simp [hi]) (by
      intro acc S ⟨p1, p2⟩
      simp [Itd.at', p1, at_app h1]) qs.length 0 [] (S1 ++ [.lst []]) (by omega) (by omega) (by simp)
  obtain ⟨acc, S', e2, e3, e4⟩ := main
  rw [e2, e3, e4]; simp
@[simp] theorem pNo_eq (ρ : Lc) (S : Sto) : pNo ρ S = .ok none S := rfl
@[simp] theorem pAt_eq (a : EF) (ρ : Lc) (S : Sto) : pAt a ρ S = (a ρ S).bind fun d S1 => match d with | .int i => .ok (some i) S1 | _ => .no := rfl
@[simp] theorem eSl_eq (a : EF) (lo hi : PF) (ρ : Lc) (S : Sto) : eSl a lo hi ρ S = (a ρ S).bind fun d S1 => (lo ρ S1).bind fun l S2 => (hi ρ S2).bind fun u S3 => oSl d l u S3 := rfl
theorem oSl_ob {n : Nat} {xs : List D} {S : Sto} (h : S[n]? = some (.lst xs)) (l u : Option Int) : oSl (.ob n) l u S = .ok (.ob S.length) (S ++ [.lst (cutD xs l u)]) := by
  simp only [oSl, h]
theorem oAdd_ob {n m : Nat} {xs ys : List D} {S : Sto} (h1 : S[n]? = some (.lst xs)) (h2 : S[m]? = some (.lst ys)) (h : xs.length + ys.length ≤ 1000000) : oAdd (.ob n) (.ob m) S = .ok (.ob S.length) (S ++ [.lst (xs ++ ys)]) := by
  have g : szOk (xs.length + ys.length) = true := by simpa using h
  simp only [oAdd, h1, h2]
  simp [h]
theorem eLst_ok {a : AF} {ρ : Lc} {S S1 : Sto} {ds : List D} (h : a ρ S = .ok ds S1) (hl : ds.length ≤ 1000000) : eLst a ρ S = .ok (.ob S1.length) (S1 ++ [.lst ds]) := by
  simp [h, hl]
end DL
set_option Elab.async false
set_option linter.all false
set_option maxRecDepth 100000
/-! the law's pen, numbers, sameness -/
namespace Fx
open PySem L2 DL
theorem Pen.lt {S : Sto} {ns : List Int} {k : Nat} (h : Pen S ns k) : 2 < S.length := by
  obtain ⟨a, r, h1, h2⟩ := h
  exact (List.getElem?_eq_some_iff.mp h1).1
theorem l_pen_ok (ns : List Int) : ∃ ms S, F_l_pen [.ro ns] [] = .ok (.ob 2) S ∧ Pen S ms 0 ∧ S.length = 3 := by
  refine ⟨cutD ns none (some 63), [.lst ((cutD ns none (some 63)).map D.int), .lst ((cutD ns none (some 63)).map D.int), .lst [.ob 1, .int 0, .int 0]], ?_, ⟨0, 0, rfl, rfl, by decide, by decide⟩, rfl⟩
  unfold F_l_pen b_l_pen
  refine run_rt ?_
  simp [c_l_pen_0, cList]
/-- after some draws -/
def Nu (ns : List Int) (S0 S : Sto) (k : Nat) (f : Int) : Prop := Pen S ns k ∧ Fr S0 S ∧ 0 ≤ f ∧ f < 1000000000000000000000000000000000000000000000000000000000000
section
variable {S0 S : Sto} {ns : List Int} {k : Nat} {w f : Int} {o3 : Option D}
theorem num0 (h : Pen S ns k) (hk : k + 2 ≤ 1000000000000) : ∃ w f S', c_l_number_0 [some (.ob 2), none, none, none] S = .nx [some (.ob 2), some (.int w), some (.int f), none] S' ∧ Nu ns S S' (k + 2) f := by
  obtain ⟨w, S1, e1, a1, a2, p1, r1, _⟩ := draw_ok (m := 5) h (by omega) (by decide) (by decide)
  obtain ⟨f, S2, e2, b1, b2, p2, r2, _⟩ := draw_ok (m := 13) p1 (by omega) (by decide) (by decide)
  exact ⟨w, f, S2, by simp [c_l_number_0, e1, e2], p2, r1.trans r2, b1, by omega⟩
theorem pow12 (S : Sto) : oPow (.int 10) (.int 12) S = .ok (.int 1000000000000) S := oPow_int S (by decide)
theorem pow48 (S : Sto) : oPow (.int 10) (.int 48) S = .ok (.int 1000000000000000000000000000000000000000000000000) S := oPow_int S (by decide)
theorem num1 (h : Nu ns S0 S k f) (hk : k + 1 ≤ 1000000000000) : ∃ f' S', c_l_number_1 [some (.ob 2), some (.int w), some (.int f), o3] S = .nx [some (.ob 2), some (.int w), some (.int f'), o3] S' ∧ Nu ns S0 S' (k + 1) f' := by
  obtain ⟨h1, h2, h3, h4⟩ := h
  by_cases hw : w = 2
  · obtain ⟨f', S1, e1, a1, a2, p1, r1, _⟩ := draw_ok (m := 1000000000000) h1 (by omega) (by decide) (by decide)
    exact ⟨f', S1, by simp [c_l_number_1, hw, pow12, e1], p1, h2.trans r1, a1, by omega⟩
  · exact ⟨f, S, by simp [c_l_number_1, hw], h1.mono (by omega), h2, h3, h4⟩
theorem num2 (h : Nu ns S0 S k f) (hk : k + 1 ≤ 1000000000000) : ∃ f' S', c_l_number_2 [some (.ob 2), some (.int w), some (.int f), o3] S = .nx [some (.ob 2), some (.int w), some (.int f'), o3] S' ∧ Nu ns S0 S' (k + 1) f' := by
  obtain ⟨h1, h2, h3, h4⟩ := h
  by_cases hw : w = 3
  · obtain ⟨f', S1, e1, a1, a2, p1, r1, _⟩ := draw_ok (m := 3) h1 (by omega) (by decide) (by decide)
    exact ⟨1000000000000 - 1 - f', S1, by simp [c_l_number_2, hw, pow12, e1], p1, h2.trans r1, by omega, by omega⟩
  · exact ⟨f, S, by simp [c_l_number_2, hw], h1.mono (by omega), h2, h3, h4⟩
theorem num3 (h : Nu ns S0 S k f) (hk : k + 5 ≤ 1000000000000) : ∃ f' o3' S', c_l_number_3 [some (.ob 2), some (.int w), some (.int f), o3] S = .nx [some (.ob 2), some (.int w), some (.int f'), o3'] S' ∧ Nu ns S0 S' (k + 5) f' := by
  by_cases hw : w = 4
  · have main := for_rng (n := 5) (j := 3) (ρ := [some (.ob 2), some (.int w), some (.int f), o3]) (S := S)
      (b := sAsg (.nm 2) (eOp oAdd (eOp oMul (eOp oMod (eVar 2) (eOp oPow (eC (.int 10)) (eC (.int 48)))) (eOp oPow (eC (.int 10)) (eC (.int 12)))) (eCall F_l_draw (aCons (eVar 0) (aCons (eOp oPow (eC (.int 10)) (eC (.int 12))) aNil)))))
      (fun i ρ S => ∃ f' o, ρ = [some (.ob 2), some (.int w), some (.int f'), o] ∧ Nu ns S0 S (k + i) f') (by decide) ⟨f, o3, rfl, h⟩ (by
        rintro i hi ρ S ⟨f', o, rfl, h1, h2, h3, h4⟩
        obtain ⟨d, S1, e1, a1, a2, p1, r1, _⟩ := draw_ok (m := 1000000000000) h1 (by omega) (by decide) (by decide)
        have hm := modB f' (p := 1000000000000000000000000000000000000000000000000) (by decide)
        have g : mulOk (f' % 1000000000000000000000000000000000000000000000000) 1000000000000 = true := mulOk_of (a := 180) (b := 180) (by omega) (by decide) (by decide)
        exact ⟨_, S1, by simp [pow12, pow48, oMod_int, oMul_int _ g, e1]; rfl, f' % 1000000000000000000000000000000000000000000000000 * 1000000000000 + d, _, rfl, p1, h2.trans r1, by omega, by omega⟩)
    obtain ⟨ρ', S', e1, f', o, rfl, e3⟩ := main
    exact ⟨f', o, S', by unfold c_l_number_3; simp only [sIf_eq, tTru_eq, eOp_eq, eVar_s, eVar_0, bind_ok, eC_eq, oEq_int2, hw, truD_bl, beq_self_eq_true, sb_ok, if_true]; rw [hw] at e1; exact e1, e3⟩
  · obtain ⟨h1, h2, h3, h4⟩ := h
    exact ⟨f, o3, S, by simp [c_l_number_3, hw], h1.mono (by omega), h2, h3, h4⟩
theorem num4 (h : Nu ns S0 S k f) (hk : k + 1 ≤ 1000000000000) : ∃ v S', c_l_number_4 [some (.ob 2), some (.int w), some (.int f), o3] S = .rt (.int v) S' ∧ Pen S' ns (k + 1) ∧ Fr S0 S' ∧ v.natAbs < 2 ^ 200 := by
  obtain ⟨h1, h2, h3, h4⟩ := h
  obtain ⟨d, S1, e1, a1, a2, p1, r1, _⟩ := draw_ok (m := 2) (h1.app (e := [.lst [.int 1, .int (-1)]])) (by omega) (by decide) (by decide)
  have hl := h1.lt
  have l1 : S1[S.length]? = some (.lst [.int 1, .int (-1)]) := r1.2 _ _ (by omega) at_end
  have g1 : ∀ i : Int, i.natAbs < 4 → mulOk f i = true := fun i hi => mulOk_of (a := 200) (b := 2) (by omega) hi (by decide)
  have hd : d = 0 ∨ d = 1 := by omega
  rcases hd with rfl | rfl
  · exact ⟨f, S1, by simp [c_l_number_4, e1, oIx_ob l1, oMul_int _ (g1 1 (by decide))], p1, (h2.trans Fr.app).trans r1, by omega⟩
  · exact ⟨-f, S1, by simp [c_l_number_4, e1, oIx_ob l1, oMul_int _ (g1 (-1) (by decide))], p1, (h2.trans Fr.app).trans r1, by omega⟩
end
theorem number_ok {S : Sto} {ns : List Int} {k : Nat} (h : Pen S ns k) (hk : k + 10 ≤ 1000000000000) :
    ∃ v S', F_l_number [.ob 2] S = .ok (.int v) S' ∧ v.natAbs < 2 ^ 200 ∧ Pen S' ns (k + 10) ∧ Fr S S' := by
  obtain ⟨w, f0, S0, e0, p0⟩ := num0 h (by omega)
  obtain ⟨f1, S1, e1, p1⟩ := num1 (w := w) (o3 := none) p0 (by omega)
  obtain ⟨f2, S2, e2, p2⟩ := num2 (w := w) (o3 := none) p1 (by omega)
  obtain ⟨f3, o3, S3, e3, p3⟩ := num3 (w := w) (o3 := none) p2 (by omega)
  obtain ⟨v, S4, e4, p4, r4, b4⟩ := num4 (w := w) (o3 := o3) p3 (by omega)
  refine ⟨v, S4, ?_, b4, p4, r4⟩
  unfold F_l_number b_l_number
  refine run_rt ?_
  show sSeq _ _ [some (.ob 2), none, none, none] S = _
  rw [seq_nx e0, seq_nx e1, seq_nx e2, seq_nx e3]
  exact e4
end Fx
set_option Elab.async false
set_option linter.all false
set_option maxRecDepth 100000
/-! sameness of flat data -/
namespace DL
open PySem L2
instance : Inhabited D := ⟨.non⟩
end DL
namespace Fx
open PySem L2 DL
/-- the same, so many layers deep -/
inductive Sm (S : Sto) : Nat → D → D → Prop where
  | int {d : Nat} (i : Int) : Sm S d (.int i) (.int i)
  | bl {d : Nat} (b : Bool) : Sm S d (.bl b) (.bl b)
  | non {d : Nat} : Sm S d .non .non
  | tup {d : Nat} {xs ys : List D} (hl : xs.length = ys.length) (h3 : ys.length ≤ 1000000) (h : ∀ (i : Nat) (h1 : i < xs.length) (h2 : i < ys.length), Sm S d xs[i] ys[i]) : Sm S (d + 1) (.tup xs) (.tup ys)
  | ob {d n m : Nat} {xs ys : List D} (hn : S[n]? = some (.lst xs)) (hm : S[m]? = some (.lst ys)) (hl : xs.length = ys.length) (h3 : ys.length ≤ 1000000) (h : ∀ (i : Nat) (h1 : i < xs.length) (h2 : i < ys.length), Sm S d xs[i] ys[i]) : Sm S (d + 1) (.ob n) (.ob m)
theorem Sm.app {S e : Sto} {d : Nat} {a b : D} (h : Sm S d a b) : Sm (S ++ e) d a b := by
  induction h with
  | int i => exact .int i
  | bl i => exact .bl i
  | non => exact .non
  | tup hl h3 h ih => exact .tup hl h3 ih
  | ob hn hm hl h3 h ih => exact .ob (at_app hn) (at_app hm) hl h3 ih
theorem all_ok {S : Sto} {n : Nat} {k : Nat} (h : S[n]? = some (.lst (List.replicate k (.bl true)))) : cAll [.ob n] S = .ok (.bl true) S := by
  have e : ∀ k, allBl (List.replicate k (.bl true)) = some (List.replicate k true) := fun k => by
    induction k with
    | zero => rfl
    | succ k ih => rw [List.replicate_succ, allBl, ih]; rfl
  have f : ∀ k, (List.replicate k true).all id = true := fun k => by
    induction k with
    | zero => rfl
    | succ k ih => rw [List.replicate_succ, List.all_cons, ih]; rfl
  simp only [cAll, h, e]
  simp
theorem same_ok : ∀ (D : Nat) {S : Sto} {d : Nat} {a b : DL.D}, Sm S d a b → d < D → ∃ e, R_l_same D [a, b] S = .ok (.bl true) (S ++ e) := by
  intro D
  induction D with
  | zero => intro S d a b h hd; omega
  | succ D ih =>
    intro S d a b h hd
    have fin : ∀ (xs ys : List DL.D) (it : Itd) (n d : Nat), n ≤ 1000000 → xs.length = n → ys.length = n → (∀ (i : Nat) (h1 : i < xs.length) (h2 : i < ys.length), Sm S d xs[i] ys[i]) → d < D →
        (∀ i e, (h : i < n) → it.at' i (S ++ e) = some (some (.tup [xs[i]!, ys[i]!]))) → (∀ e, it.at' n (S ++ e) = some none) → ∀ ρ, ρ.length = 4 →
        ∃ e, lcGo it (.tp [.nm 2, .nm 3]) cYes (eCall (R_l_same D) (aCons (eVar 2) (aCons (eVar 3) aNil))) ρ S.length n 0 (S ++ [.lst []]) = .ok (.ob S.length) (S ++ .lst (List.replicate n (.bl true)) :: e) := by
      intro xs ys it n d hn hx hy hs hd h1 h2 ρ hρ
      have main := lc_gen (it := it) (t := .tp [.nm 2, .nm 3]) (e := eCall (R_l_same D) (aCons (eVar 2) (aCons (eVar 3) aNil))) (ρ := ρ) (k := S.length) (n := n)
        (fun i acc S' => acc = List.replicate i (.bl true) ∧ ∃ e, S' = S ++ .lst acc :: e) (by
          rintro i acc S' hi ⟨p1, e, p2⟩
          have sm := hs i (by omega) (by omega)
          obtain ⟨e', e3⟩ := ih (sm.app (e := .lst acc :: e)) hd
          refine ⟨_, (ρ.set 2 (some xs[i]!)).set 3 (some ys[i]!), .bl true, S ++ .lst acc :: e ++ e', by rw [p2]; exact h1 i _ hi, by simp, ?_, ?_, ?_, ?_⟩
          · match ρ, hρ with
            | [a, b, c, d], _ =>
              simp only [List.set, eCall_eq, aCons_eq, eVar_s, eVar_0, aNil_eq, bind_ok, p2]
              rw [getElem!_pos xs i (by omega), getElem!_pos ys i (by omega), e3]
              rfl
          · simp
          · rw [p1]; simp; omega
          · exact ⟨by rw [p1, List.replicate_succ'], e ++ e', by simp⟩) (by
          rintro acc S' ⟨p1, e, p2⟩
          rw [p2]; exact h2 _) n 0 [] (S ++ [.lst []]) (by omega) (by omega) ⟨rfl, [], rfl⟩
      obtain ⟨acc, S', e1, e2, e, e3⟩ := main
      exact ⟨e, by rw [e1, e3, e2]⟩
    show ∃ e, runF 4 2 (b_l_same (R_l_same D)) [a, b] S = _
    cases h with
    | int i =>
      refine ⟨[], run_rt ?_⟩
      simp [b_l_same, c_l_same_0, c_l_same_1, c_l_same_2, c_l_same_3, c_l_same_4]
    | bl i =>
      refine ⟨[], run_rt ?_⟩
      simp [b_l_same, c_l_same_0, c_l_same_1, c_l_same_2, c_l_same_3, c_l_same_4]
    | non =>
      refine ⟨[], run_rt ?_⟩
      simp [b_l_same, c_l_same_0, c_l_same_1]
    | tup hl h3 h =>
      rename_i d xs ys
      obtain ⟨e, e1⟩ := fin xs ys (.zipT xs ys) ys.length d h3 hl rfl h (by omega) (fun i e h => by simp [Itd.at', h, hl]) (fun e => by simp [Itd.at', hl]) [some (.tup xs), some (.tup ys), none, none] rfl
      refine ⟨.lst (List.replicate ys.length (.bl true)) :: e, run_rt ?_⟩
      · unfold b_l_same
        refine (seq_rt (d := .bl true) (S' := S ++ .lst (List.replicate ys.length (.bl true)) :: e) ?_ _)
        have e2 : (eLc (iZip (aCons (eVar 0) (aCons (eVar 1) aNil))) (.tp [(.nm 2), (.nm 3)]) cYes (eCall (R_l_same D) (aCons (eVar 2) (aCons (eVar 3) aNil))) [2, 3]) [some (.tup xs), some (.tup ys), none, none] S = .ok (.ob S.length) (S ++ .lst (List.replicate ys.length (.bl true)) :: e) := by
          unfold eLc
          simp only [DL.iZip, aCons_eq, eVar_s, eVar_0, aNil_eq, bind_ok, wipeD, Itd.size, List.set, hl]
          exact e1
        have e3 : cAll [.ob S.length] (S ++ .lst (List.replicate ys.length (.bl true)) :: e) = .ok (.bl true) (S ++ .lst (List.replicate ys.length (.bl true)) :: e) := all_ok (k := ys.length) (by simp)
        simp [c_l_same_0, hl, e2, e3]
    | ob hn hm hl h3 h =>
      rename_i d n m xs ys
      obtain ⟨e, e1⟩ := fin xs ys (.zipL n m) ys.length d h3 hl rfl h (by omega) (fun i e h => by simp [Itd.at', h, hl, at_app hn, at_app hm]) (fun e => by simp [Itd.at', hl, at_app hn, at_app hm]) [some (.ob n), some (.ob m), none, none] rfl
      refine ⟨.lst (List.replicate ys.length (.bl true)) :: e, run_rt ?_⟩
      · unfold b_l_same
        refine (seq_rt (d := .bl true) (S' := S ++ .lst (List.replicate ys.length (.bl true)) :: e) ?_ _)
        have e2 : (eLc (iZip (aCons (eVar 0) (aCons (eVar 1) aNil))) (.tp [(.nm 2), (.nm 3)]) cYes (eCall (R_l_same D) (aCons (eVar 2) (aCons (eVar 3) aNil))) [2, 3]) [some (.ob n), some (.ob m), none, none] S = .ok (.ob S.length) (S ++ .lst (List.replicate ys.length (.bl true)) :: e) := by
          unfold eLc
          simp only [DL.iZip, aCons_eq, eVar_s, eVar_0, aNil_eq, bind_ok, wipeD, Itd.size, List.set, hl, hn, hm]
          exact e1
        have e3 : cAll [.ob S.length] (S ++ .lst (List.replicate ys.length (.bl true)) :: e) = .ok (.bl true) (S ++ .lst (List.replicate ys.length (.bl true)) :: e) := all_ok (k := ys.length) (by simp)
        simp [c_l_same_0, hl, e2, e3, tyD_ob hn, tyD_ob hm, cLen_ob hn, cLen_ob hm]
end Fx
set_option Elab.async false
set_option linter.all false
set_option maxRecDepth 100000
/-! lists of fractions, drawn fractions -/
namespace Fx
open PySem L2 DL
theorem cutD_map {α β : Type} (f : α → β) (xs : List α) (l u : Option Int) : cutD (xs.map f) l u = (cutD xs l u).map f := by
  simp [cutD, List.map_take, List.map_drop]
theorem cutD_mem {α : Type} {xs : List α} {l u : Option Int} {x : α} (h : x ∈ cutD xs l u) : x ∈ xs := List.mem_of_mem_drop (List.mem_of_mem_take h)
theorem cutD_len {α : Type} {xs : List α} {l u : Option Int} : (cutD xs l u).length ≤ xs.length := by
  simp only [cutD, List.length_take, List.length_drop]; omega
@[simp] theorem fq_at0 (q : Rat) (S : Sto) : oIx (fq q) (.int 0) S = .ok (.int q.num) S := rfl
@[simp] theorem fq_at1 (q : Rat) (S : Sto) : oIx (fq q) (.int 1) S = .ok (.int q.den) S := rfl
theorem fq_floor (q : Rat) : fq (Rat.ofInt q.floor) = .tup [.int q.floor, .int 1] := rfl
theorem fq_one : fq 1 = .tup [.int 1, .int 1] := rfl
theorem fq_zero : fq 0 = .tup [.int 0, .int 1] := rfl
theorem fq_neg (q : Rat) : fq (-q) = .tup [.int (0 - q.num), .int q.den] := by
  simp [fq, Rat.neg_num, Rat.neg_den]
theorem Bq_neg {q : Rat} {n : Nat} (h : Bq n q) : Bq n (-q) := ⟨by rw [Rat.neg_num]; have := h.1; omega, by rw [Rat.neg_den]; exact h.2⟩
theorem Bq_one : Bq 1 (1 : Rat) := ⟨by decide, by decide⟩
theorem Bq_zero : Bq 1 (0 : Rat) := ⟨by decide, by decide⟩
theorem Bq_int {i : Int} {n : Nat} (h : i.natAbs < 2 ^ n) (hn : 1 ≤ n) : Bq n (Rat.ofInt i) := ⟨h, pow_mono (n := 1) (show 1 < 2 ^ 1 by decide) hn⟩
theorem Bq_floor {q : Rat} {n : Nat} (h : Bq n q) (hn : 1 ≤ n) : Bq n (Rat.ofInt q.floor) := by
  refine Bq_int ?_ hn
  rw [Rat.floor_def]
  exact Nat.lt_of_le_of_lt (Int.natAbs_ediv_le_natAbs _ _) h.1
/-- a part in 10 ** 40 -/
def tiny : Rat := ⟨1, 10000000000000000000000000000000000000000, by decide, by simp⟩
theorem fq_tiny : fq tiny = .tup [.int 1, .int 10000000000000000000000000000000000000000] := rfl
theorem Bq_tiny : Bq 134 tiny := ⟨by decide, by decide⟩
theorem up13 {x : Nat} (h : x < 2 ^ 200) : x < 2 ^ 13000 := pow_mono (n := 200) (m := 13000) h (by decide)
/-- a fraction drawn -/
theorem rat_ok {S : Sto} {ns : List Int} {k : Nat} {o0 : Option D} {ρ : Lc} (h : Pen S ns k) (hk : k + 20 ≤ 1000000000000) :
    ∃ q S', eCall F_l_low (aCons (eCall F_l_number (aCons (eVar 1) aNil)) (aCons (eOr (eCall F_l_number (aCons (eVar 1) aNil)) (eC (.int 1))) aNil)) (o0 :: some (.ob 2) :: ρ) S = .ok (fq q) S' ∧ Bq 200 q ∧ Pen S' ns (k + 20) ∧ Fr S S' := by
  obtain ⟨a, S1, e1, b1, p1, r1⟩ := number_ok h (by omega)
  obtain ⟨b, S2, e2, b2, p2, r2⟩ := number_ok p1 (by omega)
  by_cases hb : b = 0
  · have one : (1 : Int).natAbs < 2 ^ 200 := by decide
    have e3 := l_low_ok S2 (a := a) (b := 1) (by decide) (up13 b1) (up13 one)
    exact ⟨Rat.divInt a 1, S2, by simp [e1, e2, hb, e3], Bq_divInt (by decide) b1 one, p2, r1.trans r2⟩
  · have e3 := l_low_ok S2 (a := a) (b := b) hb (up13 b1) (up13 b2)
    have hb2 : (b != 0) = true := by simpa using hb
    exact ⟨_, S2, by simp [e1, e2, hb2, e3], Bq_divInt hb b1 b2, p2, r1.trans r2⟩
end Fx
set_option Elab.async false
set_option linter.all false
set_option maxRecDepth 100000
/-! loops, wider -/
namespace DL
open PySem L2
theorem for_lstG {a : EF} {t : Tg} {b : SF} {ρ : Lc} {S S1 : Sto} {n : Nat} {xs : List D} (P : Nat → Lc → Sto → Prop)
    (ha : a ρ S = .ok (.ob n) S1) (h0 : P 0 ρ S1) (hl : ∀ i ρ S, P i ρ S → S[n]? = some (.lst xs))
    (step : ∀ (i : Nat) (h : i < xs.length) ρ S, P i ρ S → ∃ ρ1 ρ' S', t.put xs[i] ρ S = some ρ1 ∧ b ρ1 S = .nx ρ' S' ∧ P (i + 1) ρ' S') :
    ∃ ρ' S', sFor (iLst a) t b ρ S = .nx ρ' S' ∧ P xs.length ρ' S' := by
  have l1 := hl _ _ _ h0
  have e : sFor (iLst a) t b ρ S = forGo (.lst n) t b xs.length 0 ρ S1 := by
    simp [sFor, iLst, ha, l1, Itd.size]
  rw [e]
  refine for_gen (n := xs.length) P (fun i ρ S hi p => ?_) (fun ρ S p => ?_) _ _ _ _ (by omega) (by omega) h0
  · obtain ⟨ρ1, ρ', S', e0, e1, q⟩ := step i hi ρ S p
    exact ⟨xs[i], ρ1, ρ', S', by simp [Itd.at', hl _ _ _ p, hi], e0, e1, q⟩
  · simp [Itd.at', hl _ _ _ p]
theorem for_rngG {n : Nat} {j : Nat} {a : AF} {b : SF} {ρ : Lc} {S S1 : Sto} (P : Nat → Lc → Sto → Prop) (hn : (n : Int) < 2 ^ 62) (ha : a ρ S = .ok [.int n] S1) (h0 : P 0 ρ S1)
    (step : ∀ (i : Nat) (h : i < n) ρ S, P i ρ S → ∃ ρ' S', b (ρ.set j (some (.int i))) S = .nx ρ' S' ∧ P (i + 1) ρ' S') :
    ∃ ρ' S', sFor (iRng a) (.nm j) b ρ S = .nx ρ' S' ∧ P n ρ' S' := by
  have g : gd (-(2 ^ 62) ≤ (n : Int) ∧ (n : Int) < 2 ^ 62) = true := gd_of ⟨by omega, hn⟩
  have e : sFor (iRng a) (.nm j) b ρ S = forGo (.rng 0 n) (.nm j) b n 0 ρ S1 := by
    unfold sFor iRng
    simp only [ha, bind_ok, g, if_true, sb_ok, Int.toNat_natCast, Itd.size]
  rw [e]
  refine for_gen (n := n) P (fun i ρ S hi p => ?_) (fun ρ S p => ?_) _ _ _ _ (by omega) (by omega) h0
  · obtain ⟨ρ', S', e1, q⟩ := step i hi ρ S p
    exact ⟨.int i, ρ.set j (some (.int i)), ρ', S', by simp [Itd.at', hi], by simp, e1, q⟩
  · simp [Itd.at']
end DL
namespace Fx
open PySem L2 DL
theorem same_fq {S : Sto} {D : Nat} {q : Rat} (h : 1 < D) : ∃ e, R_l_same D [fq q, fq q] S = .ok (.bl true) (S ++ e) :=
  same_ok D (d := 1) (.tup rfl (by simp) (fun i h1 h2 => match i, h1 with | 0, _ => .int _ | 1, _ => .int _)) h
end Fx
set_option Elab.async false
set_option linter.all false
set_option maxRecDepth 100000
/-! quotients, equality of fractions, lists of pairs -/
namespace DL
open PySem L2
@[simp] theorem ixN_30 : ixN 3 0 = some 0 := rfl
theorem oEqG_tup2 (n : Bool) (a b c d : Int) (S : Sto) : oEqG n (.tup [.int a, .int b]) (.tup [.int c, .int d]) S = .ok (.bl (decide (a = c ∧ b = d) != n)) S := by
  have h : ∀ x y : Int, SeqAt.shaped (.tuple [.int x, .int y]) = true := fun x y => by
    simp [SeqAt.shaped, PyData.canLay0, PyData.depth, PyData.canLayAll0, PyData.depthAll]
  have e : PyData.eqv (.tuple [.int a, .int b]) (.tuple [.int c, .int d]) = decide (a = c ∧ b = d) := by
    simp [PyData.eqv, PyData.eqvAll]
    rfl
  simp [oEqG, pyOf, pyOf.pyAll, h, e]
theorem put_ls {ts : List Tg} {ds : List D} {n : Nat} {ρ : Lc} {S : Sto} (h : S[n]? = some (.lst ds)) : Tg.put (.ls ts) (.ob n) ρ S = Tg.puts ts ds ρ S := by
  simp only [Tg.put, h]
theorem eApp_ok {a b : EF} {ρ : Lc} {S S1 S2 : Sto} {n : Nat} {xs ys : List D} {d : D} (h1 : a ρ S = .ok (.ob n) S1) (h2 : S1[n]? = some (.lst ys)) (h3 : b ρ S1 = .ok d S2) (h4 : S2[n]? = some (.lst xs)) (h5 : xs.length ≤ 1000000) : eApp a b ρ S = .ok .non (S2.set n (.lst (xs ++ [d]))) := by
  have g : szOk xs.length = true := by simpa using h5
  simp only [eApp, h1, bind_ok, h2, h3, h4, g, if_true]
@[simp] theorem sExpr_eq (a : EF) (ρ : Lc) (S : Sto) : sExpr a ρ S = (a ρ S).sb ρ fun _ S1 => .nx ρ S1 := rfl
theorem eRev_ob {a : EF} {ρ : Lc} {S S1 : Sto} {n : Nat} {xs : List D} (h1 : a ρ S = .ok (.ob n) S1) (h2 : S1[n]? = some (.lst xs)) : eRev a ρ S = .ok (.ob S1.length) (S1 ++ [.lst xs.reverse]) := by
  simp only [eRev, h1, bind_ok, h2]
theorem eCnt_ob {a b : EF} {ρ : Lc} {S S1 : Sto} {n : Nat} {x y k : Bool} (h1 : a ρ S = .ok (.ob n) S1) (h2 : S1[n]? = some (.lst [.bl x, .bl y])) (h3 : b ρ S1 = .ok (.bl k) S1) : eCnt a b ρ S = .ok (.int ([x, y].count k : Nat)) S1 := by
  simp [eCnt, h1, h2, h3, allBl]
end DL
namespace Fx
open PySem L2 DL
theorem oEq_fq (p q : Rat) (S : Sto) : oEq (fq p) (fq q) S = .ok (.bl (decide (p = q))) S := by
  have h : (p.num = q.num ∧ (p.den : Int) = (q.den : Int)) = (p = q) := propext ⟨fun h => Rat.ext h.1 (by omega), fun h => by rw [h]; exact ⟨rfl, rfl⟩⟩
  simp only [oEq, fq, oEqG_tup2]
  simp [h]
theorem oNe_fq (p q : Rat) (S : Sto) : oNe (fq p) (fq q) S = .ok (.bl (!decide (p = q))) S := by
  have h : (p.num = q.num ∧ (p.den : Int) = (q.den : Int)) = (p = q) := propext ⟨fun h => Rat.ext h.1 (by omega), fun h => by rw [h]; exact ⟨rfl, rfl⟩⟩
  simp only [oNe, fq, oEqG_tup2]
  simp [h]
section
variable {p q r : Rat} {n m : Nat}
theorem div_eq (p q : Rat) : Rat.divInt (p.num * q.den) (p.den * q.num) = p / q := by
  rw [Rat.div_def, Rat.inv_def, ← Rat.divInt_mul_divInt, Rat.divInt_ofNat, Rat.mkRat_self]
theorem num_ne (h : q ≠ 0) : q.num ≠ 0 := fun e => h (Rat.num_eq_zero.mp e)
theorem Bq_div (hp : Bq n p) (hq : Bq m q) (h : q ≠ 0) : Bq (n + m) (p / q) := by
  rw [← div_eq]
  exact Bq_divInt (Int.mul_ne_zero (den_ne p) (num_ne h)) (mul_lt hp.1 (by rw [den_abs]; exact hq.2)) (mul_lt (by rw [den_abs]; exact hp.2) hq.1)
theorem over_ok (hp : Bq n p) (hq : Bq m q) (h : n + m + 1 ≤ 13000) (h0 : q ≠ 0) (S : Sto) : F_over [fq p, fq q] S = .ok (fq (p / q)) S := by
  have e0 : oEq (fq q) (.tup [.int 0, .int 1]) S = .ok (.bl false) S := by
    rw [← fq_zero, oEq_fq, decide_eq_false h0]
  have g1 : mulOk p.num q.den = true := mulOk_of hp.1 (by rw [den_abs]; exact hq.2) (by omega)
  have g2 : mulOk (p.den : Int) q.num = true := mulOk_of (by rw [den_abs]; exact hp.2) hq.1 (by omega)
  have h1 : (p.num * (q.den : Int)).natAbs < 2 ^ (n + m) := mul_lt hp.1 (by rw [den_abs]; exact hq.2)
  have h2 : ((p.den : Int) * q.num).natAbs < 2 ^ (n + m) := mul_lt (by rw [den_abs]; exact hp.2) hq.1
  have e := lowest_ok S (Int.mul_ne_zero (den_ne p) (num_ne h0)) (pow_mono h1 (by omega)) (pow_mono h2 (by omega))
  rw [div_eq] at e
  unfold F_over b_over
  refine run_rt ?_
  rw [seq_nx (ρ' := [some (fq p), some (fq q)]) (S' := S) (by simp [c_over_0, e0])]
  simp [c_over_1, oMul_int, g1, g2, e]
/-- a fraction and a fraction -/
def dup (q : Rat) : D := .tup [fq q, fq q]
end
end Fx
set_option Elab.async false
set_option linter.all false
set_option maxRecDepth 100000
noncomputable section
namespace Lk10
open PySem L2 DL Fx
def c_l_places_0 : SF :=
  (sAsg (.nm 2) (eCall F_l_edges (aCons (eVar 1) aNil)))
def c_l_places_1 : SF :=
  (sAsg (.nm 3) (eLst (aCons (eTup (aCons (eC (.int 0)) (aCons (eC (.int 1)) aNil))) (aCons (eTup (aCons (eOp oIx (eVar 2) (eCall F_l_draw (aCons (eVar 0) (aCons (eB cLen (aCons (eVar 2) aNil)) aNil)))) (aCons (eC (.int 1)) aNil))) (aCons (eTup (aCons (eOp oAdd (eOp oIx (eVar 2) (eNeg (eC (.int 1)))) (eCall F_l_draw (aCons (eVar 0) (aCons (eC (.int 9000)) aNil)))) (aCons (eC (.int 1)) aNil))) aNil)))))
def c_l_places_2_0 : SF :=
  (sAsg (.nm 5) (eOp oAdd (eC (.int 2)) (eCall F_l_draw (aCons (eVar 0) (aCons (eC (.int 996)) aNil)))))
def c_l_places_2_1 : SF :=
  (sExpr (eApp (eVar 3) (eCall F_l_add (aCons (eTup (aCons (eVar 4) (aCons (eC (.int 1)) aNil))) (aCons (eCall F_l_low (aCons (eOp oAdd (eC (.int 1)) (eCall F_l_draw (aCons (eVar 0) (aCons (eOp oSub (eVar 5) (eC (.int 1))) aNil)))) (aCons (eVar 5) aNil))) aNil)))))
def c_l_places_2 : SF :=
  (sFor (jTup (eTup (aCons (eOp oIx (eVar 2) (eCall F_l_draw (aCons (eVar 0) (aCons (eB cLen (aCons (eVar 2) aNil)) aNil)))) (aCons (eCall F_l_draw (aCons (eVar 0) (aCons (eOp oAdd (eC (.int 1)) (eOp oIx (eVar 2) (eNeg (eC (.int 1))))) aNil))) aNil)))) (.nm 4)
    (sSeq c_l_places_2_0
    c_l_places_2_1))
def c_l_places_3 : SF :=
  (sRet (eVar 3))
def b_l_places : SF :=
  (sSeq c_l_places_0
    (sSeq c_l_places_1
    (sSeq c_l_places_2
    c_l_places_3)))
def F_l_places : FF := runF 6 2 b_l_places
def c_law_0 : SF :=
  (sAsg (.nm 1) (eCall F_l_pen (aCons (eVar 0) aNil)))
def c_law_1 : SF :=
  (sAsg (.nm 2) (eCall F_l_tempo (aCons (eVar 1) (aCons (eC (.int 3)) aNil))))
def c_law_2 : SF :=
  (sAsg (.nm 3) (eCall F_l_near (aCons (eVar 1) (aCons (eVar 2) aNil))))
def c_law_3_0_0 : SF :=
  (sAsg (.nm 6) (eCall F_moment_of (aCons (eVar 4) (aCons (eVar 5) aNil))))
def c_law_3_0_1 : SF :=
  (sIf (bOr (bNot (tTru (eCall F_l_same (aCons (eVar 6) (aCons (eCall F_l_moment (aCons (eVar 4) (aCons (eVar 5) aNil))) aNil))))) (bNot (tTru (eCall F_l_same (aCons (eCall F_place_of (aCons (eVar 4) (aCons (eVar 6) aNil))) (aCons (eVar 5) aNil))))))
    (sRet (eC (.bl false)))
    sNil)
def c_law_3_0 : SF :=
  (sFor (iLst (eCall F_l_places (aCons (eVar 1) (aCons (eVar 4) aNil)))) (.nm 5)
    (sSeq c_law_3_0_0
    c_law_3_0_1))
def c_law_3 : SF :=
  (sFor (jTup (eTup (aCons (eVar 2) (aCons (eVar 3) (aCons (eVar 2) aNil))))) (.nm 4)
    c_law_3_0)
def c_law_4 : SF :=
  (sAsg (.nm 7) (eLst (aCons (eTup (aCons (eC (.int 0)) (aCons (eC (.int 1)) aNil))) (aCons (eCall F_l_low (aCons (eOp oAdd (eC (.int 1)) (eCall F_l_draw (aCons (eVar 1) (aCons (eC (.int 30)) aNil)))) (aCons (eOp oAdd (eC (.int 1)) (eCall F_l_draw (aCons (eVar 1) (aCons (eC (.int 7)) aNil)))) aNil))) (aCons (eCall F_l_low (aCons (eCall F_l_draw (aCons (eVar 1) (aCons (eOp oPow (eC (.int 10)) (eC (.int 6))) aNil))) (aCons (eC (.int 7)) aNil))) aNil)))))
def c_law_5_0 : SF :=
  (sAsg (.nm 8) (eLc (jTup (eTup (aCons (eVar 2) (aCons (eVar 3) aNil)))) (.nm 4) cYes (eCall F_l_place (aCons (eVar 4) (aCons (eVar 6) aNil))) [4]))
def c_law_5_1 : SF :=
  (sIf (bNot (tTru (eCall F_l_same (aCons (eLc (jTup (eTup (aCons (eVar 2) (aCons (eVar 3) (aCons (eVar 2) aNil))))) (.nm 4) cYes (eCall F_place_of (aCons (eVar 4) (aCons (eVar 6) aNil))) [4]) (aCons (eOp oAdd (eVar 8) (eSl (eVar 8) pNo (pAt (eC (.int 1))))) aNil)))))
    (sRet (eC (.bl false)))
    sNil)
def c_law_5 : SF :=
  (sFor (iLst (eVar 7)) (.nm 6)
    (sSeq c_law_5_0
    c_law_5_1))
def c_law_6 : SF :=
  (sRet (eAnd (eCall F_l_far_right (aCons (eVar 1) aNil)) (eCall F_l_fine_right (aCons (eVar 1) aNil))))
def b_law : SF :=
  (sSeq c_law_0
    (sSeq c_law_1
    (sSeq c_law_2
    (sSeq c_law_3
    (sSeq c_law_4
    (sSeq c_law_5
    c_law_6))))))
def F_law : FF := runF 9 1 b_law
end Lk10
set_option Elab.async false
set_option linter.all false
set_option maxRecDepth 100000
/-! tempos: stretches -/
namespace Fx
open PySem L2 DL
/-- a stretch: how many steps, the first's length, the last's -/
structure St where
  m : Int
  f : Rat
  l : Rat
def sd (s : St) : D := .tup [.int s.m, fq s.f, fq s.l]
/-- a right stretch -/
structure Sok (s : St) : Prop where
  m1 : 1 ≤ s.m
  m2 : s.m ≤ 200000
  f0 : 0 < s.f
  l0 : 0 < s.l
  bf : Bq 40 s.f
  bl : Bq 40 s.l
def rise (s : St) : Rat := (s.l - s.f) / (s.m : Rat)
def len (s : St) (k : Int) : Rat := s.f + rise s * ((2 * (k : Rat) + 1) / 2)
def tot (s : St) (k : Int) : Rat := s.f * (k : Rat) + rise s * ((k : Rat) * (k : Rat) / 2)
def mw (s : St) (p : Rat) : Rat := tot s p.floor + (p - (p.floor : Rat)) * len s p.floor
theorem divInt_div (c d : Int) : Rat.divInt c d = (c : Rat) / (d : Rat) := by
  rw [Rat.divInt_eq_div]
theorem fq_int (i : Int) : fq (i : Rat) = .tup [.int i, .int 1] := rfl
theorem Bq_cast {i : Int} {n : Nat} (h : i.natAbs < 2 ^ n) (hn : 1 ≤ n) : Bq n (i : Rat) := Bq_int h hn
theorem timesR {p : Rat} {c d : Int} {n m : Nat} (hp : Bq n p) (hc : c.natAbs < 2 ^ m) (hd : d.natAbs < 2 ^ m) (h0 : d ≠ 0) (h : n + m + 1 ≤ 13000) (S : Sto) : F_times [fq p, .tup [.int c, .int d]] S = .ok (fq (p * ((c : Rat) / (d : Rat)))) S := by
  have g1 : mulOk p.num c = true := mulOk_of hp.1 hc (by omega)
  have g2 : mulOk (p.den : Int) d = true := mulOk_of (by rw [den_abs]; exact hp.2) hd (by omega)
  have h1 : (p.num * c).natAbs < 2 ^ (n + m) := mul_lt hp.1 hc
  have h2 : ((p.den : Int) * d).natAbs < 2 ^ (n + m) := mul_lt (by rw [den_abs]; exact hp.2) hd
  have e := lowest_ok S (Int.mul_ne_zero (den_ne p) h0) (pow_mono h1 (by omega)) (pow_mono h2 (by omega))
  rw [← Rat.divInt_mul_divInt, Rat.divInt_ofNat, Rat.mkRat_self, divInt_div] at e
  unfold F_times b_times
  refine run_rt ?_
  simp only [fq] at e ⊢
  simp [c_times_0, oMul_int, g1, g2, e]
theorem Bq_frac {c d : Int} {m : Nat} (hc : c.natAbs < 2 ^ m) (hd : d.natAbs < 2 ^ m) (h0 : d ≠ 0) : Bq m ((c : Rat) / (d : Rat)) := by
  rw [← divInt_div]; exact Bq_divInt h0 hc hd
section
variable {s : St} {k : Int} {S : Sto}
theorem Sok.m0 (h : Sok s) : (s.m : Rat) ≠ 0 := by
  have := h.m1
  intro e
  have : s.m = 0 := by exact_mod_cast e
  omega
theorem Sok.bm (h : Sok s) : Bq 18 (s.m : Rat) := Bq_cast (by have := h.m1; have := h.m2; omega) (by decide)
theorem Bq_rise (h : Sok s) : Bq 99 (rise s) := Bq_div (Bq_sub h.bl h.bf) h.bm h.m0
theorem rise_ok (h : Sok s) (S : Sto) : F_rise_of [sd s] S = .ok (fq (rise s)) S := by
  have e1 := fun S => minus_ok h.bl h.bf (by decide) S
  have e2 := fun S => over_ok (Bq_sub h.bl h.bf) h.bm (by decide) h.m0 S
  rw [fq_int] at e2
  unfold F_rise_of b_rise_of
  refine run_rt ?_
  rw [seq_nx (ρ' := [some (sd s), some (.int s.m), some (fq s.f), some (fq s.l)]) (S' := S) (by simp [c_rise_of_0, sd])]
  simp [c_rise_of_1, e1, e2, rise]
theorem Bq_half (hk : (2 * k + 1).natAbs < 2 ^ 20) : Bq 20 (((2 * k + 1 : Int) : Rat) / ((2 : Int) : Rat)) := Bq_frac hk (by decide) (by decide)
theorem half_eq (k : Int) : (((2 * k + 1 : Int) : Rat) / ((2 : Int) : Rat)) = (2 * (k : Rat) + 1) / 2 := by grind
theorem sq_eq (k : Int) : (((k * k : Int) : Rat) / ((2 : Int) : Rat)) = (k : Rat) * (k : Rat) / 2 := by grind
theorem Bq_len (h : Sok s) (hk : k.natAbs < 2 ^ 18) : Bq 160 (len s k) := by
  have b := Bq_half (k := k) (by omega)
  rw [half_eq] at b
  exact Bq_add h.bf (Bq_mul (Bq_rise h) b)
theorem len_ok (h : Sok s) (hk : k.natAbs < 2 ^ 18) (S : Sto) : F_length_within [sd s, .int k] S = .ok (fq (len s k)) S := by
  have e0 := fun S => rise_ok h S
  have g : mulOk 2 k = true := mulOk_of (a := 20) (b := 20) (by decide) (by omega) (by decide)
  have e1 := fun S => timesR (Bq_rise h) (c := 2 * k + 1) (d := 2) (m := 20) (by omega) (by decide) (by decide) (by decide) S
  have b := Bq_half (k := k) (by omega)
  rw [half_eq] at b e1
  have e2 := fun S => plus_ok h.bf (Bq_mul (Bq_rise h) b) (by decide) S
  unfold F_length_within b_length_within
  refine run_rt ?_
  rw [seq_nx (ρ' := [some (sd s), some (.int k), some (fq (rise s * ((2 * (k : Rat) + 1) / 2)))]) (S' := S) (by simp [c_length_within_0, e0, oMul_int _ g, e1])]
  have ix : ∀ S, oIx (sd s) (.int 1) S = .ok (fq s.f) S := fun S => rfl
  simp [c_length_within_1, ix, e2, len]
theorem Bq_sq (hk : k.natAbs < 2 ^ 18) : Bq 40 ((k : Rat) * (k : Rat) / 2) := by
  rw [← sq_eq]
  exact Bq_frac (pow_mono (mul_lt hk hk) (by decide)) (by decide) (by decide)
theorem Bq_tot (h : Sok s) (hk : k.natAbs < 2 ^ 18) : Bq 200 (tot s k) := by
  have b1 : Bq 18 (k : Rat) := Bq_cast hk (by decide)
  exact (Bq_add (Bq_mul h.bf b1) (Bq_mul (Bq_rise h) (Bq_sq hk))).mono (by decide)
theorem tot_ok (h : Sok s) (hk : k.natAbs < 2 ^ 18) (S : Sto) : F_length_of_steps [sd s, .int k] S = .ok (fq (tot s k)) S := by
  have b1 : Bq 18 (k : Rat) := Bq_cast hk (by decide)
  have e0 := fun S => rise_ok h S
  have g : mulOk k k = true := mulOk_of hk hk (by decide)
  have e1 := fun S => timesR (Bq_rise h) (c := k * k) (d := 2) (m := 40) (pow_mono (mul_lt hk hk) (by decide)) (by decide) (by decide) (by decide) S
  rw [sq_eq] at e1
  have e2 := fun S => times_ok h.bf b1 (by decide) S
  rw [fq_int] at e2
  have e3 := fun S => plus_ok (Bq_mul h.bf b1) (Bq_mul (Bq_rise h) (Bq_sq hk)) (by decide) S
  unfold F_length_of_steps b_length_of_steps
  refine run_rt ?_
  rw [seq_nx (ρ' := [some (sd s), some (.int k), some (fq (rise s * ((k : Rat) * (k : Rat) / 2)))]) (S' := S) (by simp [c_length_of_steps_0, e0, oMul_int _ g, e1])]
  have ix : ∀ S, oIx (sd s) (.int 1) S = .ok (fq s.f) S := fun S => rfl
  simp [c_length_of_steps_1, ix, e2, e3, tot]
theorem Bq_mw {p : Rat} {n : Nat} (h : Sok s) (hp : Bq n p) (hk : p.floor.natAbs < 2 ^ 18) : Bq (n + 400) (mw s p) := by
  have b1 : Bq 18 (p.floor : Rat) := Bq_cast hk (by decide)
  exact (Bq_add (Bq_tot h hk) (Bq_mul (Bq_sub hp b1) (Bq_len h hk))).mono (by omega)
theorem mw_ok {p : Rat} {n : Nat} (h : Sok s) (hp : Bq n p) (hn : n + 400 ≤ 13000) (hk : p.floor.natAbs < 2 ^ 18) (S : Sto) : F_moment_within [sd s, fq p] S = .ok (fq (mw s p)) S := by
  have b1 : Bq 18 (p.floor : Rat) := Bq_cast hk (by decide)
  have e1 := fun S => floor_of_ok hp (by omega) S
  have e2 := fun S => minus_ok hp b1 (by omega) S
  rw [fq_int] at e2
  have e3 := fun S => tot_ok h hk S
  have e4 := fun S => len_ok h hk S
  have e5 := fun S => times_ok (Bq_sub hp b1) (Bq_len h hk) (by omega) S
  have e6 := fun S => plus_ok (Bq_tot h hk) (Bq_mul (Bq_sub hp b1) (Bq_len h hk)) (by omega) S
  unfold F_moment_within b_moment_within
  refine run_rt ?_
  rw [seq_nx (ρ' := [some (sd s), some (fq p), some (.int p.floor), none]) (S' := S) (by simp [c_moment_within_0, e1])]
  rw [seq_nx (ρ' := [some (sd s), some (fq p), some (.int p.floor), some (fq (p - (p.floor : Rat)))]) (S' := S) (by simp [c_moment_within_1, e2])]
  simp [c_moment_within_2, e3, e4, e5, e6, mw]
end
end Fx
set_option Elab.async false
set_option linter.all false
set_option maxRecDepth 100000
/-! tempos: how moments rise -/
namespace Fx
open PySem L2 DL
section
variable {s : St} {k : Int} {p q x r : Rat}
theorem clt {a b : Int} : ((a : Rat) < (b : Rat)) = (a < b) := propext Rat.intCast_lt_intCast
theorem cle {a b : Int} : ((a : Rat) ≤ (b : Rat)) = (a ≤ b) := propext Rat.intCast_le_intCast
theorem tot_succ (s : St) (k : Int) : tot s (k + 1) = tot s k + len s k := by
  unfold tot len
  grind
theorem tot_zero (s : St) : tot s 0 = 0 := by
  unfold tot
  grind
theorem rise_m (h : Sok s) : rise s * (s.m : Rat) = s.l - s.f := by
  have := h.m0
  unfold rise
  grind
theorem pos_of_mul {a b : Rat} (ha : 0 < a) (h : 0 < a * b) : 0 < b := by
  refine Rat.not_le.mp fun hb => ?_
  have : 0 ≤ a * (-b) := Rat.mul_nonneg (by grind) (by grind)
  grind
theorem len_pos (h : Sok s) (h0 : 0 ≤ k) (hk : k < s.m) : 0 < len s k := by
  have hm := rise_m h
  have h1 := h.f0
  have h2 := h.l0
  have c1 : (0 : Rat) < 2 * (s.m : Rat) - 2 * (k : Rat) - 1 := by
    have : ((2 * k + 1 : Int) : Rat) < ((2 * s.m : Int) : Rat) := by rw [clt]; omega
    grind
  have c2 : (0 : Rat) < 2 * (k : Rat) + 1 := by
    have : ((0 : Int) : Rat) < ((2 * k + 1 : Int) : Rat) := by rw [clt]; omega
    grind
  have c3 : (0 : Rat) < 2 * (s.m : Rat) := by grind
  have e1 := Rat.mul_pos h1 c1
  have e2 := Rat.mul_pos h2 c2
  refine pos_of_mul c3 ?_
  have e : 2 * (s.m : Rat) * len s k = s.f * (2 * (s.m : Rat) - 2 * (k : Rat) - 1) + s.l * (2 * (k : Rat) + 1) := by
    unfold len
    grind
  rw [e]
  grind
theorem tot_mono (h : Sok s) {a : Int} (ha : 0 ≤ a) : ∀ (n : Nat), a + n ≤ s.m → tot s a ≤ tot s (a + n)
  | 0, _ => by
    have : a + ((0 : Nat) : Int) = a := by omega
    rw [this]; grind
  | n + 1, hn => by
    have ih := tot_mono h ha n (by omega)
    have e : a + ((n + 1 : Nat) : Int) = (a + n) + 1 := by omega
    have lp := len_pos h (k := a + n) (by omega) (by omega)
    rw [e, tot_succ]
    grind
theorem tot_le (h : Sok s) {a b : Int} (ha : 0 ≤ a) (hab : a ≤ b) (hb : b ≤ s.m) : tot s a ≤ tot s b := by
  have := tot_mono h ha (b - a).toNat (by omega)
  rw [show a + ((b - a).toNat : Int) = b by omega] at this
  exact this
theorem tot_nonneg (h : Sok s) {a : Int} (ha : 0 ≤ a) (hb : a ≤ s.m) : 0 ≤ tot s a := by
  have := tot_le h (a := 0) (by omega) ha hb
  rw [tot_zero] at this
  exact this
theorem fl_nonneg (h : 0 ≤ p) : 0 ≤ p.floor := by
  have := Rat.lt_floor_add_one p
  have h2 : ((0 : Int) : Rat) < ((p.floor + 1 : Int) : Rat) := by
    have : ((0 : Int) : Rat) = 0 := rfl
    grind
  rw [clt] at h2
  omega
theorem fl_lt {m : Int} (h : p < (m : Rat)) : p.floor < m := by
  have := Rat.floor_le p
  rw [← clt]
  grind
theorem fl_eq (h1 : (k : Rat) ≤ p) (h2 : p < (k : Rat) + 1) : p.floor = k := by
  have f1 := Rat.floor_le p
  have f2 := Rat.lt_floor_add_one p
  have a1 : (p.floor : Rat) < ((k + 1 : Int) : Rat) := by grind
  have a2 : (k : Rat) < ((p.floor + 1 : Int) : Rat) := by grind
  rw [clt] at a1 a2
  omega
theorem mw_low (h : Sok s) (h0 : 0 ≤ p) (hm : p < (s.m : Rat)) : tot s p.floor ≤ mw s p ∧ mw s p < tot s (p.floor + 1) := by
  have f1 := Rat.floor_le p
  have f2 := Rat.lt_floor_add_one p
  have lp := len_pos h (k := p.floor) (fl_nonneg h0) (fl_lt hm)
  have f3 : p < (p.floor : Rat) + 1 := by grind
  have m1 : 0 ≤ (p - (p.floor : Rat)) * len s p.floor := Rat.mul_nonneg (by grind) (by grind)
  have m2 : 0 < (1 - (p - (p.floor : Rat))) * len s p.floor := Rat.mul_pos (by grind) lp
  rw [tot_succ]
  unfold mw
  constructor <;> grind
theorem mw_nonneg (h : Sok s) (h0 : 0 ≤ p) (hm : p < (s.m : Rat)) : 0 ≤ mw s p := by
  have := (mw_low h h0 hm).1
  have t := tot_nonneg h (a := p.floor) (fl_nonneg h0) (by have := fl_lt hm; omega)
  grind
theorem mw_lt (h : Sok s) (h0 : 0 ≤ p) (hm : p < (s.m : Rat)) : mw s p < tot s s.m := by
  have := (mw_low h h0 hm).2
  have t := tot_le h (a := p.floor + 1) (b := s.m) (by have := fl_nonneg h0; omega) (by have := fl_lt hm; omega) (by omega)
  grind
theorem mw_mono (h : Sok s) (h0 : 0 ≤ p) (hpq : p < q) (hm : q < (s.m : Rat)) : mw s p < mw s q := by
  have a1 := Rat.floor_le p
  have a2 := Rat.lt_floor_add_one p
  have b1 := Rat.floor_le q
  have b2 := Rat.lt_floor_add_one q
  have hle : p.floor ≤ q.floor := by
    have : (p.floor : Rat) < ((q.floor + 1 : Int) : Rat) := by grind
    rw [clt] at this
    omega
  by_cases he : p.floor = q.floor
  · have lp := len_pos h (k := q.floor) (fl_nonneg (p := q) (by grind)) (fl_lt hm)
    have m1 : 0 < (q - p) * len s q.floor := Rat.mul_pos (by grind) lp
    unfold mw
    rw [he]
    grind
  · have c1 := (mw_low h h0 (by grind)).2
    have c2 := (mw_low h (p := q) (by grind) hm).1
    have c3 := tot_le h (a := p.floor + 1) (b := q.floor) (by have := fl_nonneg h0; omega) (by omega) (by have := fl_lt hm; omega)
    grind
/-- the way back within a stretch -/
theorem mw_back (h : Sok s) (h0 : 0 ≤ k) (hk : k < s.m) (h1 : tot s k ≤ x) (h2 : x < tot s (k + 1)) :
    0 ≤ (k : Rat) + (x - tot s k) / len s k ∧ (k : Rat) + (x - tot s k) / len s k < (s.m : Rat) ∧ mw s ((k : Rat) + (x - tot s k) / len s k) = x := by
  have lp := len_pos h h0 hk
  rw [tot_succ] at h2
  have hd : (x - tot s k) / len s k * len s k = x - tot s k := by grind
  have d1 : 0 ≤ (x - tot s k) / len s k := by
    refine Rat.not_lt.mp fun hn => ?_
    have := Rat.mul_pos (a := -((x - tot s k) / len s k)) (by grind) lp
    grind
  have d2 : (x - tot s k) / len s k < 1 := by
    refine Rat.not_le.mp fun hn => ?_
    have := Rat.mul_nonneg (a := (x - tot s k) / len s k - 1) (b := len s k) (by grind) (by grind)
    grind
  have hk0 : (0 : Rat) ≤ (k : Rat) := by
    have : ((0 : Int) : Rat) ≤ (k : Rat) := by rw [cle]; exact h0
    exact this
  have hkm : ((k + 1 : Int) : Rat) ≤ (s.m : Rat) := by rw [cle]; omega
  have hf : ((k : Rat) + (x - tot s k) / len s k).floor = k := fl_eq (by grind) (by grind)
  refine ⟨by grind, by grind, ?_⟩
  unfold mw
  rw [hf]
  grind
/-- the moment of a place, by stretches and the rest -/
def mo : List St → Rat → Rat → Rat
  | [], r, p => p * r
  | s :: ss, r, p => if p < (s.m : Rat) then mw s p else tot s s.m + mo ss r (p - (s.m : Rat))
theorem mo_nonneg : ∀ {ss : List St} {p : Rat}, (∀ s ∈ ss, Sok s) → 0 < r → 0 ≤ p → 0 ≤ mo ss r p
  | [], p, _, hr, hp => Rat.mul_nonneg hp (by grind)
  | s :: ss, p, h, hr, hp => by
    have hs := h s (by simp)
    unfold mo
    split
    · rename_i hm
      exact mw_nonneg hs hp hm
    · rename_i hm
      have ih := mo_nonneg (ss := ss) (p := p - (s.m : Rat)) (fun s hs => h s (by simp [hs])) hr (by grind)
      have t := tot_nonneg hs (a := s.m) (by have := hs.m1; omega) (by omega)
      grind
theorem mo_mono : ∀ {ss : List St} {p q : Rat}, (∀ s ∈ ss, Sok s) → 0 < r → 0 ≤ p → p < q → mo ss r p < mo ss r q
  | [], p, q, _, hr, hp, hq => by
    show p * r < q * r
    exact (Rat.mul_lt_mul_right hr).mpr hq
  | s :: ss, p, q, h, hr, hp, hq => by
    have hs := h s (by simp)
    have h' : ∀ s ∈ ss, Sok s := fun s hs => h s (by simp [hs])
    unfold mo
    by_cases hqm : q < (s.m : Rat)
    · have hpm : p < (s.m : Rat) := by grind
      rw [if_pos hqm, if_pos hpm]
      exact mw_mono hs hp hq hqm
    · rw [if_neg hqm]
      by_cases hpm : p < (s.m : Rat)
      · rw [if_pos hpm]
        have a := mw_lt hs hp hpm
        have b := mo_nonneg (ss := ss) (p := q - (s.m : Rat)) h' hr (by grind)
        grind
      · rw [if_neg hpm]
        have ih := mo_mono (ss := ss) (p := p - (s.m : Rat)) (q := q - (s.m : Rat)) h' hr (by grind) (by grind)
        grind
theorem mo_inj {ss : List St} (h : ∀ s ∈ ss, Sok s) (hr : 0 < r) (hp : 0 ≤ p) (hq : 0 ≤ q) (e : mo ss r p = mo ss r q) : p = q := by
  by_cases h1 : p < q
  · have := mo_mono h hr hp h1
    grind
  · by_cases h2 : q < p
    · have := mo_mono h hr hq h2
      grind
    · grind
theorem mo_lt {ss : List St} (h : ∀ s ∈ ss, Sok s) (hr : 0 < r) (hp : 0 ≤ p) (hq : 0 ≤ q) : (mo ss r p < mo ss r q) = (p < q) := by
  refine propext ⟨fun e => ?_, mo_mono h hr hp⟩
  refine Rat.not_le.mp fun hn => ?_
  by_cases h1 : q < p
  · have := mo_mono h hr hq h1
    grind
  · have : p = q := by grind
    rw [this] at e
    grind
/-- how long a step lasts -/
def le : List St → Rat → Int → Rat
  | [], r, _ => r
  | s :: ss, r, k => if k < s.m then len s k else le ss r (k - s.m)
theorem fl_cast (k : Int) : (k : Rat).floor = k := fl_eq (by grind) (by grind)
theorem mw_cast (s : St) (k : Int) : mw s (k : Rat) = tot s k := by
  unfold mw
  rw [fl_cast]
  grind
theorem mo_zero : ∀ {ss : List St}, (∀ s ∈ ss, Sok s) → mo ss r 0 = 0
  | [], _ => by
    show 0 * r = 0
    grind
  | s :: ss, h => by
    have hs := h s (by simp)
    have : (0 : Rat) < (s.m : Rat) := by
      have : ((0 : Int) : Rat) < (s.m : Rat) := by rw [clt]; have := hs.m1; omega
      exact this
    unfold mo
    rw [if_pos this]
    have := mw_cast s 0
    rw [tot_zero] at this
    exact this
theorem mo_step : ∀ {ss : List St} {k : Int}, (∀ s ∈ ss, Sok s) → 0 ≤ k → mo ss r ((k + 1 : Int) : Rat) = mo ss r (k : Rat) + le ss r k
  | [], k, _, _ => by
    show ((k + 1 : Int) : Rat) * r = (k : Rat) * r + r
    grind
  | s :: ss, k, h, h0 => by
    have hs := h s (by simp)
    have h' : ∀ s ∈ ss, Sok s := fun s hs => h s (by simp [hs])
    unfold mo le
    by_cases hk : k < s.m
    · have i1 : (k : Rat) < (s.m : Rat) := by rw [clt]; exact hk
      rw [if_pos hk, if_pos i1, mw_cast s k]
      by_cases hk1 : k + 1 < s.m
      · have i2 : ((k + 1 : Int) : Rat) < (s.m : Rat) := by rw [clt]; exact hk1
        rw [if_pos i2, mw_cast s (k + 1), tot_succ]
      · have e : s.m = k + 1 := by omega
        have i2 : ¬ ((k + 1 : Int) : Rat) < (s.m : Rat) := by rw [clt]; exact hk1
        have z : ((k + 1 : Int) : Rat) - (s.m : Rat) = 0 := by rw [e]; grind
        rw [if_neg i2, z, mo_zero h', e, tot_succ]
        grind
    · have i1 : ¬ (k : Rat) < (s.m : Rat) := by rw [clt]; exact hk
      have i2 : ¬ ((k + 1 : Int) : Rat) < (s.m : Rat) := by rw [clt]; omega
      rw [if_neg hk, if_neg i1, if_neg i2]
      have ih := mo_step (ss := ss) (k := k - s.m) h' (by omega)
      have e1 : ((k + 1 : Int) : Rat) - (s.m : Rat) = ((k - s.m + 1 : Int) : Rat) := by grind
      have e2 : (k : Rat) - (s.m : Rat) = ((k - s.m : Int) : Rat) := by grind
      rw [e1, e2, ih]
      grind
theorem mo_half : ∀ {ss : List St} {k : Int}, (∀ s ∈ ss, Sok s) → 0 ≤ k → mo ss r ((k : Rat) + 1 / 2) = mo ss r (k : Rat) + le ss r k * (1 / 2)
  | [], k, _, _ => by
    show ((k : Rat) + 1 / 2) * r = (k : Rat) * r + r * (1 / 2)
    grind
  | s :: ss, k, h, h0 => by
    have hs := h s (by simp)
    have h' : ∀ s ∈ ss, Sok s := fun s hs => h s (by simp [hs])
    unfold mo le
    by_cases hk : k < s.m
    · have hk2 : ((k + 1 : Int) : Rat) ≤ (s.m : Rat) := by rw [cle]; omega
      have i1 : (k : Rat) < (s.m : Rat) := by rw [clt]; exact hk
      have i2 : (k : Rat) + 1 / 2 < (s.m : Rat) := by grind
      rw [if_pos hk, if_pos i1, mw_cast s k, if_pos i2]
      have hf : ((k : Rat) + 1 / 2).floor = k := fl_eq (by grind) (by grind)
      unfold mw
      rw [hf]
      grind
    · have hk2 : (s.m : Rat) ≤ (k : Rat) := by rw [cle]; omega
      have i1 : ¬ (k : Rat) < (s.m : Rat) := by rw [clt]; exact hk
      have i2 : ¬ (k : Rat) + 1 / 2 < (s.m : Rat) := by grind
      rw [if_neg hk, if_neg i1, if_neg i2]
      have ih := mo_half (ss := ss) (k := k - s.m) h' (by omega)
      have e1 : (k : Rat) + 1 / 2 - (s.m : Rat) = ((k - s.m : Int) : Rat) + 1 / 2 := by grind
      have e2 : (k : Rat) - (s.m : Rat) = ((k - s.m : Int) : Rat) := by grind
      rw [e1, e2, ih]
      grind
end
end Fx
set_option Elab.async false
set_option linter.all false
set_option maxRecDepth 100000
/-! tempos: the step at a moment -/
namespace Fx
open PySem L2 DL
section
variable {s : St} {k : Int} {p q x r : Rat} {S : Sto}
theorem num_den (q : Rat) : q * ((q.den : Int) : Rat) = (q.num : Rat) := by
  have h : (q.num : Rat) / ((q.den : Int) : Rat) = q := by rw [← divInt_div, Rat.divInt_ofNat, Rat.mkRat_self]
  have h0 : ((q.den : Int) : Rat) ≠ 0 := fun e => den_ne q (by exact_mod_cast e)
  grind
theorem den_pos (q : Rat) : (0 : Rat) < ((q.den : Int) : Rat) := by
  have : ((0 : Int) : Rat) < ((q.den : Int) : Rat) := by rw [clt]; have := den_ne q; omega
  exact this
theorem le_fl {i : Int} : (i ≤ p.floor) = ((i : Rat) ≤ p) := by
  refine propext ⟨fun h => ?_, fun h => ?_⟩
  · have := Rat.floor_le p
    have h2 : (i : Rat) ≤ (p.floor : Rat) := by rw [cle]; exact h
    grind
  · have := Rat.lt_floor_add_one p
    have h2 : (i : Rat) < ((p.floor + 1 : Int) : Rat) := by grind
    rw [clt] at h2
    omega
/-- how the search compares -/
theorem step_cmp (h : Sok s) (j : Int) : (j * (2 * s.m * s.f.num * (s.l.den : Int)) + j * j * (s.l.num * (s.f.den : Int) - s.f.num * (s.l.den : Int)) ≤ (x * (((2 * s.m * (s.f.den : Int) * (s.l.den : Int) : Int) : Rat) / ((1 : Int) : Rat))).floor) = (tot s j ≤ x) := by
  rw [le_fl]
  have f1 := num_den s.f
  have l1 := num_den s.l
  have f2 := den_pos s.f
  have l2 := den_pos s.l
  have rm := rise_m h
  have mp : (0 : Rat) < (s.m : Rat) := by
    have : ((0 : Int) : Rat) < (s.m : Rat) := by rw [clt]; have := h.m1; omega
    exact this
  have dp : (0 : Rat) < 2 * (s.m : Rat) * (((s.f.den : Int) : Rat) * ((s.l.den : Int) : Rat)) := Rat.mul_pos (by grind) (Rat.mul_pos f2 l2)
  have e : ((j * (2 * s.m * s.f.num * (s.l.den : Int)) + j * j * (s.l.num * (s.f.den : Int) - s.f.num * (s.l.den : Int)) : Int) : Rat) = tot s j * (2 * (s.m : Rat) * (((s.f.den : Int) : Rat) * ((s.l.den : Int) : Rat))) := by
    simp only [Rat.intCast_add, Rat.intCast_mul, Rat.intCast_sub]
    rw [← f1, ← l1]
    unfold tot
    grind
  have e2 : x * (((2 * s.m * (s.f.den : Int) * (s.l.den : Int) : Int) : Rat) / ((1 : Int) : Rat)) = x * (2 * (s.m : Rat) * (((s.f.den : Int) : Rat) * ((s.l.den : Int) : Rat))) := by
    simp only [Rat.intCast_mul]
    grind
  rw [e, e2]
  refine propext ⟨fun hh => ?_, fun hh => ?_⟩
  · refine Rat.not_lt.mp fun hn => ?_
    have := (Rat.mul_lt_mul_right dp).mpr hn
    grind
  · refine Rat.not_lt.mp fun hn => ?_
    have := (Rat.mul_lt_mul_right dp).mp hn
    grind
/-- the halving -/
theorem search (h : Sok s) {A B L : Int} (hA : A.natAbs < 2 ^ 200) (hB : B.natAbs < 2 ^ 200) (hc : ∀ j : Int, (j * A + j * j * B ≤ L) = (tot s j ≤ x)) {o0 o1 o2 o3 o4 o5 o6 : Option D} :
    ∀ (n : Nat) (lo hi : Int) (o : Option D), 0 ≤ lo → lo ≤ hi → hi < s.m → hi - lo < 2 ^ n → tot s lo ≤ x → x < tot s (hi + 1) → ∀ fuel, n ≤ fuel →
    ∃ k o', whGo (tTru (eOp oLt (eVar 10) (eVar 11))) (sSeq c_step_at_6_0 c_step_at_6_1) fuel [o0, o1, o2, o3, o4, o5, o6, some (.int A), some (.int B), some (.int L), some (.int lo), some (.int hi), o] S = .nx [o0, o1, o2, o3, o4, o5, o6, some (.int A), some (.int B), some (.int L), some (.int k), some (.int k), o'] S ∧ 0 ≤ k ∧ k < s.m ∧ tot s k ≤ x ∧ x < tot s (k + 1)
  | n, lo, hi, o, h0, h1, h2, h3, h4, h5, fuel, hf => by
    by_cases he : lo = hi
    · subst he
      refine ⟨lo, o, ?_, h0, h2, h4, h5⟩
      unfold whGo
      simp
    · have hlt : lo < hi := by omega
      match n, fuel, hf, h3 with
      | 0, _, _, h3 => omega
      | n + 1, fuel + 1, hf, h3 =>
        have hp : (2 : Int) ^ (n + 1) = 2 ^ n * 2 := Int.pow_succ ..
        rw [hp] at h3
        obtain ⟨md, hmd⟩ : ∃ md : Int, md = (lo + hi + 1) / 2 := ⟨_, rfl⟩
        have g : ∀ y : Int, divOk y 2 = true := fun y => divOk_of (b := 10) (by decide) (by decide) (by decide)
        have g1 : mulOk md A = true := mulOk_of (a := 20) (b := 200) (by have := h.m2; omega) hA (by decide)
        have g2 : mulOk md md = true := mulOk_of (a := 20) (b := 20) (by have := h.m2; omega) (by have := h.m2; omega) (by decide)
        have g3 : mulOk (md * md) B = true := mulOk_of (a := 40) (b := 200) (mul_lt (a := 20) (b := 20) (by have := h.m2; omega) (by have := h.m2; omega)) hB (by decide)
        have e0 : c_step_at_6_0 [o0, o1, o2, o3, o4, o5, o6, some (.int A), some (.int B), some (.int L), some (.int lo), some (.int hi), o] S = .nx [o0, o1, o2, o3, o4, o5, o6, some (.int A), some (.int B), some (.int L), some (.int lo), some (.int hi), some (.int md)] S := by
          simp [c_step_at_6_0, oDiv_int _ (g _), Int.fdiv_eq_ediv_of_nonneg, hmd]
        by_cases hc2 : tot s md ≤ x
        · have e1 : c_step_at_6_1 [o0, o1, o2, o3, o4, o5, o6, some (.int A), some (.int B), some (.int L), some (.int lo), some (.int hi), some (.int md)] S = .nx [o0, o1, o2, o3, o4, o5, o6, some (.int A), some (.int B), some (.int L), some (.int md), some (.int hi), some (.int md)] S := by
            have := (hc md).mpr hc2
            simp [c_step_at_6_1, oMul_int, g1, g2, g3, this]
          obtain ⟨k, o', e2, r1⟩ := search h hA hB hc (o0 := o0) (o1 := o1) (o2 := o2) (o3 := o3) (o4 := o4) (o5 := o5) (o6 := o6) n md hi (some (.int md)) (by omega) (by omega) h2 (by omega) hc2 h5 fuel (by omega)
          refine ⟨k, o', ?_, r1⟩
          unfold whGo
          simp only [tTru_eq, eOp_eq, eVar_s, eVar_0, bind_ok, oLt_int, decide_eq_true hlt, truD_bl, sb_ok, if_true, seq_nx e0, e1, e2]
        · have e1 : c_step_at_6_1 [o0, o1, o2, o3, o4, o5, o6, some (.int A), some (.int B), some (.int L), some (.int lo), some (.int hi), some (.int md)] S = .nx [o0, o1, o2, o3, o4, o5, o6, some (.int A), some (.int B), some (.int L), some (.int lo), some (.int (md - 1)), some (.int md)] S := by
            have : ¬ (md * A + md * md * B ≤ L) := fun hh => hc2 ((hc md).mp hh)
            simp [c_step_at_6_1, oMul_int, g1, g2, g3, this]
          obtain ⟨k, o', e2, r1⟩ := search h hA hB hc (o0 := o0) (o1 := o1) (o2 := o2) (o3 := o3) (o4 := o4) (o5 := o5) (o6 := o6) n lo (md - 1) (some (.int md)) h0 (by omega) (by omega) (by omega) h4 (by rw [show md - 1 + 1 = md by omega]; exact Rat.not_le.mp hc2) fuel (by omega)
          refine ⟨k, o', ?_, r1⟩
          unfold whGo
          simp only [tTru_eq, eOp_eq, eVar_s, eVar_0, bind_ok, oLt_int, decide_eq_true hlt, truD_bl, sb_ok, if_true, seq_nx e0, e1, e2]
theorem step_at_ok {n : Nat} (h : Sok s) (hx : Bq n x) (hn : n + 300 ≤ 13000) (h0 : 0 ≤ x) (hm : x < tot s s.m) (S : Sto) :
    ∃ k : Int, F_step_at [sd s, fq x] S = .ok (.int k) S ∧ 0 ≤ k ∧ k < s.m ∧ tot s k ≤ x ∧ x < tot s (k + 1) := by
  have m1 := h.m1
  have m2 := h.m2
  have bm : (2 * s.m).natAbs < 2 ^ 20 := by omega
  have ft := h.bf.1
  have fd : (s.f.den : Int).natAbs < 2 ^ 40 := by rw [den_abs]; exact h.bf.2
  have lt := h.bl.1
  have ld : (s.l.den : Int).natAbs < 2 ^ 40 := by rw [den_abs]; exact h.bl.2
  have a0 : mulOk 2 s.m = true := mulOk_of (a := 20) (b := 20) (by decide) (by omega) (by decide)
  have a1 : mulOk (2 * s.m) s.f.num = true := mulOk_of bm ft (by decide)
  have a2 : mulOk (2 * s.m * s.f.num) (s.l.den : Int) = true := mulOk_of (mul_lt bm ft) ld (by decide)
  have a3 : mulOk s.l.num (s.f.den : Int) = true := mulOk_of lt fd (by decide)
  have a4 : mulOk s.f.num (s.l.den : Int) = true := mulOk_of ft ld (by decide)
  have a5 : mulOk (2 * s.m) (s.f.den : Int) = true := mulOk_of bm fd (by decide)
  have a6 : mulOk (2 * s.m * (s.f.den : Int)) (s.l.den : Int) = true := mulOk_of (mul_lt bm fd) ld (by decide)
  have hA : (2 * s.m * s.f.num * (s.l.den : Int)).natAbs < 2 ^ 200 := pow_mono (mul_lt (mul_lt bm ft) ld) (by decide)
  have hD : (2 * s.m * (s.f.den : Int) * (s.l.den : Int)).natAbs < 2 ^ 200 := pow_mono (mul_lt (mul_lt bm fd) ld) (by decide)
  have hB : (s.l.num * (s.f.den : Int) - s.f.num * (s.l.den : Int)).natAbs < 2 ^ 200 := pow_mono (sub_lt (mul_lt lt fd) (mul_lt ft ld)) (by decide)
  have t1 := fun S => timesR hx (c := 2 * s.m * (s.f.den : Int) * (s.l.den : Int)) (d := 1) (m := 200) hD (by decide) (by decide) (by omega) S
  have bt : Bq (n + 200) (x * (((2 * s.m * (s.f.den : Int) * (s.l.den : Int) : Int) : Rat) / ((1 : Int) : Rat))) := Bq_mul hx (Bq_frac hD (by decide) (by decide))
  have f1 := fun S => floor_of_ok bt (by omega) S
  have c := fun j => step_cmp (x := x) h j
  generalize x * (((2 * s.m * (s.f.den : Int) * (s.l.den : Int) : Int) : Rat) / ((1 : Int) : Rat)) = Y at t1 bt f1 c
  obtain ⟨k, o', e6, r⟩ := search (S := S) (o0 := some (sd s)) (o1 := some (fq x)) (o2 := some (.int s.m)) (o3 := some (.int s.f.num)) (o4 := some (.int s.f.den)) (o5 := some (.int s.l.num)) (o6 := some (.int s.l.den)) h hA hB c 18 0 (s.m - 1) none (by omega) (by omega) (by omega) (by omega) (by rw [tot_zero]; exact h0) (by rw [show s.m - 1 + 1 = s.m by omega]; exact hm) 1000 (by decide)
  have e7 : c_step_at_6 [some (sd s), some (fq x), some (.int s.m), some (.int s.f.num), some (.int s.f.den), some (.int s.l.num), some (.int s.l.den), some (.int (2 * s.m * s.f.num * (s.l.den : Int))), some (.int (s.l.num * (s.f.den : Int) - s.f.num * (s.l.den : Int))), some (.int Y.floor), some (.int 0), some (.int (s.m - 1)), none] S = _ := e6
  refine ⟨k, ?_, r⟩
  unfold F_step_at b_step_at
  refine run_rt ?_
  show sSeq _ _ [some (sd s), some (fq x), none, none, none, none, none, none, none, none, none, none, none] S = _
  rw [seq_nx (ρ' := [some (sd s), some (fq x), some (.int s.m), some (.int s.f.num), some (.int s.f.den), some (.int s.l.num), some (.int s.l.den), none, none, none, none, none, none]) (S' := S) (by simp [c_step_at_0, sd, fq])]
  rw [seq_nx (ρ' := [some (sd s), some (fq x), some (.int s.m), some (.int s.f.num), some (.int s.f.den), some (.int s.l.num), some (.int s.l.den), some (.int (2 * s.m * s.f.num * (s.l.den : Int))), none, none, none, none, none]) (S' := S) (by simp [c_step_at_1, oMul_int, a0, a1, a2])]
  rw [seq_nx (ρ' := [some (sd s), some (fq x), some (.int s.m), some (.int s.f.num), some (.int s.f.den), some (.int s.l.num), some (.int s.l.den), some (.int (2 * s.m * s.f.num * (s.l.den : Int))), some (.int (s.l.num * (s.f.den : Int) - s.f.num * (s.l.den : Int))), none, none, none, none]) (S' := S) (by simp [c_step_at_2, oMul_int, a3, a4])]
  rw [seq_nx (ρ' := [some (sd s), some (fq x), some (.int s.m), some (.int s.f.num), some (.int s.f.den), some (.int s.l.num), some (.int s.l.den), some (.int (2 * s.m * s.f.num * (s.l.den : Int))), some (.int (s.l.num * (s.f.den : Int) - s.f.num * (s.l.den : Int))), some (.int Y.floor), none, none, none]) (S' := S) (by simp [c_step_at_3, oMul_int, a0, a5, a6, t1, f1])]
  rw [seq_nx (ρ' := [some (sd s), some (fq x), some (.int s.m), some (.int s.f.num), some (.int s.f.den), some (.int s.l.num), some (.int s.l.den), some (.int (2 * s.m * s.f.num * (s.l.den : Int))), some (.int (s.l.num * (s.f.den : Int) - s.f.num * (s.l.den : Int))), some (.int Y.floor), some (.int 0), none, none]) (S' := S) (by simp [c_step_at_4])]
  rw [seq_nx (ρ' := [some (sd s), some (fq x), some (.int s.m), some (.int s.f.num), some (.int s.f.den), some (.int s.l.num), some (.int s.l.den), some (.int (2 * s.m * s.f.num * (s.l.den : Int))), some (.int (s.l.num * (s.f.den : Int) - s.f.num * (s.l.den : Int))), some (.int Y.floor), some (.int 0), some (.int (s.m - 1)), none]) (S' := S) (by simp [c_step_at_5])]
  rw [seq_nx e7]
  simp [c_step_at_7]
end
end Fx
set_option Elab.async false
set_option linter.all false
set_option maxRecDepth 100000
/-! tempos: places within a stretch; small askings -/
namespace Fx
open PySem L2 DL
section
variable {s : St} {k : Int} {p q x r : Rat} {S : Sto}
theorem place_within_ok {n : Nat} (h : Sok s) (hx : Bq n x) (hn : n + 600 ≤ 13000) (h0 : 0 ≤ x) (hm : x < tot s s.m) (S : Sto) :
    ∃ y : Rat, F_place_within [sd s, fq x] S = .ok (fq y) S ∧ 0 ≤ y ∧ y < (s.m : Rat) ∧ mw s y = x ∧ Bq (n + 400) y := by
  obtain ⟨k, e1, k0, km, t1, t2⟩ := step_at_ok h hx (by omega) h0 hm S
  have m2 := h.m2
  have hk : k.natAbs < 2 ^ 18 := by omega
  have lp := len_pos h k0 km
  have l0 : len s k ≠ 0 := by grind
  have bk : Bq 18 (k : Rat) := Bq_cast hk (by decide)
  have e2 := fun S => tot_ok h hk S
  have e3 := fun S => len_ok h hk S
  have e4 := fun S => minus_ok hx (Bq_tot h hk) (by omega) S
  have b5 := Bq_div (Bq_sub hx (Bq_tot h hk)) (Bq_len h hk) l0
  have e5 := fun S => over_ok (Bq_sub hx (Bq_tot h hk)) (Bq_len h hk) (by omega) l0 S
  have e6 := fun S => plus_ok bk b5 (by omega) S
  rw [fq_int] at e6
  obtain ⟨y0, y1, y2⟩ := mw_back h k0 km t1 t2
  refine ⟨_, ?_, y0, y1, y2, (Bq_add bk b5).mono (by omega)⟩
  unfold F_place_within b_place_within
  refine run_rt ?_
  rw [seq_nx (ρ' := [some (sd s), some (fq x), some (.int k), none]) (S' := S) (by simp [c_place_within_0, e1])]
  rw [seq_nx (ρ' := [some (sd s), some (fq x), some (.int k), some (fq (x - tot s k))]) (S' := S) (by simp [c_place_within_1, e2, e4])]
  simp [c_place_within_2, e3, e5, e6]
theorem num_pos (r : Rat) : (0 < r.num) = (0 < r) := by
  have h1 := @Rat.num_nonneg r
  have h2 := @Rat.num_eq_zero r
  refine propext ⟨fun h => ?_, fun h => ?_⟩
  · have a := h1.mp (by omega)
    have b : r ≠ 0 := fun e => by rw [e] at h; exact absurd h (by decide)
    grind
  · have a := h1.mpr (by grind)
    have b : r.num ≠ 0 := fun e => by have := h2.mp e; grind
    omega
theorem from_nought_ok (h : 0 ≤ p) (S : Sto) : F_is_from_nought [fq p] S = .ok (.bl true) S := by
  have e1 := fun S => is_fraction_ok (p := p) S
  have e2 : 0 ≤ p.num := Rat.num_nonneg.mpr h
  unfold F_is_from_nought b_is_from_nought
  refine run_rt ?_
  simp [c_is_from_nought_0, e1, e2]
theorem above_nought_ok (h : 0 < p) (S : Sto) : F_is_above_nought [fq p] S = .ok (.bl true) S := by
  have e1 := fun S => is_fraction_ok (p := p) S
  have e2 : 0 < p.num := by rw [num_pos]; exact h
  unfold F_is_above_nought b_is_above_nought
  refine run_rt ?_
  simp [c_is_above_nought_0, e1, e2]
theorem is_whole_ok (i : Int) (S : Sto) : F_is_whole [.int i] S = .ok (.bl true) S := by
  unfold F_is_whole b_is_whole
  refine run_rt ?_
  simp [c_is_whole_0]
theorem is_tuple_ok (xs : List D) (n : Nat) (h : xs.length = n) (S : Sto) : F_is_tuple_of [.tup xs, .int n] S = .ok (.bl true) S := by
  unfold F_is_tuple_of b_is_tuple_of
  refine run_rt ?_
  simp [c_is_tuple_of_0, h]
theorem within_ok {i a b : Int} (h1 : a ≤ i) (h2 : i ≤ b) (S : Sto) : F_is_whole_within [.int i, .int a, .int b] S = .ok (.bl true) S := by
  have e := fun S => is_whole_ok i S
  unfold F_is_whole_within b_is_whole_within
  refine run_rt ?_
  simp [c_is_whole_within_0, e, eChain, h1, h2]
theorem is_stretch_ok (h : Sok s) (S : Sto) : F_is_stretch [sd s] S = .ok (.bl true) S := by
  have e1 := fun S => is_tuple_ok [.int s.m, fq s.f, fq s.l] 3 rfl S
  have e2 := fun S => within_ok h.m1 h.m2 S
  have e3 := fun S => above_nought_ok h.f0 S
  have e4 := fun S => above_nought_ok h.l0 S
  unfold F_is_stretch b_is_stretch
  refine run_rt ?_
  rw [seq_nx (ρ' := [some (sd s), none, none, none]) (S' := S) (by
    have := e1 S
    simp only [sd]
    simp at this
    simp [c_is_stretch_0, this])]
  rw [seq_nx (ρ' := [some (sd s), some (.int s.m), some (fq s.f), some (fq s.l)]) (S' := S) (by simp [c_is_stretch_1, sd])]
  simp [c_is_stretch_2, e2, e3, e4]
theorem goes_on_ok {t : St} (hs : Sok s) (ht : Sok t) (h : ¬ (s.l = t.f ∧ rise s = rise t)) (S : Sto) : F_goes_on [sd s, sd t] S = .ok (.bl false) S := by
  have e1 := fun S => rise_ok hs S
  have e2 := fun S => rise_ok ht S
  have i1 : ∀ S, oIx (sd s) (.int 2) S = .ok (fq s.l) S := fun S => rfl
  have i2 : ∀ S, oIx (sd t) (.int 1) S = .ok (fq t.f) S := fun S => rfl
  unfold F_goes_on b_goes_on
  refine run_rt ?_
  by_cases hl : s.l = t.f
  · have hr : ¬ rise s = rise t := fun e => h ⟨hl, e⟩
    simp [c_goes_on_0, i1, i2, oEq_fq, hl, e1, e2, hr]
  · simp [c_goes_on_0, i1, i2, oEq_fq, hl]
end
end Fx
set_option Elab.async false
set_option linter.all false
set_option maxRecDepth 100000
/-! tempos: what is a tempo -/
namespace DL
open PySem L2
/-- a comprehension over a tuple whose element leaves the store as it was -/
theorem lc_mapT {α : Type} {a : EF} {j : Nat} {e : EF} {own : List Nat} {ρ : Lc} {S S1 : Sto} {qs : List α} (g f : α → D)
    (ha : a ρ S = .ok (.tup (qs.map g)) S1) (hq : qs.length ≤ 1000000)
    (step : ∀ q ∈ qs, ∀ S2, e ((wipeD ρ own).set j (some (g q))) S2 = .ok (f q) S2) :
    eLc (jTup a) (.nm j) cYes e own ρ S = .ok (.ob S1.length) (S1 ++ [.lst (qs.map f)]) := by
  have e1 : eLc (jTup a) (.nm j) cYes e own ρ S = lcGo (.tup (qs.map g)) (.nm j) cYes e (wipeD ρ own) S1.length qs.length 0 (S1 ++ [.lst []]) := by
    simp [eLc, jTup, ha, Itd.size]
  rw [e1]
  have main := lc_gen (it := .tup (qs.map g)) (t := .nm j) (e := e) (ρ := wipeD ρ own) (k := S1.length) (n := qs.length)
    (fun i acc S => S = S1 ++ [.lst acc] ∧ acc = (qs.take i).map f) (by
      intro i acc S hi ⟨p1, p2⟩
      refine ⟨g qs[i], _, f qs[i], S, ?_, put_nm _ _ _ _, step _ (List.getElem_mem hi) _, ?_, ?_, ?_, ?_⟩
      · simp [Itd.at', hi]
      · rw [p1]; simp
      · rw [p2]; simp; omega
      · rw [p1]; simp
      · rw [p2, List.take_succ, List.map_append]; simp [hi]) (by
      intro acc S ⟨p1, p2⟩
      simp [Itd.at']) qs.length 0 [] (S1 ++ [.lst []]) (by omega) (by omega) (by simp)
  obtain ⟨acc, S', e2, e3, e4⟩ := main
  rw [e2, e3, e4]; simp
theorem allBl_map {α : Type} (qs : List α) (f : α → Bool) : allBl (qs.map fun q => D.bl (f q)) = some (qs.map f) := by
  induction qs with
  | nil => rfl
  | cons q qs ih => simp only [List.map_cons, allBl, ih]; rfl
theorem allInt_map {α : Type} (qs : List α) (f : α → Int) : allInt (qs.map fun q => D.int (f q)) = some (qs.map f) := by
  induction qs with
  | nil => rfl
  | cons q qs ih => simp only [List.map_cons, allInt, ih]; rfl
@[simp] theorem truD_tup (xs : List D) (S : Sto) : truD (.tup xs) S = some (!xs.isEmpty) := rfl
theorem for_rng2 {a n : Nat} {j : Nat} {e : AF} {b : SF} {ρ : Lc} {S S1 : Sto} (P : Nat → Lc → Sto → Prop) (hn : (n : Int) < 2 ^ 62) (ha : e ρ S = .ok [.int a, .int n] S1) (ha2 : a < 100) (h0 : P 0 ρ S1)
    (step : ∀ (i : Nat) (h : a + i < n) ρ S, P i ρ S → ∃ ρ' S', b (ρ.set j (some (.int (a + i : Nat)))) S = .nx ρ' S' ∧ P (i + 1) ρ' S') :
    ∃ ρ' S', sFor (iRng e) (.nm j) b ρ S = .nx ρ' S' ∧ P (n - a) ρ' S' := by
  have g : gd (-(2 ^ 62) ≤ (a : Int) ∧ (a : Int) < 2 ^ 62 ∧ -(2 ^ 62) ≤ (n : Int) ∧ (n : Int) < 2 ^ 62) = true := gd_of ⟨by omega, by omega, by omega, hn⟩
  have e : sFor (iRng e) (.nm j) b ρ S = forGo (.rng a (n - a)) (.nm j) b (n - a) 0 ρ S1 := by
    unfold sFor iRng
    simp only [ha, bind_ok, g, if_true, sb_ok, Itd.size]
    rw [show ((n : Int) - (a : Int)).toNat = n - a by omega]
  rw [e]
  refine for_gen (n := n - a) P (fun i ρ S hi p => ?_) (fun ρ S p => ?_) _ _ _ _ (by omega) (by omega) h0
  · obtain ⟨ρ', S', e1, q⟩ := step i (by omega) ρ S p
    exact ⟨.int (a + i : Nat), ρ.set j (some (.int (a + i : Nat))), ρ', S', by simp [Itd.at', hi], by simp, e1, q⟩
  · simp [Itd.at']
theorem oEqG_pair (n : Bool) (a b c d a' b' c' d' : Int) (S : Sto) : oEqG n (.tup [.tup [.int a, .int b], .tup [.int c, .int d]]) (.tup [.tup [.int a', .int b'], .tup [.int c', .int d']]) S = .ok (.bl (decide ((a = a' ∧ b = b') ∧ c = c' ∧ d = d') != n)) S := by
  have h : ∀ x y z w : Int, SeqAt.shaped (.tuple [.tuple [.int x, .int y], .tuple [.int z, .int w]]) = true := fun x y z w => by
    simp [SeqAt.shaped, PyData.canLay0, PyData.depth, PyData.canLayAll0, PyData.depthAll]
  have e : PyData.eqv (.tuple [.tuple [.int a, .int b], .tuple [.int c, .int d]]) (.tuple [.tuple [.int a', .int b'], .tuple [.int c', .int d']]) = decide ((a = a' ∧ b = b') ∧ c = c' ∧ d = d') := by
    simp only [PyData.eqv, PyData.eqvAll, Bool.and_true, Bool.decide_and]
    rfl
  simp [oEqG, pyOf, pyOf.pyAll, h, e]
end DL
namespace Fx
open PySem L2 DL
theorem fq_pair (p q : Rat) : ((p.num = q.num ∧ (p.den : Int) = (q.den : Int))) = (p = q) := propext ⟨fun h => Rat.ext h.1 (by omega), fun h => by rw [h]; exact ⟨rfl, rfl⟩⟩
theorem oNe_pair (p q p' q' : Rat) (S : Sto) : oNe (.tup [fq p, fq q]) (.tup [fq p', fq q']) S = .ok (.bl (!decide (p = p' ∧ q = q'))) S := by
  simp only [oNe, fq, oEqG_pair, fq_pair]
  simp
theorem oEq_pair (p q p' q' : Rat) (S : Sto) : oEq (.tup [fq p, fq q]) (.tup [fq p', fq q']) S = .ok (.bl (decide (p = p' ∧ q = q'))) S := by
  simp only [oEq, fq, oEqG_pair, fq_pair]
  simp
/-- a tempo as data -/
def td (ss : List St) (r : Rat) : D := .tup [.tup (ss.map sd), fq r]
/-- a right tempo -/
structure Tok (ss : List St) (r : Rat) : Prop where
  n24 : ss.length ≤ 24
  all : ∀ s ∈ ss, Sok s
  r0 : 0 < r
  br : Bq 40 r
  sum : (ss.map St.m).sum ≤ 200000
  plain : ∀ (i : Nat) (h : i + 1 < ss.length), ¬ (ss[i].l = ss[i + 1].f ∧ rise ss[i] = rise ss[i + 1])
  last : ∀ (h : ss ≠ []), ¬ ((ss.getLast h).f = r ∧ (ss.getLast h).l = r)
section
variable {ss : List St} {r : Rat} {S : Sto}
theorem is_plain_ok (h : Tok ss r) (S : Sto) : F_is_plain [.tup (ss.map sd), fq r] S = .ok (.bl true) S := by
  have main := for_rng2 (a := 1) (n := ss.length) (j := 2) (e := aCons (eC (.int 1)) (aCons (eB cLen (aCons (eVar 0) aNil)) aNil)) (b := c_is_plain_0_0) (ρ := [some (.tup (ss.map sd)), some (fq r), none]) (S := S) (S1 := S)
    (fun i ρ S' => ∃ y, ρ = [some (.tup (ss.map sd)), some (fq r), y] ∧ S' = S) (by have := h.n24; omega) (by simp) (by decide) ⟨_, rfl, rfl⟩ (by
      rintro i hi ρ S' ⟨y, rfl, rfl⟩
      have g := fun S => goes_on_ok (h.all ss[i] (List.getElem_mem _)) (h.all ss[i + 1] (List.getElem_mem (by omega))) (h.plain i (by omega)) S
      have i1 : atI (ss.map sd) (((1 + i : Nat) : Int) - 1) = some (sd ss[i]) := by
        rw [show ((1 + i : Nat) : Int) - 1 = (i : Int) by omega, atI_cast, List.getElem?_map, List.getElem?_eq_getElem (by omega)]
        rfl
      have i2 : atI (ss.map sd) ((1 + i : Nat) : Int) = some (sd ss[i + 1]) := by
        rw [show ((1 + i : Nat) : Int) = ((i + 1 : Nat) : Int) by omega, atI_cast, List.getElem?_map, List.getElem?_eq_getElem (by omega)]
        rfl
      refine ⟨_, S', ?_, some (.int (1 + i : Nat)), rfl, rfl⟩
      simp only [List.set, c_is_plain_0_0, sIf_eq, tTru_eq, eCall_eq, aCons_eq, aNil_eq, eOp_eq, eVar_s, eVar_0, bind_ok, eC_eq, oSub_int, oIx_tup, i1, i2, g, noex_ok, truD_bl, sb_ok, Bool.false_eq_true, if_false, sNil_eq])
  obtain ⟨ρ', S', e1, y, rfl, rfl⟩ := main
  unfold F_is_plain b_is_plain
  refine run_rt ?_
  show sSeq _ _ [some (.tup (ss.map sd)), some (fq r), none] S' = _
  rw [seq_nx (show c_is_plain_0 [some (.tup (ss.map sd)), some (fq r), none] S' = _ from e1)]
  by_cases he : ss = []
  · simp [c_is_plain_1, he]
  · have hp : 0 < ss.length := List.length_pos_iff.mpr he
    have i1 : atI (ss.map sd) (-1) = some (sd (ss.getLast he)) := by
      unfold atI ixN
      rw [List.length_map, if_neg (by decide), if_pos (by omega)]
      rw [show (-1 + (ss.length : Int)).toNat = ss.length - 1 by omega]
      simp only [Option.bind_some, List.getElem?_map, List.getLast_eq_getElem]
      rw [List.getElem?_eq_getElem (by omega)]; rfl
    have c1 : ∀ S, oSl (sd (ss.getLast he)) (some 1) none S = .ok (.tup [fq (ss.getLast he).f, fq (ss.getLast he).l]) S := fun S => rfl
    have l := h.last he
    have ne : ss.isEmpty = false := by simpa using he
    simp [c_is_plain_1, ne, i1, c1, oNe_pair, l]
theorem is_tempo_ok (h : Tok ss r) (S : Sto) : ∃ e, F_is_tempo [td ss r] S = .ok (.bl true) (S ++ e) := by
  have n24 := h.n24
  have e1 := fun S => is_tuple_ok [.tup (ss.map sd), fq r] 2 rfl S
  have e2 := fun S => above_nought_ok h.r0 S
  have e3 := fun S => is_plain_ok h S
  have l1 := lc_mapT (a := eVar 1) (j := 3) (e := eCall F_is_stretch (aCons (eVar 3) aNil)) (own := [3]) (ρ := [some (td ss r), some (.tup (ss.map sd)), some (fq r), none]) (S := S) (S1 := S) (qs := ss) sd (fun _ => D.bl true) (by simp) (by omega) (by
    intro s hs S2
    have := is_stretch_ok (h.all s hs) S2
    simp [wipeD, this])
  have l2 := lc_mapT (a := eVar 1) (j := 3) (e := eOp oIx (eVar 3) (eC (.int 0))) (own := [3]) (ρ := [some (td ss r), some (.tup (ss.map sd)), some (fq r), none]) (S := S ++ [.lst (ss.map fun _ => D.bl true)]) (S1 := S ++ [.lst (ss.map fun _ => D.bl true)]) (qs := ss) sd (fun s => D.int s.m) (by simp) (by omega) (by
    intro s hs S2
    simp [wipeD, sd])
  have a1 : cAll [.ob S.length] (S ++ [.lst (ss.map fun _ => D.bl true)]) = .ok (.bl true) (S ++ [.lst (ss.map fun _ => D.bl true)]) := by
    have := allBl_map ss (fun _ => true)
    simp only [cAll, at_end, this]
    simp
  have a2 : cSum [.ob (S ++ [O.lst (ss.map fun _ => D.bl true)]).length] (S ++ [.lst (ss.map fun _ => D.bl true)] ++ [.lst (ss.map fun s => D.int s.m)]) = .ok (.int (ss.map St.m).sum) (S ++ [.lst (ss.map fun _ => D.bl true)] ++ [.lst (ss.map fun s => D.int s.m)]) := by
    have := allInt_map ss St.m
    simp only [cSum, at_end, this]
  refine ⟨[.lst (ss.map fun _ => D.bl true)] ++ [.lst (ss.map fun s => D.int s.m)], ?_⟩
  unfold F_is_tempo b_is_tempo
  refine run_rt ?_
  rw [seq_nx (ρ' := [some (td ss r), none, none, none]) (S' := S) (by
    have := e1 S
    simp only [td]
    simp at this
    simp [c_is_tempo_0, this])]
  rw [seq_nx (ρ' := [some (td ss r), some (.tup (ss.map sd)), some (fq r), none]) (S' := S) (by simp [c_is_tempo_1, td])]
  rw [seq_nx (ρ' := [some (td ss r), some (.tup (ss.map sd)), some (fq r), none]) (S' := S) (by
    have : ¬ (24 : Int) < ss.length := by omega
    simp [c_is_tempo_2, this])]
  rw [seq_nx (ρ' := [some (td ss r), some (.tup (ss.map sd)), some (fq r), none]) (S' := S ++ [.lst (ss.map fun _ => D.bl true)]) (by
    simp only [c_is_tempo_3, sIf_eq, bOr_eq, bNot_eq, tTru_eq, eCall_eq, aCons_eq, aNil_eq, eVar_s, eVar_0, bind_ok, e2, noex_ok, truD_bl, eB_eq, l1, a1, Bool.not_true, Bool.false_eq_true, if_false, sb_ok, sNil_eq])]
  have sm := h.sum
  simp only [c_is_tempo_4, sRet_eq, eAnd_eq, eOp_eq, eB_eq, aCons_eq, aNil_eq, l2, bind_ok, a2, eC_eq, oLe_int, decide_eq_true sm, truD_bl, eCall_eq, eVar_s, eVar_0, e3, noex_ok, sb_ok]
  rw [List.append_assoc]
theorem refuse_ok (h : Tok ss r) (S : Sto) : ∃ e, F_refuse_no_tempo [td ss r] S = .ok .non (S ++ e) := by
  obtain ⟨e, e1⟩ := is_tempo_ok h S
  refine ⟨e, ?_⟩
  unfold F_refuse_no_tempo b_refuse_no_tempo
  have : c_refuse_no_tempo_0 [some (td ss r)] S = .nx [some (td ss r)] (S ++ e) := by simp [c_refuse_no_tempo_0, e1]
  show (match c_refuse_no_tempo_0 [some (td ss r)] S with | .rt d S' => Res.ok d S' | .nx _ S' => .ok .non S' | _ => .no) = _
  rw [this]
end
end Fx
set_option Elab.async false
set_option linter.all false
set_option maxRecDepth 100000
/-! tempos: moments, places, lengths -/
namespace Fx
open PySem L2 DL
section
variable {ss : List St} {r p x b : Rat} {S : Sto} {x0 x1 x2 x3 x6 x7 : Option D}
theorem at_mid (pre : List St) (s : St) (rest : List St) (S : Sto) : (Itd.tup ((pre ++ s :: rest).map sd)).at' pre.length S = some (some (sd s)) := by
  simp [Itd.at']
theorem at_fin (pre : List St) (S : Sto) : (Itd.tup ((pre ++ []).map sd)).at' pre.length S = some none := by
  simp [Itd.at']
theorem tup_m (h : Sok s) : Bq 18 (s.m : Rat) := h.bm
/-- the loop of moments -/
theorem mo_loop (hr : 0 < r) : ∀ (rest pre : List St) (nb np : Nat) (b p : Rat) (x6 x7 : Option D), (∀ s ∈ rest, Sok s) → Bq nb b → Bq np p → nb + np + 220 * rest.length + 420 ≤ 13000 → 0 ≤ p → ∀ fuel, rest.length ≤ fuel →
    (forGo (.tup ((pre ++ rest).map sd)) (.nm 6) (sSeq c_moment_of_5_0 (sSeq c_moment_of_5_1 (sSeq c_moment_of_5_2 c_moment_of_5_3))) fuel pre.length [x0, x1, x2, x3, some (fq b), some (fq p), x6, x7] S = .rt (fq (b + mo rest r p)) S ∧ Bq (nb + np + 220 * rest.length + 420) (b + mo rest r p)) ∨
    (∃ b' p' y6 y7, forGo (.tup ((pre ++ rest).map sd)) (.nm 6) (sSeq c_moment_of_5_0 (sSeq c_moment_of_5_1 (sSeq c_moment_of_5_2 c_moment_of_5_3))) fuel pre.length [x0, x1, x2, x3, some (fq b), some (fq p), x6, x7] S = .nx [x0, x1, x2, x3, some (fq b'), some (fq p'), y6, y7] S ∧ b' + p' * r = b + mo rest r p ∧ Bq (nb + 201 * rest.length) b' ∧ Bq (np + 19 * rest.length) p')
  | [], pre, nb, np, b, p, x6, x7, _, hb, hp, hn, h0, fuel, hf => by
    refine .inr ⟨b, p, x6, x7, ?_, rfl, hb.mono (by omega), hp.mono (by omega)⟩
    unfold forGo
    simp only [at_fin]
  | s :: rest, pre, nb, np, b, p, x6, x7, hs, hb, hp, hn, h0, fuel + 1, hf => by
    have ok := hs s (by simp)
    have m1 := ok.m1
    have m2 := ok.m2
    rw [List.length_cons] at hn hf
    have i0 : ∀ S, oIx (sd s) (.int 0) S = .ok (.int s.m) S := fun S => rfl
    have e0 : c_moment_of_5_0 [x0, x1, x2, x3, some (fq b), some (fq p), some (sd s), x7] S = .nx [x0, x1, x2, x3, some (fq b), some (fq p), some (sd s), some (fq (s.m : Rat))] S := by
      rw [fq_int]
      simp [c_moment_of_5_0, i0]
    have l1 := fun S => is_less_ok hp ok.bm (by omega) S
    have hmo : mo (s :: rest) r p = if p < (s.m : Rat) then mw s p else tot s s.m + mo rest r (p - (s.m : Rat)) := rfl
    by_cases hm : p < (s.m : Rat)
    · have hk : p.floor.natAbs < 2 ^ 18 := by
        have := fl_nonneg h0
        have := fl_lt hm
        omega
      have e2 := fun S => mw_ok ok hp (by omega) hk S
      have e3 := fun S => plus_ok hb (Bq_mw ok hp hk) (by omega) S
      simp only [hm, decide_true] at l1
      refine .inl ⟨?_, by rw [hmo, if_pos hm]; exact (Bq_add hb (Bq_mw ok hp hk)).mono (by rw [List.length_cons]; omega)⟩
      rw [hmo, if_pos hm]
      unfold forGo
      simp only [at_mid, put_nm, List.set]
      rw [seq_nx e0, seq_rt (d := fq (b + mw s p)) (S' := S) (by simp [c_moment_of_5_1, l1, e2, e3])]
    · have e2 := fun S => tot_ok ok (k := s.m) (by omega) S
      have bt := Bq_tot ok (k := s.m) (by omega)
      have e3 := fun S => plus_ok hb bt (by omega) S
      have e4 := fun S => minus_ok hp ok.bm (by omega) S
      simp only [hm, decide_false] at l1
      have ih := mo_loop hr rest (pre ++ [s]) (nb + 200 + 1) (np + 18 + 1) (b + tot s s.m) (p - (s.m : Rat)) (some (sd s)) (some (fq (s.m : Rat))) (fun s hs' => hs s (by simp [hs'])) (Bq_add hb bt) (Bq_sub hp ok.bm) (by omega) (by grind) fuel (by omega)
      have step : ∀ R, forGo (.tup ((pre ++ [s] ++ rest).map sd)) (.nm 6) (sSeq c_moment_of_5_0 (sSeq c_moment_of_5_1 (sSeq c_moment_of_5_2 c_moment_of_5_3))) fuel (pre ++ [s]).length [x0, x1, x2, x3, some (fq (b + tot s s.m)), some (fq (p - (s.m : Rat))), some (sd s), some (fq (s.m : Rat))] S = R → forGo (.tup ((pre ++ s :: rest).map sd)) (.nm 6) (sSeq c_moment_of_5_0 (sSeq c_moment_of_5_1 (sSeq c_moment_of_5_2 c_moment_of_5_3))) (fuel + 1) pre.length [x0, x1, x2, x3, some (fq b), some (fq p), x6, x7] S = R := by
        intro R hR
        rw [List.append_assoc, List.cons_append, List.nil_append, List.length_append, List.length_cons, List.length_nil, Nat.zero_add] at hR
        rw [← hR]
        conv => lhs; unfold forGo
        simp only [at_mid, put_nm, List.set]
        rw [seq_nx e0, seq_nx (ρ' := [x0, x1, x2, x3, some (fq b), some (fq p), some (sd s), some (fq (s.m : Rat))]) (S' := S) (by simp [c_moment_of_5_1, l1]), seq_nx (ρ' := [x0, x1, x2, x3, some (fq (b + tot s s.m)), some (fq p), some (sd s), some (fq (s.m : Rat))]) (S' := S) (by simp [c_moment_of_5_2, i0, e2, e3])]
        have e9 : c_moment_of_5_3 [x0, x1, x2, x3, some (fq (b + tot s s.m)), some (fq p), some (sd s), some (fq (s.m : Rat))] S = .nx [x0, x1, x2, x3, some (fq (b + tot s s.m)), some (fq (p - (s.m : Rat))), some (sd s), some (fq (s.m : Rat))] S := by simp [c_moment_of_5_3, e4]
        simp only [e9]
      rw [hmo, if_neg hm]
      have ea : b + (tot s s.m + mo rest r (p - (s.m : Rat))) = b + tot s s.m + mo rest r (p - (s.m : Rat)) := by grind
      rcases ih with ⟨i1, i2⟩ | ⟨b', p', y6, y7, i1, i2, i3, i4⟩
      · refine .inl ⟨?_, by rw [ea]; exact i2.mono (by rw [List.length_cons]; omega)⟩
        rw [ea]
        exact step _ i1
      · refine .inr ⟨b', p', y6, y7, step _ i1, by rw [ea]; exact i2, i3.mono (by rw [List.length_cons]; omega), i4.mono (by rw [List.length_cons]; omega)⟩
theorem moment_of_ok {np : Nat} (h : Tok ss r) (hp : Bq np p) (hn : np ≤ 6000) (h0 : 0 ≤ p) (S : Sto) : ∃ e, F_moment_of [td ss r, fq p] S = .ok (fq (mo ss r p)) (S ++ e) ∧ Bq (np + 5800) (mo ss r p) := by
  have n24 := h.n24
  obtain ⟨e, e0⟩ := refuse_ok h S
  have e1 := fun S => from_nought_ok h0 S
  have loop := mo_loop (S := S ++ e) (x0 := some (td ss r)) (x1 := some (fq p)) (x2 := some (.tup (ss.map sd))) (x3 := some (fq r)) h.r0 ss [] 1 np 0 p none none h.all Bq_zero hp (by omega) h0 ss.length (Nat.le_refl _)
  have z : (0 : Rat) + mo ss r p = mo ss r p := by grind
  rw [z] at loop
  have pre : ∀ R, (sSeq c_moment_of_5 c_moment_of_6) [some (td ss r), some (fq p), some (.tup (ss.map sd)), some (fq r), some (fq 0), some (fq p), none, none] (S ++ e) = R → b_moment_of [some (td ss r), some (fq p), none, none, none, none, none, none] S = R := by
    intro R hR
    unfold b_moment_of
    rw [seq_nx (ρ' := [some (td ss r), some (fq p), none, none, none, none, none, none]) (S' := S ++ e) (by simp [c_moment_of_0, e0])]
    rw [seq_nx (ρ' := [some (td ss r), some (fq p), none, none, none, none, none, none]) (S' := S ++ e) (by simp [c_moment_of_1, e1])]
    rw [seq_nx (ρ' := [some (td ss r), some (fq p), some (.tup (ss.map sd)), some (fq r), none, none, none, none]) (S' := S ++ e) (by simp [c_moment_of_2, td])]
    rw [seq_nx (ρ' := [some (td ss r), some (fq p), some (.tup (ss.map sd)), some (fq r), some (fq 0), none, none, none]) (S' := S ++ e) (by simp [c_moment_of_3, fq_zero])]
    rw [seq_nx (ρ' := [some (td ss r), some (fq p), some (.tup (ss.map sd)), some (fq r), some (fq 0), some (fq p), none, none]) (S' := S ++ e) (by simp [c_moment_of_4])]
    exact hR
  have go : ∀ R, forGo (.tup (([] ++ ss).map sd)) (.nm 6) (sSeq c_moment_of_5_0 (sSeq c_moment_of_5_1 (sSeq c_moment_of_5_2 c_moment_of_5_3))) ss.length ([] : List St).length [some (td ss r), some (fq p), some (.tup (ss.map sd)), some (fq r), some (fq 0), some (fq p), none, none] (S ++ e) = R → c_moment_of_5 [some (td ss r), some (fq p), some (.tup (ss.map sd)), some (fq r), some (fq 0), some (fq p), none, none] (S ++ e) = R := by
    intro R hR
    rw [← hR]
    simp [c_moment_of_5, sFor, jTup, Itd.size]
  rcases loop with ⟨i1, i2⟩ | ⟨b', p', y6, y7, i1, i2, i3, i4⟩
  · refine ⟨e, run_rt (pre _ ?_), i2.mono (by omega)⟩
    exact seq_rt (go _ i1) _
  · have t := fun S => times_ok i4 h.br (by omega) S
    have bt := Bq_mul i4 h.br
    have u := fun S => plus_ok i3 bt (by omega) S
    refine ⟨e, run_rt (pre _ ?_), by rw [← i2]; exact (Bq_add i3 bt).mono (by omega)⟩
    rw [seq_nx (go _ i1), ← i2]
    simp [c_moment_of_6, t, u]
end
end Fx
set_option Elab.async false
set_option linter.all false
set_option maxRecDepth 100000
/-! tempos: places, lengths -/
namespace DL
open PySem L2
theorem sAug_int {i : Nat} {a : EF} {ρ : Lc} {S S1 : Sto} {x y : Int} (h1 : ρ[i]? = some (some (.int x))) (h2 : a ρ S = .ok (.int y) S1) : sAug i a ρ S = .nx (ρ.set i (some (.int (x + y)))) S1 := by
  simp only [sAug, h1, h2, sb_ok]
end DL
namespace Fx
open PySem L2 DL
section
variable {ss : List St} {r p x b : Rat} {k : Int} {S : Sto} {x0 x1 x2 x3 x6 x7 : Option D}
/-- the loop of places -/
theorem pl_loop (hr : 0 < r) (br : Bq 40 r) : ∀ (rest pre : List St) (nx : Nat) (a : Int) (x : Rat) (x6 x7 : Option D), (∀ s ∈ rest, Sok s) → Bq nx x → nx + 201 * rest.length + 600 ≤ 13000 → 0 ≤ x → 0 ≤ a → a + (rest.map St.m).sum ≤ 200000 → ∀ fuel, rest.length ≤ fuel →
    ∃ y : Rat, 0 ≤ y ∧ mo rest r y = x ∧ Bq (nx + 201 * rest.length + 450) ((a : Rat) + y) ∧
    (forGo (.tup ((pre ++ rest).map sd)) (.nm 6) (sSeq c_place_of_5_0 (sSeq c_place_of_5_1 (sSeq c_place_of_5_2 c_place_of_5_3))) fuel pre.length [x0, x1, x2, x3, some (.int a), some (fq x), x6, x7] S = .rt (fq ((a : Rat) + y)) S ∨
    (∃ (a' : Int) (x' : Rat) (y6 y7 : Option D), forGo (.tup ((pre ++ rest).map sd)) (.nm 6) (sSeq c_place_of_5_0 (sSeq c_place_of_5_1 (sSeq c_place_of_5_2 c_place_of_5_3))) fuel pre.length [x0, x1, x2, x3, some (.int a), some (fq x), x6, x7] S = .nx [x0, x1, x2, x3, some (.int a'), some (fq x'), y6, y7] S ∧ (a' : Rat) + x' / r = (a : Rat) + y ∧ 0 ≤ a' ∧ a' ≤ 200000 ∧ Bq (nx + 201 * rest.length) x'))
  | [], pre, nx, a, x, x6, x7, _, hx, hn, h0, ha, hsum, fuel, hf => by
    have r0 : r ≠ 0 := by grind
    have ba : Bq 18 (a : Rat) := Bq_cast (by simp at hsum; omega) (by decide)
    have d : x / r * r = x := by grind
    have dn : 0 ≤ x / r := by
      refine Rat.not_lt.mp fun hn => ?_
      have := Rat.mul_pos (a := -(x / r)) (by grind) hr
      grind
    refine ⟨x / r, dn, d, (Bq_add ba (Bq_div hx br r0)).mono (by simp; omega), .inr ⟨a, x, x6, x7, ?_, rfl, ha, by simpa using hsum, hx.mono (by omega)⟩⟩
    unfold forGo
    simp only [at_fin]
  | s :: rest, pre, nx, a, x, x6, x7, hs, hx, hn, h0, ha, hsum, fuel + 1, hf => by
    have ok := hs s (by simp)
    have m1 := ok.m1
    have m2 := ok.m2
    rw [List.length_cons] at hn hf
    rw [List.map_cons, List.sum_cons] at hsum
    have srest : 0 ≤ (rest.map St.m).sum := by
      have : ∀ l : List St, (∀ s ∈ l, Sok s) → 0 ≤ (l.map St.m).sum := fun l => by
        induction l with
        | nil => intro _; simp
        | cons t l ih =>
          intro h
          have h1 := (h t (by simp)).m1
          have h2 := ih (fun s hs => h s (by simp [hs]))
          rw [List.map_cons, List.sum_cons]
          omega
      exact this rest (fun s hs' => hs s (by simp [hs']))
    have i0 : ∀ S, oIx (sd s) (.int 0) S = .ok (.int s.m) S := fun S => rfl
    have bt := Bq_tot ok (k := s.m) (by omega)
    have e2 := fun S => tot_ok ok (k := s.m) (by omega) S
    have e0 : c_place_of_5_0 [x0, x1, x2, x3, some (.int a), some (fq x), some (sd s), x7] S = .nx [x0, x1, x2, x3, some (.int a), some (fq x), some (sd s), some (fq (tot s s.m))] S := by
      simp [c_place_of_5_0, i0, e2]
    have l1 := fun S => is_less_ok hx bt (by omega) S
    have hmo : ∀ y, mo (s :: rest) r y = if y < (s.m : Rat) then mw s y else tot s s.m + mo rest r (y - (s.m : Rat)) := fun y => rfl
    have ba : Bq 18 (a : Rat) := Bq_cast (by omega) (by decide)
    by_cases hm : x < tot s s.m
    · obtain ⟨y, e3, y0, ym, ymw, by'⟩ := place_within_ok ok hx (by omega) h0 hm S
      have e4 := fun S => plus_ok ba by' (by omega) S
      rw [fq_int] at e4
      simp only [hm, decide_true] at l1
      refine ⟨y, y0, by rw [hmo, if_pos ym]; exact ymw, (Bq_add ba by').mono (by rw [List.length_cons]; omega), .inl ?_⟩
      unfold forGo
      simp only [at_mid, put_nm, List.set]
      rw [seq_nx e0, seq_rt (d := fq ((a : Rat) + y)) (S' := S) (by simp [c_place_of_5_1, l1, e3, e4])]
    · have e4 := fun S => minus_ok hx bt (by omega) S
      simp only [hm, decide_false] at l1
      have ih := pl_loop hr br rest (pre ++ [s]) (nx + 200 + 1) (a + s.m) (x - tot s s.m) (some (sd s)) (some (fq (tot s s.m))) (fun s hs' => hs s (by simp [hs'])) (Bq_sub hx bt) (by omega) (by grind) (by omega) (by omega) fuel (by omega)
      have step : ∀ R, forGo (.tup ((pre ++ [s] ++ rest).map sd)) (.nm 6) (sSeq c_place_of_5_0 (sSeq c_place_of_5_1 (sSeq c_place_of_5_2 c_place_of_5_3))) fuel (pre ++ [s]).length [x0, x1, x2, x3, some (.int (a + s.m)), some (fq (x - tot s s.m)), some (sd s), some (fq (tot s s.m))] S = R → forGo (.tup ((pre ++ s :: rest).map sd)) (.nm 6) (sSeq c_place_of_5_0 (sSeq c_place_of_5_1 (sSeq c_place_of_5_2 c_place_of_5_3))) (fuel + 1) pre.length [x0, x1, x2, x3, some (.int a), some (fq x), x6, x7] S = R := by
        intro R hR
        rw [List.append_assoc, List.cons_append, List.nil_append, List.length_append, List.length_cons, List.length_nil, Nat.zero_add] at hR
        rw [← hR]
        conv => lhs; unfold forGo
        simp only [at_mid, put_nm, List.set]
        rw [seq_nx e0, seq_nx (ρ' := [x0, x1, x2, x3, some (.int a), some (fq x), some (sd s), some (fq (tot s s.m))]) (S' := S) (by simp [c_place_of_5_1, l1]), seq_nx (ρ' := [x0, x1, x2, x3, some (.int (a + s.m)), some (fq x), some (sd s), some (fq (tot s s.m))]) (S' := S) (sAug_int rfl (by simp [i0]))]
        have e9 : c_place_of_5_3 [x0, x1, x2, x3, some (.int (a + s.m)), some (fq x), some (sd s), some (fq (tot s s.m))] S = .nx [x0, x1, x2, x3, some (.int (a + s.m)), some (fq (x - tot s s.m)), some (sd s), some (fq (tot s s.m))] S := by simp [c_place_of_5_3, e4]
        simp only [e9]
      obtain ⟨y, y0, ymo, yb, ih⟩ := ih
      have hmp : (0 : Rat) < (s.m : Rat) := by
        have : ((0 : Int) : Rat) < (s.m : Rat) := by rw [clt]; omega
        exact this
      have ea : ((a + s.m : Int) : Rat) + y = (a : Rat) + ((s.m : Rat) + y) := by grind
      rw [ea] at yb ih
      refine ⟨(s.m : Rat) + y, by grind, ?_, yb.mono (by rw [List.length_cons]; omega), ?_⟩
      · have i1 : ¬ (s.m : Rat) + y < (s.m : Rat) := by grind
        have i2 : (s.m : Rat) + y - (s.m : Rat) = y := by grind
        rw [hmo, if_neg i1, i2, ymo]
        grind
      · rcases ih with i1 | ⟨a', x', y6, y7, i1, i2, i3, i4, i5⟩
        · exact .inl (step _ i1)
        · exact .inr ⟨a', x', y6, y7, step _ i1, i2, i3, i4, i5.mono (by rw [List.length_cons]; omega)⟩
theorem place_of_ok {nx : Nat} (h : Tok ss r) (hx : Bq nx x) (hn : nx ≤ 7000) (h0 : 0 ≤ x) (S : Sto) : ∃ (y : Rat) (e : Sto), F_place_of [td ss r, fq x] S = .ok (fq y) (S ++ e) ∧ 0 ≤ y ∧ mo ss r y = x ∧ Bq (nx + 5500) y := by
  have n24 := h.n24
  obtain ⟨e, e0⟩ := refuse_ok h S
  have e1 := fun S => from_nought_ok h0 S
  obtain ⟨y, y0, ymo, yb, loop⟩ := pl_loop (S := S ++ e) (x0 := some (td ss r)) (x1 := some (fq x)) (x2 := some (.tup (ss.map sd))) (x3 := some (fq r)) h.r0 h.br ss [] nx 0 x none none h.all hx (by omega) h0 (by omega) (by have := h.sum; omega) ss.length (Nat.le_refl _)
  have z : ((0 : Int) : Rat) + y = y := by grind
  rw [z] at yb loop
  have pre : ∀ R, (sSeq c_place_of_5 c_place_of_6) [some (td ss r), some (fq x), some (.tup (ss.map sd)), some (fq r), some (.int 0), some (fq x), none, none] (S ++ e) = R → b_place_of [some (td ss r), some (fq x), none, none, none, none, none, none] S = R := by
    intro R hR
    unfold b_place_of
    rw [seq_nx (ρ' := [some (td ss r), some (fq x), none, none, none, none, none, none]) (S' := S ++ e) (by simp [c_place_of_0, e0])]
    rw [seq_nx (ρ' := [some (td ss r), some (fq x), none, none, none, none, none, none]) (S' := S ++ e) (by simp [c_place_of_1, e1])]
    rw [seq_nx (ρ' := [some (td ss r), some (fq x), some (.tup (ss.map sd)), some (fq r), none, none, none, none]) (S' := S ++ e) (by simp [c_place_of_2, td])]
    rw [seq_nx (ρ' := [some (td ss r), some (fq x), some (.tup (ss.map sd)), some (fq r), some (.int 0), none, none, none]) (S' := S ++ e) (by simp [c_place_of_3])]
    rw [seq_nx (ρ' := [some (td ss r), some (fq x), some (.tup (ss.map sd)), some (fq r), some (.int 0), some (fq x), none, none]) (S' := S ++ e) (by simp [c_place_of_4])]
    exact hR
  have go : ∀ R, forGo (.tup (([] ++ ss).map sd)) (.nm 6) (sSeq c_place_of_5_0 (sSeq c_place_of_5_1 (sSeq c_place_of_5_2 c_place_of_5_3))) ss.length ([] : List St).length [some (td ss r), some (fq x), some (.tup (ss.map sd)), some (fq r), some (.int 0), some (fq x), none, none] (S ++ e) = R → c_place_of_5 [some (td ss r), some (fq x), some (.tup (ss.map sd)), some (fq r), some (.int 0), some (fq x), none, none] (S ++ e) = R := by
    intro R hR
    rw [← hR]
    simp [c_place_of_5, sFor, jTup, Itd.size]
  rcases loop with i1 | ⟨a', x', y6, y7, i1, i2, i3, i4, i5⟩
  · refine ⟨y, e, run_rt (pre _ ?_), y0, ymo, yb.mono (by omega)⟩
    exact seq_rt (go _ i1) _
  · have r0 : r ≠ 0 := by have := h.r0; grind
    have ba : Bq 18 (a' : Rat) := Bq_cast (by omega) (by decide)
    have t := fun S => over_ok i5 h.br (by omega) r0 S
    have bt := Bq_div i5 h.br r0
    have u := fun S => plus_ok ba bt (by omega) S
    rw [fq_int] at u
    refine ⟨y, e, run_rt (pre _ ?_), y0, ymo, yb.mono (by omega)⟩
    rw [seq_nx (go _ i1), ← i2]
    simp [c_place_of_6, t, u]
theorem le_loop : ∀ (rest pre : List St) (a : Int) (x5 : Option D), (∀ s ∈ rest, Sok s) → a ≤ k → Bq 160 r → ∀ fuel, rest.length ≤ fuel →
    Bq 160 (le rest r (k - a)) ∧ (forGo (.tup ((pre ++ rest).map sd)) (.nm 5) (sSeq c_length_of_4_0 c_length_of_4_1) fuel pre.length [x0, some (.int k), x2, x3, some (.int a), x5] S = .rt (fq (le rest r (k - a))) S ∨
    (∃ (a' : Int) (y5 : Option D), forGo (.tup ((pre ++ rest).map sd)) (.nm 5) (sSeq c_length_of_4_0 c_length_of_4_1) fuel pre.length [x0, some (.int k), x2, x3, some (.int a), x5] S = .nx [x0, some (.int k), x2, x3, some (.int a'), y5] S ∧ le rest r (k - a) = r))
  | [], pre, a, x5, _, ha, br, fuel, hf => by
    refine ⟨br, .inr ⟨a, x5, ?_, rfl⟩⟩
    unfold forGo
    simp only [at_fin]
  | s :: rest, pre, a, x5, hs, ha, br, fuel + 1, hf => by
    have ok := hs s (by simp)
    have m1 := ok.m1
    have m2 := ok.m2
    rw [List.length_cons] at hf
    have i0 : ∀ S, oIx (sd s) (.int 0) S = .ok (.int s.m) S := fun S => rfl
    have hle : le (s :: rest) r (k - a) = if k - a < s.m then len s (k - a) else le rest r (k - a - s.m) := rfl
    by_cases hk : k - a < s.m
    · have e2 := fun S => len_ok ok (k := k - a) (by omega) S
      have lt : k < a + s.m := by omega
      rw [hle, if_pos hk]
      refine ⟨Bq_len ok (by omega), .inl ?_⟩
      unfold forGo
      simp only [at_mid, put_nm, List.set]
      rw [seq_rt (d := fq (len s (k - a))) (S' := S) (by simp [c_length_of_4_0, i0, lt, e2])]
    · have nlt : ¬ k < a + s.m := by omega
      rw [hle, if_neg hk]
      have ih := le_loop rest (pre ++ [s]) (a + s.m) (some (sd s)) (fun s hs' => hs s (by simp [hs'])) (by omega) br fuel (by omega)
      rw [show k - (a + s.m) = k - a - s.m by omega] at ih
      have step : ∀ R, forGo (.tup ((pre ++ [s] ++ rest).map sd)) (.nm 5) (sSeq c_length_of_4_0 c_length_of_4_1) fuel (pre ++ [s]).length [x0, some (.int k), x2, x3, some (.int (a + s.m)), some (sd s)] S = R → forGo (.tup ((pre ++ s :: rest).map sd)) (.nm 5) (sSeq c_length_of_4_0 c_length_of_4_1) (fuel + 1) pre.length [x0, some (.int k), x2, x3, some (.int a), x5] S = R := by
        intro R hR
        rw [List.append_assoc, List.cons_append, List.nil_append, List.length_append, List.length_cons, List.length_nil, Nat.zero_add] at hR
        rw [← hR]
        conv => lhs; unfold forGo
        simp only [at_mid, put_nm, List.set]
        rw [seq_nx (ρ' := [x0, some (.int k), x2, x3, some (.int a), some (sd s)]) (S' := S) (by simp [c_length_of_4_0, i0, nlt])]
        have e9 : c_length_of_4_1 [x0, some (.int k), x2, x3, some (.int a), some (sd s)] S = .nx [x0, some (.int k), x2, x3, some (.int (a + s.m)), some (sd s)] S := sAug_int rfl (by simp [i0])
        simp only [e9]
      obtain ⟨b1, ih⟩ := ih
      refine ⟨b1, ?_⟩
      rcases ih with i1 | ⟨a', y5, i1, i2⟩
      · exact .inl (step _ i1)
      · exact .inr ⟨a', y5, step _ i1, i2⟩
theorem length_of_ok (h : Tok ss r) (h0 : 0 ≤ k) (S : Sto) : ∃ e : Sto, F_length_of [td ss r, .int k] S = .ok (fq (le ss r k)) (S ++ e) ∧ Bq 160 (le ss r k) := by
  obtain ⟨e, e0⟩ := refuse_ok h S
  have e1 := fun S => is_whole_ok k S
  obtain ⟨bl, loop⟩ := le_loop (S := S ++ e) (x0 := some (td ss r)) (k := k) (x2 := some (.tup (ss.map sd))) (x3 := some (fq r)) (r := r) ss [] 0 none h.all h0 (h.br.mono (by decide)) ss.length (Nat.le_refl _)
  rw [Int.sub_zero] at bl loop
  have pre : ∀ R, (sSeq c_length_of_4 c_length_of_5) [some (td ss r), some (.int k), some (.tup (ss.map sd)), some (fq r), some (.int 0), none] (S ++ e) = R → b_length_of [some (td ss r), some (.int k), none, none, none, none] S = R := by
    intro R hR
    have nk : ¬ k < 0 := by omega
    unfold b_length_of
    rw [seq_nx (ρ' := [some (td ss r), some (.int k), none, none, none, none]) (S' := S ++ e) (by simp [c_length_of_0, e0])]
    rw [seq_nx (ρ' := [some (td ss r), some (.int k), none, none, none, none]) (S' := S ++ e) (by simp [c_length_of_1, e1, nk])]
    rw [seq_nx (ρ' := [some (td ss r), some (.int k), some (.tup (ss.map sd)), some (fq r), none, none]) (S' := S ++ e) (by simp [c_length_of_2, td])]
    rw [seq_nx (ρ' := [some (td ss r), some (.int k), some (.tup (ss.map sd)), some (fq r), some (.int 0), none]) (S' := S ++ e) (by simp [c_length_of_3])]
    exact hR
  have go : ∀ R, forGo (.tup (([] ++ ss).map sd)) (.nm 5) (sSeq c_length_of_4_0 c_length_of_4_1) ss.length ([] : List St).length [some (td ss r), some (.int k), some (.tup (ss.map sd)), some (fq r), some (.int 0), none] (S ++ e) = R → c_length_of_4 [some (td ss r), some (.int k), some (.tup (ss.map sd)), some (fq r), some (.int 0), none] (S ++ e) = R := by
    intro R hR
    rw [← hR]
    simp [c_length_of_4, sFor, jTup, Itd.size]
  refine ⟨e, run_rt (pre _ ?_), bl⟩
  rcases loop with i1 | ⟨a', y5, i1, i2⟩
  · exact seq_rt (go _ i1) _
  · rw [seq_nx (go _ i1), i2]
    simp [c_length_of_5]
end
end Fx
set_option Elab.async false
set_option linter.all false
set_option maxRecDepth 100000
/-! tempos as the law draws them -/
namespace Fx
open PySem L2 DL
def pqd (q : Rat) : PyData := .tuple [.int q.num, .int q.den]
def psd (s : St) : PyData := .tuple [.int s.m, pqd s.f, pqd s.l]
section
variable {S : Sto} {n m : Nat}
theorem pyAll_map {α : Type} {f : D → Option PyData} {g : α → D} {h : α → PyData} (e : ∀ a, f (g a) = some (h a)) (l : List α) : pyOf.pyAll f (l.map g) = some (l.map h) := by
  induction l with
  | nil => rfl
  | cons a l ih => simp only [List.map_cons, pyOf.pyAll, e, ih]
theorem lay_map {α : Type} {h : α → PyData} (e : ∀ a, (h a).canLay0 = true) (l : List α) : PyData.canLayAll0 (l.map h) = true := by
  induction l with
  | nil => simp [PyData.canLayAll0]
  | cons a l ih => simp [PyData.canLayAll0, e, ih]
theorem dep_map {α : Type} {h : α → PyData} {k : Nat} (e : ∀ a, (h a).depth ≤ k) (l : List α) : PyData.depthAll (l.map h) ≤ k := by
  induction l with
  | nil => simp [PyData.depthAll]
  | cons a l ih => simp only [List.map_cons, PyData.depthAll]; have := e a; omega
theorem eqv_map {α : Type} {h : α → PyData} (e : ∀ a, PyData.eqv (h a) (h a) = true) (l : List α) : PyData.eqvAll (l.map h) (l.map h) = true := by
  induction l with
  | nil => simp [PyData.eqvAll]
  | cons a l ih => simp [PyData.eqvAll, e, ih]
theorem shaped_map {α : Type} {h : α → PyData} (e1 : ∀ a, (h a).canLay0 = true) (e2 : ∀ a, (h a).depth ≤ 5) (l : List α) : SeqAt.shaped (.list (l.map h)) = true := by
  have := dep_map e2 l
  have := lay_map e1 l
  simp [SeqAt.shaped, PyData.canLay0, PyData.depth, *]
  omega
theorem pqd_lay (q : Rat) : (pqd q).canLay0 = true := by simp [pqd, PyData.canLay0, PyData.canLayAll0]
theorem pqd_dep (q : Rat) : (pqd q).depth ≤ 5 := by simp [pqd, PyData.depth, PyData.depthAll]
theorem pqd_eqv (q : Rat) : PyData.eqv (pqd q) (pqd q) = true := by simp [pqd, PyData.eqv, PyData.eqvAll]
theorem psd_lay (s : St) : (psd s).canLay0 = true := by simp [psd, pqd, PyData.canLay0, PyData.canLayAll0]
theorem psd_dep (s : St) : (psd s).depth ≤ 5 := by simp [psd, pqd, PyData.depth, PyData.depthAll]
theorem pyOf_fq (S : Sto) (q : Rat) : pyOf 39 S (fq q) = some (pqd q) := by simp [pyOf, pyOf.pyAll, fq, pqd]
theorem pyOf_sd (S : Sto) (s : St) : pyOf 39 S (sd s) = some (psd s) := by simp [pyOf, pyOf.pyAll, fq, pqd, sd, psd]
theorem pyOf_lst {xs : List D} {es : List PyData} (h : S[n]? = some (.lst xs)) (e : pyOf.pyAll (pyOf 39 S) xs = some es) : pyOf 40 S (.ob n) = some (.list es) := by
  show (match S[n]? with | some (.lst ds) => (pyOf.pyAll (pyOf 39 S) ds).map PyData.list | _ => none) = _
  rw [h]
  simp only [e, Option.map_some]
theorem oNe_fqs {qs : List Rat} (h1 : S[n]? = some (.lst (qs.map fq))) (h2 : S[m]? = some (.lst (qs.map fq))) : oNe (.ob n) (.ob m) S = .ok (.bl false) S := by
  have s := shaped_map pqd_lay pqd_dep qs
  have e : PyData.eqv (.list (qs.map pqd)) (.list (qs.map pqd)) = true := by simp [PyData.eqv, eqv_map pqd_eqv]
  simp only [oNe, oEqG, pyOf_lst h1 (pyAll_map (pyOf_fq S) qs), pyOf_lst h2 (pyAll_map (pyOf_fq S) qs), s, e]
  rfl
theorem oEqG_nil (neg : Bool) {ss : List St} (h1 : S[n]? = some (.lst (ss.map sd))) (h2 : S[m]? = some (.lst [])) : oEqG neg (.ob n) (.ob m) S = .ok (.bl (ss.isEmpty != neg)) S := by
  have s := shaped_map psd_lay psd_dep ss
  have s2 : SeqAt.shaped (.list []) = true := shaped_map psd_lay psd_dep []
  have e : PyData.eqv (.list (ss.map psd)) (.list []) = ss.isEmpty := by cases ss <;> simp [PyData.eqv, PyData.eqvAll]
  simp only [oEqG, pyOf_lst h1 (pyAll_map (pyOf_sd S) ss), pyOf_lst h2 (show pyOf.pyAll (pyOf 39 S) [] = some [] from rfl), s, s2, e]
  rfl
theorem oNe_nil {ss : List St} (h1 : S[n]? = some (.lst (ss.map sd))) (h2 : S[m]? = some (.lst [])) : oNe (.ob n) (.ob m) S = .ok (.bl (!ss.isEmpty)) S := by
  unfold oNe; rw [oEqG_nil true h1 h2]; simp
theorem oEq_nil {ss : List St} (h1 : S[n]? = some (.lst (ss.map sd))) (h2 : S[m]? = some (.lst [])) : oEq (.ob n) (.ob m) S = .ok (.bl ss.isEmpty) S := by
  unfold oEq; rw [oEqG_nil false h1 h2]; simp
end
theorem atI_mem {α : Type} {xs : List α} {d : Int} (h0 : 0 ≤ d) (h : d < xs.length) : ∃ v ∈ xs, atI xs d = some v := by
  obtain ⟨j, rfl⟩ : ∃ j : Nat, d = j := ⟨d.toNat, (Int.toNat_of_nonneg h0).symm⟩
  rw [atI_cast, List.getElem?_eq_getElem (by omega)]
  exact ⟨_, List.getElem_mem _, rfl⟩
section
variable {S : Sto} {ns : List Int} {k n : Nat} {x0 x1 x2 x3 x4 x5 x6 x7 : Option D}
theorem pow9 (S : Sto) : oPow (.int 10) (.int 9) S = .ok (.int 1000000000) S := oPow_int S (by decide)
theorem above_ok (h : Pen S ns k) (hk : k + 3 ≤ 1000000000000) : ∃ q S', F_l_above [.ob 2] S = .ok (fq q) S' ∧ 0 < q ∧ Bq 30 q ∧ Pen S' ns (k + 3) ∧ Fr S S' := by
  have hl := h.lt
  obtain ⟨d, S1, e1, a1, a2, p1, r1, _⟩ := draw_ok (m := 5) (h.app (e := [.lst [.int 6, .int 6, .int 12, .int 12, .int 999999999]])) (by omega) (by decide) (by decide)
  have l1 : S1[S.length]? = some (.lst [.int 6, .int 6, .int 12, .int 12, .int 999999999]) := r1.2 _ _ (by omega) at_end
  obtain ⟨v, hv, ev⟩ := atI_mem (xs := [D.int 6, .int 6, .int 12, .int 12, .int 999999999]) a1 (by simpa using a2)
  have hv2 : ∃ w : Int, v = .int w ∧ 1 ≤ w ∧ w ≤ 999999999 := by
    simp only [List.mem_cons, List.not_mem_nil, or_false] at hv
    rcases hv with rfl | rfl | rfl | rfl | rfl <;> exact ⟨_, rfl, by decide, by decide⟩
  obtain ⟨w, rfl, w1, w2⟩ := hv2
  obtain ⟨a, S2, e2, b1, b2, p2, r2, _⟩ := draw_ok (m := w) p1 (by omega) (by omega) (by omega)
  obtain ⟨b, S3, e3, c1, c2, p3, r3, _⟩ := draw_ok (m := w) p2 (by omega) (by omega) (by omega)
  have lw := l_low_ok S3 (a := 1 + a) (b := 1 + b) (by omega) (pow_mono (n := 30) (by omega) (by omega)) (pow_mono (n := 30) (by omega) (by omega))
  refine ⟨Rat.divInt (1 + a) (1 + b), S3, ?_, ?_, Bq_divInt (by omega) (by omega) (by omega), p3, ((Fr.app.trans r1).trans r2).trans r3⟩
  · unfold F_l_above b_l_above
    refine run_rt ?_
    rw [seq_nx (ρ' := [some (.ob 2), some (.int w)]) (S' := S1) (by simp [c_l_above_0, pow9, e1, oIx_ob l1, ev])]
    simp [c_l_above_1, e2, e3, lw]
  · rw [divInt_div]
    have h1 : (0 : Rat) < ((1 + a : Int) : Rat) := by
      have : ((0 : Int) : Rat) < ((1 + a : Int) : Rat) := by rw [clt]; omega
      exact this
    have h2 : (0 : Rat) < ((1 + b : Int) : Rat) := by
      have : ((0 : Int) : Rat) < ((1 + b : Int) : Rat) := by rw [clt]; omega
      exact this
    refine pos_of_mul h2 ?_
    have : ((1 + b : Int) : Rat) * (((1 + a : Int) : Rat) / ((1 + b : Int) : Rat)) = ((1 + a : Int) : Rat) := by grind
    rw [this]
    exact h1
theorem l_mulR {p : Rat} {c d : Int} {n m : Nat} (hp : Bq n p) (hc : c.natAbs < 2 ^ m) (hd : d.natAbs < 2 ^ m) (h0 : d ≠ 0) (h : n + m + 1 ≤ 13000) (S : Sto) : F_l_mul [fq p, .tup [.int c, .int d]] S = .ok (fq (p * ((c : Rat) / (d : Rat)))) S := by
  have g1 : mulOk p.num c = true := mulOk_of hp.1 hc (by omega)
  have g2 : mulOk (p.den : Int) d = true := mulOk_of (by rw [den_abs]; exact hp.2) hd (by omega)
  have h1 : (p.num * c).natAbs < 2 ^ (n + m) := mul_lt hp.1 hc
  have h2 : ((p.den : Int) * d).natAbs < 2 ^ (n + m) := mul_lt (by rw [den_abs]; exact hp.2) hd
  have e := l_low_ok S (Int.mul_ne_zero (den_ne p) h0) (pow_mono h1 (by omega)) (pow_mono h2 (by omega))
  rw [← Rat.divInt_mul_divInt, Rat.divInt_ofNat, Rat.mkRat_self, divInt_div] at e
  unfold F_l_mul b_l_mul
  refine run_rt ?_
  simp only [fq] at e ⊢
  simp [c_l_mul_0, oMul_int, g1, g2, e]
theorem l_goes_on_ok {s t : St} (hs : Sok s) (ht : Sok t) (S : Sto) : F_l_goes_on [sd s, sd t] S = .ok (.bl (decide (s.l = t.f ∧ rise s = rise t))) S := by
  have i0 : ∀ (s : St) S, oIx (sd s) (.int 0) S = .ok (.int s.m) S := fun s S => rfl
  have i1 : ∀ (s : St) S, oIx (sd s) (.int 1) S = .ok (fq s.f) S := fun s S => rfl
  have i2 : ∀ (s : St) S, oIx (sd s) (.int 2) S = .ok (fq s.l) S := fun s S => rfl
  have a1 := fun S => l_sub_ok hs.bl hs.bf (by decide) S
  have a2 := fun S => l_sub_ok ht.bl ht.bf (by decide) S
  have b1 := fun S => l_mulR (Bq_sub hs.bl hs.bf) (c := 1) (d := s.m) (m := 18) (by decide) (by have := hs.m1; have := hs.m2; omega) (by have := hs.m1; omega) (by decide) S
  have b2 := fun S => l_mulR (Bq_sub ht.bl ht.bf) (c := 1) (d := t.m) (m := 18) (by decide) (by have := ht.m1; have := ht.m2; omega) (by have := ht.m1; omega) (by decide) S
  have c1 : ∀ s : St, (s.l - s.f) * (((1 : Int) : Rat) / (s.m : Rat)) = rise s := fun s => by unfold rise; grind
  simp only [c1] at b1 b2
  unfold F_l_goes_on b_l_goes_on
  refine run_rt ?_
  rw [seq_nx (ρ' := [some (sd s), some (sd t), some (fq (rise s))]) (S' := S) (by simp [c_l_goes_on_0, i0, i1, i2, a1, b1])]
  by_cases hl : s.l = t.f
  · simp [c_l_goes_on_1, i0, i1, i2, a2, b2, oEq_fq, hl]
  · simp [c_l_goes_on_1, i1, i2, oEq_fq, hl]
end
end Fx
set_option Elab.async false
set_option linter.all false
set_option maxRecDepth 100000
/-! the law's tempo of some stretches -/
namespace Fx
open PySem L2 DL
def Adj (ss : List St) : Prop := ∀ (i : Nat) (h : i + 1 < ss.length), ¬ (ss[i].l = ss[i + 1].f ∧ rise ss[i] = rise ss[i + 1])
theorem Adj.nil : Adj [] := fun i h => by simp at h
theorem Adj.snoc {ss : List St} {t : St} (h : Adj ss) (hl : ∀ h : ss ≠ [], ¬ ((ss.getLast h).l = t.f ∧ rise (ss.getLast h) = rise t)) : Adj (ss ++ [t]) := by
  intro i hi
  rw [List.length_append, List.length_singleton] at hi
  by_cases h1 : i + 1 < ss.length
  · have := h i h1
    rw [List.getElem_append_left (by omega), List.getElem_append_left h1]
    exact this
  · have hi2 : i + 1 = ss.length := by omega
    have hne : ss ≠ [] := fun e => by rw [e] at hi2; simp at hi2
    have := hl hne
    rw [List.getElem_append_left (by omega), List.getElem_append_right (by omega)]
    rw [List.getLast_eq_getElem] at this
    have e1 : ss.length - 1 = i := by omega
    simp only [e1] at this
    simp only [hi2, Nat.sub_self, List.getElem_cons_zero]
    exact this
theorem Adj.drop {ss : List St} (h : Adj ss) : Adj ss.dropLast := by
  intro i hi
  rw [List.length_dropLast] at hi
  rw [List.getElem_dropLast, List.getElem_dropLast]
  exact h i (by omega)
theorem at_last {ss : List St} (he : ss ≠ []) : atI (ss.map sd) (-1) = some (sd (ss.getLast he)) := by
  have hp : 0 < ss.length := List.length_pos_iff.mpr he
  unfold atI ixN
  rw [List.length_map, if_neg (by decide), if_pos (by omega)]
  rw [show (-1 + (ss.length : Int)).toNat = ss.length - 1 by omega]
  simp only [Option.bind_some, List.getElem?_map, List.getLast_eq_getElem]
  rw [List.getElem?_eq_getElem (by omega)]; rfl
/-- as the law's own drawing makes them -/
structure Gs (ss : List St) : Prop where
  all : ∀ s ∈ ss, Sok s ∧ s.m ≤ 9000
  adj : Adj ss
section
variable {S : Sto} {ns : List Int} {k n : Nat} {ss : List St} {R : Rat} {x0 x1 x2 x3 x4 x5 x6 x7 : Option D}
theorem t20 (h : Pen S ns k) (hk : k + 3 ≤ 1000000000000) : ∃ q S', c_l_tempo_2_0 [some (.ob 2), x1, x2, x3, x4, x5, x6, x7] S = .nx [some (.ob 2), x1, x2, x3, x4, some (fq q), x6, x7] S' ∧ 0 < q ∧ Bq 40 q ∧ Pen S' ns (k + 3) ∧ Fr S S' := by
  obtain ⟨q, S', e, q0, b, p, r⟩ := above_ok h hk
  exact ⟨q, S', by simp [c_l_tempo_2_0, e], q0, b.mono (by decide), p, r⟩
theorem t21 {q : Rat} (h : Pen S ns k) (hk : k + 1 ≤ 1000000000000) (hl : S[n]? = some (.lst (ss.map sd))) (g : Gs ss) (q0 : 0 < q) (bq : Bq 40 q) : ∃ q' S', c_l_tempo_2_1 [some (.ob 2), x1, x2, some (.ob n), x4, some (fq q), x6, x7] S = .nx [some (.ob 2), x1, x2, some (.ob n), x4, some (fq q'), x6, x7] S' ∧ 0 < q' ∧ Bq 40 q' ∧ Pen S' ns (k + 1) ∧ Fr S S' := by
  have hne := h.lt
  have o1 := oNe_nil (S := S ++ [.lst []]) (at_app hl) at_end
  by_cases he : ss = []
  · have ie : ss.isEmpty = true := by simpa using he
    rw [ie] at o1
    exact ⟨q, S ++ [.lst []], by simp [c_l_tempo_2_1, o1], q0, bq, h.app.mono (by omega), Fr.app⟩
  · have ie : ss.isEmpty = false := by simpa using he
    rw [ie] at o1
    obtain ⟨d, S1, e1, a1, a2, p1, r1, _⟩ := draw_ok (m := 2) (h.app (e := [.lst []])) (by omega) (by decide) (by decide)
    have hn : n ≠ 2 ∨ n = 2 := by omega
    have s1 := (g.all _ (List.getLast_mem he)).1
    by_cases hd : d = 0
    · rcases hn with hn | hn
      · have l1 := r1.2 _ _ hn (at_app hl)
        have i2 : ∀ (s : St) S, oIx (sd s) (.int 2) S = .ok (fq s.l) S := fun s S => rfl
        exact ⟨(ss.getLast he).l, S1, by simp [c_l_tempo_2_1, o1, e1, hd, oIx_ob l1, at_last he, i2], s1.l0, s1.bl, p1, Fr.app.trans r1⟩
      · subst hn
        obtain ⟨a, r, h1, _⟩ := h
        rw [h1] at hl
        have hl2 := Option.some.inj hl
        have hl3 : [D.ob 1, .int a, .int r] = ss.map sd := by injection hl2
        match ss, hl3 with
        | s :: _, hl3 =>
          have := (List.cons.inj hl3).1
          exact absurd this (by simp [sd])
    · exact ⟨q, S1, by simp [c_l_tempo_2_1, o1, e1, hd], q0, bq, p1, Fr.app.trans r1⟩
theorem t22 {q : Rat} (h : Pen S ns k) (hk : k + 4 ≤ 1000000000000) (q0 : 0 < q) (bq : Bq 40 q) (R0 : 0 < R) (bR : Bq 40 R) : ∃ q' S', c_l_tempo_2_2 [some (.ob 2), x1, some (fq R), x3, x4, some (fq q), x6, x7] S = .nx [some (.ob 2), x1, some (fq R), x3, x4, some (fq q), some (fq q'), x7] S' ∧ 0 < q' ∧ Bq 40 q' ∧ Pen S' ns (k + 4) ∧ Fr S S' := by
  obtain ⟨u, S1, e1, u0, bu, p1, r1⟩ := above_ok h (by omega)
  have h1 := p1.lt
  obtain ⟨d, S2, e2, a1, a2, p2, r2, _⟩ := draw_ok (m := 3) (p1.app (e := [.lst [fq q, fq u, fq R]])) (by omega) (by decide) (by decide)
  have l1 : S2[S1.length]? = some (.lst [fq q, fq u, fq R]) := r2.2 _ _ (by omega) at_end
  obtain ⟨v, hv, ev⟩ := atI_mem (xs := [fq q, fq u, fq R]) a1 (by simpa using a2)
  have hv2 : ∃ w : Rat, v = fq w ∧ 0 < w ∧ Bq 40 w := by
    simp only [List.mem_cons, List.not_mem_nil, or_false] at hv
    rcases hv with rfl | rfl | rfl
    · exact ⟨_, rfl, q0, bq⟩
    · exact ⟨_, rfl, u0, bu.mono (by decide)⟩
    · exact ⟨_, rfl, R0, bR⟩
  obtain ⟨w, rfl, w0, bw⟩ := hv2
  exact ⟨w, S2, by simp [c_l_tempo_2_2, e1, e2, oIx_ob l1, ev], w0, bw, p2, (r1.trans Fr.app).trans r2⟩
theorem t23 {f l : Rat} (h : Pen S ns k) (hk : k + 2 ≤ 1000000000000) (f0 : 0 < f) (bf : Bq 40 f) (l0 : 0 < l) (bl : Bq 40 l) : ∃ (s : St) (S' : Sto), c_l_tempo_2_3 [some (.ob 2), x1, x2, x3, x4, some (fq f), some (fq l), x7] S = .nx [some (.ob 2), x1, x2, x3, x4, some (fq f), some (fq l), some (sd s)] S' ∧ Sok s ∧ s.m ≤ 9000 ∧ Pen S' ns (k + 2) ∧ Fr S S' := by
  have h1 := h.lt
  obtain ⟨d, S2, e2, a1, a2, p2, r2, _⟩ := draw_ok (m := 3) (h.app (e := [.lst [.int 12, .int 12, .int 9000]])) (by omega) (by decide) (by decide)
  have l1 : S2[S.length]? = some (.lst [.int 12, .int 12, .int 9000]) := r2.2 _ _ (by omega) at_end
  obtain ⟨v, hv, ev⟩ := atI_mem (xs := [D.int 12, .int 12, .int 9000]) a1 (by simpa using a2)
  have hv2 : ∃ w : Int, v = .int w ∧ 1 ≤ w ∧ w ≤ 9000 := by
    simp only [List.mem_cons, List.not_mem_nil, or_false] at hv
    rcases hv with rfl | rfl | rfl <;> exact ⟨_, rfl, by decide, by decide⟩
  obtain ⟨w, rfl, w1, w2⟩ := hv2
  obtain ⟨u, S3, e3, b1, b2, p3, r3, _⟩ := draw_ok (m := w) p2 (by omega) (by omega) (by omega)
  exact ⟨⟨1 + u, f, l⟩, S3, by simp [c_l_tempo_2_3, e2, oIx_ob l1, ev, e3, sd], ⟨by show 1 ≤ 1 + u; omega, by show 1 + u ≤ 200000; omega, f0, l0, bf, bl⟩, by show 1 + u ≤ 9000; omega, p3, (Fr.app.trans r2).trans r3⟩
theorem Pen.setn {j : Nat} {o : O} (h : Pen S ns k) (hj : 2 < j) : Pen (S.set j o) ns k := by
  obtain ⟨a, r, h1, h2, h3⟩ := h
  exact ⟨a, r, by rw [List.getElem?_set_ne (by omega)]; exact h1, by rw [List.getElem?_set_ne (by omega)]; exact h2, h3⟩
theorem t24 {s : St} (h : Pen S ns k) (hn : 2 < n) (hl : S[n]? = some (.lst (ss.map sd))) (g : Gs ss) (hlen : ss.length ≤ 1000) (ok : Sok s) (m9 : s.m ≤ 9000) : ∃ (ss' : List St) (S' : Sto), c_l_tempo_2_4 [some (.ob 2), x1, x2, some (.ob n), x4, x5, x6, some (sd s)] S = .nx [some (.ob 2), x1, x2, some (.ob n), x4, x5, x6, some (sd s)] S' ∧ S'[n]? = some (.lst (ss'.map sd)) ∧ Gs ss' ∧ ss'.length ≤ ss.length + 1 ∧ Pen S' ns k := by
  have o1 := oEq_nil (S := S ++ [.lst []]) (at_app hl) at_end
  have hl2 := at_app (e := [.lst []]) hl
  have hlt := (List.getElem?_eq_some_iff.mp hl2).1
  have h1000 : ss.length ≤ 1000000 := by omega
  have app : (S ++ [O.lst []]).set n (.lst (ss.map sd ++ [sd s])) = (S ++ [O.lst []]).set n (.lst ((ss ++ [s]).map sd)) := by simp
  have snoc : (∀ h : ss ≠ [], ¬ ((ss.getLast h).l = s.f ∧ rise (ss.getLast h) = rise s)) → Gs (ss ++ [s]) := fun hh => ⟨fun t ht => by
    rcases List.mem_append.mp ht with h | h
    · exact g.all _ h
    · rw [List.mem_singleton.mp h]; exact ⟨ok, m9⟩, g.adj.snoc hh⟩
  by_cases he : ss = []
  · have ie : ss.isEmpty = true := by simpa using he
    rw [ie] at o1
    refine ⟨ss ++ [s], _, ?_, by rw [List.getElem?_set_self hlt], snoc (fun hne => absurd he hne), by simp, Pen.setn h.app hn⟩
    rw [← app]
    simp [c_l_tempo_2_4, o1, eApp, hl2, h1000]
  · have ie : ss.isEmpty = false := by simpa using he
    rw [ie] at o1
    have go := fun S => l_goes_on_ok (g.all _ (List.getLast_mem he)).1 ok S
    by_cases hg : (ss.getLast he).l = s.f ∧ rise (ss.getLast he) = rise s
    · exact ⟨ss, S ++ [.lst []], by simp [c_l_tempo_2_4, o1, oIx_ob hl2, at_last he, go, hg], hl2, g, by omega, h.app⟩
    · refine ⟨ss ++ [s], _, ?_, by rw [List.getElem?_set_self hlt], snoc (fun hne => hg), by simp, Pen.setn h.app hn⟩
      rw [← app]
      simp [c_l_tempo_2_4, o1, oIx_ob hl2, at_last he, go, hg, eApp, hl2, h1000]
theorem t2turn (h : Pen S ns k) (hk : k + 12 ≤ 1000000000000) (hn : 2 < n) (hl : S[n]? = some (.lst (ss.map sd))) (g : Gs ss) (hlen : ss.length ≤ 1000) (R0 : 0 < R) (bR : Bq 40 R) :
    ∃ (y5 y6 y7 : Option D) (ss' : List St) (S' : Sto), (sSeq c_l_tempo_2_0 (sSeq c_l_tempo_2_1 (sSeq c_l_tempo_2_2 (sSeq c_l_tempo_2_3 c_l_tempo_2_4)))) [some (.ob 2), x1, some (fq R), some (.ob n), x4, x5, x6, x7] S = .nx [some (.ob 2), x1, some (fq R), some (.ob n), x4, y5, y6, y7] S' ∧ S'[n]? = some (.lst (ss'.map sd)) ∧ Gs ss' ∧ ss'.length ≤ ss.length + 1 ∧ Pen S' ns (k + 12) := by
  obtain ⟨q, S1, e1, q0, bq, p1, r1⟩ := t20 (x1 := x1) (x2 := some (fq R)) (x3 := some (.ob n)) (x4 := x4) (x5 := x5) (x6 := x6) (x7 := x7) h (by omega)
  have l1 := r1.2 _ _ (by omega) hl
  obtain ⟨f, S2, e2, f0, bf, p2, r2⟩ := t21 (x1 := x1) (x2 := some (fq R)) (x4 := x4) (x6 := x6) (x7 := x7) p1 (by omega) l1 g q0 bq
  have l2 := r2.2 _ _ (by omega) l1
  obtain ⟨l, S3, e3, l0, bl, p3, r3⟩ := t22 (x1 := x1) (x3 := some (.ob n)) (x4 := x4) (x6 := x6) (x7 := x7) p2 (by omega) f0 bf R0 bR
  have l3 := r3.2 _ _ (by omega) l2
  obtain ⟨s, S4, e4, ok, m9, p4, r4⟩ := t23 (x1 := x1) (x2 := some (fq R)) (x3 := some (.ob n)) (x4 := x4) (x7 := x7) p3 (by omega) f0 bf l0 bl
  have l4 := r4.2 _ _ (by omega) l3
  obtain ⟨ss', S5, e5, l5, g5, n5, p5⟩ := t24 (x1 := x1) (x2 := some (fq R)) (x4 := x4) (x5 := some (fq f)) (x6 := some (fq l)) p4 hn l4 g hlen ok m9
  exact ⟨_, _, _, ss', S5, (seq_nx e1 _).trans ((seq_nx e2 _).trans ((seq_nx e3 _).trans ((seq_nx e4 _).trans e5))), l5, g5, n5, p5.mono (by omega)⟩
end
end Fx
set_option Elab.async false
set_option linter.all false
set_option maxRecDepth 100000
/-! the law's tempos, whole -/
namespace Fx
open PySem L2 DL
theorem Bq_addi {f : Rat} {i : Int} (hf : Bq 30 f) (h0 : 0 ≤ i) (h1 : i ≤ 1000) : Bq 40 (f + (i : Rat)) := by
  have e : f + (i : Rat) = Rat.divInt (f.num + i * (f.den : Int)) (f.den : Int) := by
    rw [divInt_div]
    have q1 := num_den f
    have q2 := den_pos f
    simp only [Rat.intCast_add, Rat.intCast_mul]
    rw [← q1]
    grind
  rw [e]
  have t2 : i.natAbs * f.den ≤ 1000 * 2 ^ 30 := Nat.mul_le_mul (by omega) (Nat.le_of_lt hf.2)
  have t1 : (i * (f.den : Int)).natAbs ≤ 1000 * 2 ^ 30 := by rw [Int.natAbs_mul, den_abs]; exact t2
  exact Bq_divInt (den_ne f) (by have := hf.1; omega) (by rw [den_abs]; have := hf.2; omega)
theorem sum_le {ss : List St} {c : Int} (h : ∀ s ∈ ss, s.m ≤ c) : (ss.map St.m).sum ≤ c * ss.length := by
  induction ss with
  | nil => simp
  | cons s ss ih =>
    have h1 := h s (by simp)
    have h2 := ih (fun t ht => h t (by simp [ht]))
    rw [List.map_cons, List.sum_cons, List.length_cons]
    have e : c * ((ss.length + 1 : Nat) : Int) = c * ss.length + c := by
      rw [Int.natCast_add, Int.mul_add]; simp
    omega
section
variable {S : Sto} {ns : List Int} {k n : Nat} {ss : List St} {R : Rat} {x0 x1 x2 x3 x4 x5 x6 x7 : Option D}
theorem t3loop (hn : 2 < n) : ∀ (fuel : Nat) (ss : List St) (S : Sto), ss.length ≤ fuel → S[n]? = some (.lst (ss.map sd)) → Gs ss → Pen S ns k →
    ∃ (ss' : List St) (S' : Sto), whGo (bAnd (tTru (eOp oNe (eVar 3) (eLst aNil))) (tTru (eOp oEq (eSl (eOp oIx (eVar 3) (eNeg (eC (.int 1)))) (pAt (eC (.int 1))) pNo) (eTup (aCons (eVar 2) (aCons (eVar 2) aNil)))))) c_l_tempo_3_0 fuel [x0, x1, some (fq R), some (.ob n), x4, x5, x6, x7] S = .nx [x0, x1, some (fq R), some (.ob n), x4, x5, x6, x7] S' ∧ S'[n]? = some (.lst (ss'.map sd)) ∧ Gs ss' ∧ ss'.length ≤ ss.length ∧ (∀ h : ss' ≠ [], ¬ ((ss'.getLast h).f = R ∧ (ss'.getLast h).l = R)) ∧ Pen S' ns k := by
  intro fuel
  induction fuel with
  | zero =>
    intro ss S hf hl g p
    have he : ss = [] := List.length_eq_zero_iff.mp (by omega)
    have o1 := oNe_nil (S := S ++ [.lst []]) (at_app hl) at_end
    have ie : ss.isEmpty = true := by simpa using he
    rw [ie] at o1
    exact ⟨ss, S ++ [.lst []], by unfold whGo; simp [o1], at_app hl, g, Nat.le_refl _, fun h => absurd he h, p.app⟩
  | succ fuel ih =>
    intro ss S hf hl g p
    have o1 := oNe_nil (S := S ++ [.lst []]) (at_app hl) at_end
    have hl2 := at_app (e := [.lst []]) hl
    have hlt := (List.getElem?_eq_some_iff.mp hl2).1
    by_cases he : ss = []
    · have ie : ss.isEmpty = true := by simpa using he
      rw [ie] at o1
      exact ⟨ss, S ++ [.lst []], by unfold whGo; simp [o1], hl2, g, Nat.le_refl _, fun h => absurd he h, p.app⟩
    · have ie : ss.isEmpty = false := by simpa using he
      rw [ie] at o1
      have c1 : ∀ S, oSl (sd (ss.getLast he)) (some 1) none S = .ok (.tup [fq (ss.getLast he).f, fq (ss.getLast he).l]) S := fun S => rfl
      by_cases hr : (ss.getLast he).f = R ∧ (ss.getLast he).l = R
      · have e0 : c_l_tempo_3_0 [x0, x1, some (fq R), some (.ob n), x4, x5, x6, x7] (S ++ [.lst []]) = .nx [x0, x1, some (fq R), some (.ob n), x4, x5, x6, x7] ((S ++ [O.lst []]).set n (.lst (ss.dropLast.map sd))) := by
          have hp : 0 < ss.length := List.length_pos_iff.mpr he
          have i1 : (ss.map sd)[(ss.map sd).length - 1]? = some (sd ss[ss.length - 1]) := by
            rw [List.length_map, List.getElem?_map, List.getElem?_eq_getElem (by omega)]; rfl
          simp only [c_l_tempo_3_0, sExpr_eq, ePop, eVar_s, eVar_0, bind_ok, hl2, i1, sb_ok, List.map_dropLast]
        obtain ⟨ss', S', e1, l1, g1, n1, la, p1⟩ := ih ss.dropLast ((S ++ [O.lst []]).set n (.lst (ss.dropLast.map sd))) (by rw [List.length_dropLast]; omega) (by rw [List.getElem?_set_self hlt]) ⟨fun s hs => g.all s ((List.dropLast_sublist ss).subset hs), g.adj.drop⟩ (Pen.setn p.app hn)
        refine ⟨ss', S', ?_, l1, g1, by rw [List.length_dropLast] at n1; omega, la, p1⟩
        rw [List.map_dropLast] at e0 e1
        unfold whGo
        simp [o1, oIx_ob hl2, at_last he, c1, oEq_pair, hr, e0, e1]
      · refine ⟨ss, S ++ [.lst []], ?_, hl2, g, Nat.le_refl _, fun _ => hr, p.app⟩
        unfold whGo
        simp [o1, oIx_ob hl2, at_last he, c1, oEq_pair, hr]
theorem tempo_ok30 {most : Int} (h : Pen S ns k) (hk : k + 300 ≤ 1000000000000) (m0 : 0 ≤ most) (m1 : most ≤ 5) : ∃ ss R S', F_l_tempo [.ob 2, .int most] S = .ok (td ss R) S' ∧ Tok ss R ∧ Pen S' ns (k + 300) ∧ Bq 30 R := by
  have hl := h.lt
  obtain ⟨R, S1, e1, R0, bR, p1, r1⟩ := above_ok h (by omega)
  have hl1 := p1.lt
  have bR4 : Bq 40 R := bR.mono (by decide)
  obtain ⟨j, S2, e2, a1, a2, p2, r2, _⟩ := draw_ok (m := most + 1) (p1.app (e := [.lst []])) (by omega) (by omega) (by omega)
  obtain ⟨j, rfl⟩ : ∃ m : Nat, j = m := ⟨j.toNat, (Int.toNat_of_nonneg a1).symm⟩
  have main := for_rngG (n := j) (j := 4) (a := aCons (eCall F_l_draw (aCons (eVar 0) (aCons (eOp oAdd (eVar 1) (eC (.int 1))) aNil))) aNil) (b := sSeq c_l_tempo_2_0 (sSeq c_l_tempo_2_1 (sSeq c_l_tempo_2_2 (sSeq c_l_tempo_2_3 c_l_tempo_2_4)))) (ρ := [some (.ob 2), some (.int most), some (fq R), some (.ob S1.length), none, none, none, none]) (S := S1 ++ [.lst []]) (S1 := S2)
    (fun i ρ S' => ∃ (y4 y5 y6 y7 : Option D) (ss : List St), ρ = [some (.ob 2), some (.int most), some (fq R), some (.ob S1.length), y4, y5, y6, y7] ∧ S'[S1.length]? = some (.lst (ss.map sd)) ∧ Gs ss ∧ ss.length ≤ i ∧ Pen S' ns (k + 4 + 12 * i)) (by omega) (by simp [e2])
    ⟨_, _, _, _, [], rfl, r2.2 _ _ (by omega) at_end, ⟨fun s hs => by simp at hs, Adj.nil⟩, by simp, p2⟩ (by
      rintro i hi ρ S' ⟨y4, y5, y6, y7, ss, rfl, l, g, hn, p⟩
      obtain ⟨z5, z6, z7, ss', S'', e3, l3, g3, n3, p3⟩ := t2turn (x1 := some (.int most)) (x4 := some (.int i)) (x5 := y5) (x6 := y6) (x7 := y7) p (by omega) hl1 l g (by omega) R0 bR4
      exact ⟨_, S'', e3, _, _, _, _, ss', rfl, l3, g3, by omega, p3⟩)
  obtain ⟨ρ', S3, e3, y4, y5, y6, y7, ss, rfl, l3, g3, n3, p3⟩ := main
  obtain ⟨ss', S4, e4, l4, g4, n4, la, p4⟩ := t3loop (x0 := some (.ob 2)) (x1 := some (.int most)) (R := R) (x4 := y4) (x5 := y5) (x6 := y6) (x7 := y7) hl1 1000 ss S3 (by omega) l3 g3 p3
  have hs := sum_le (fun s hs => (g4.all s hs).2)
  refine ⟨ss', R, S4, ?_, ⟨by omega, fun s hs => (g4.all s hs).1, R0, bR4, by omega, g4.adj, la⟩, p4.mono (by omega), bR⟩
  unfold F_l_tempo b_l_tempo
  refine run_rt ?_
  show sSeq _ _ [some (.ob 2), some (.int most), none, none, none, none, none, none] S = _
  rw [seq_nx (ρ' := [some (.ob 2), some (.int most), some (fq R), none, none, none, none, none]) (S' := S1) (by simp [c_l_tempo_0, e1])]
  rw [seq_nx (ρ' := [some (.ob 2), some (.int most), some (fq R), some (.ob S1.length), none, none, none, none]) (S' := S1 ++ [.lst []]) (by simp [c_l_tempo_1])]
  rw [seq_nx (show c_l_tempo_2 [some (.ob 2), some (.int most), some (fq R), some (.ob S1.length), none, none, none, none] (S1 ++ [.lst []]) = _ from e3)]
  rw [seq_nx (show c_l_tempo_3 [some (.ob 2), some (.int most), some (fq R), some (.ob S1.length), y4, y5, y6, y7] S3 = _ from e4)]
  simp [c_l_tempo_4, cTuple, l4, td]
theorem tempo_ok {most : Int} (h : Pen S ns k) (hk : k + 300 ≤ 1000000000000) (m0 : 0 ≤ most) (m1 : most ≤ 5) : ∃ ss R S', F_l_tempo [.ob 2, .int most] S = .ok (td ss R) S' ∧ Tok ss R ∧ Pen S' ns (k + 300) := by
  obtain ⟨ss, R, S', a, b, c, _⟩ := tempo_ok30 h hk m0 m1
  exact ⟨ss, R, S', a, b, c⟩
theorem far_ok17 (h : Pen S ns k) (hk : k + 300 ≤ 1000000000000) : ∃ ss R S', F_l_far [.ob 2] S = .ok (td ss R) S' ∧ Tok ss R ∧ Pen S' ns (k + 300) ∧ 17 ≤ (ss.map St.m).sum := by
  obtain ⟨R, S1, e1, R0, bR, p1, r1⟩ := above_ok h (by omega)
  obtain ⟨f, S2, e2, f0, bf, p2, r2⟩ := above_ok p1 (by omega)
  obtain ⟨u, S3, e3, u0, u1, p3, r3, _⟩ := draw_ok (m := 150000) p2 (by omega) (by decide) (by decide)
  have l3 := p3.lt
  obtain ⟨d, S4, e4, d0, d1, p4, r4, _⟩ := draw_ok (m := 2) (p3.app (e := [.lst [.int 0, .int u]])) (by omega) (by decide) (by decide)
  have l4 : S4[S3.length]? = some (.lst [.int 0, .int u]) := r4.2 _ _ (by omega) at_end
  obtain ⟨v, hv, ev⟩ := atI_mem (xs := [D.int 0, .int u]) d0 (by simpa using d1)
  have hv2 : ∃ w : Int, v = .int w ∧ 0 ≤ w ∧ w < 150000 := by
    simp only [List.mem_cons, List.not_mem_nil, or_false] at hv
    rcases hv with rfl | rfl
    · exact ⟨_, rfl, by decide, by decide⟩
    · exact ⟨_, rfl, u0, u1⟩
  obtain ⟨w, rfl, w0, w1⟩ := hv2
  have l4b := p4.lt
  obtain ⟨d', S5, e5, d0', d1', p5, r5, _⟩ := draw_ok (m := 2) (p4.app (e := [.lst [.int 9, .int 899]])) (by omega) (by decide) (by decide)
  have l5 : S5[S4.length]? = some (.lst [.int 9, .int 899]) := r5.2 _ _ (by omega) at_end
  obtain ⟨v', hv', ev'⟩ := atI_mem (xs := [D.int 9, .int 899]) d0' (by simpa using d1')
  have hv3 : ∃ w : Int, v' = .int w ∧ 1 ≤ w ∧ w ≤ 899 := by
    simp only [List.mem_cons, List.not_mem_nil, or_false] at hv'
    rcases hv' with rfl | rfl <;> exact ⟨_, rfl, by decide, by decide⟩
  obtain ⟨w', rfl, w0', w1'⟩ := hv3
  obtain ⟨g, S6, e6, g0, g1, p6, r6, _⟩ := draw_ok (m := w') p5 (by omega) (by omega) (by omega)
  obtain ⟨c, S7, e7, c0, c1, p7, r7, _⟩ := draw_ok (m := 2) p6 (by omega) (by decide) (by decide)
  have bg : Bq 10 ((1 + g : Int) : Rat) := Bq_cast (by omega) (by decide)
  have gp : (0 : Rat) < ((1 + g : Int) : Rat) := by
    have : ((0 : Int) : Rat) < ((1 + g : Int) : Rat) := by rw [clt]; omega
    exact this
  have l_last := fun S => l_add_ok bf bg (by decide) S
  rw [fq_int] at l_last
  have blp : Bq 40 (f + ((1 + g : Int) : Rat)) := Bq_addi bf (by omega) (by omega)
  have f4 := bf.mono (m := 40) (by decide)
  have R4 := bR.mono (m := 40) (by decide)
  have m5 : 1 ≤ 200000 - w := by omega
  have pre : ∀ R', (sSeq c_l_far_3 (sSeq c_l_far_4 c_l_far_5)) [some (.ob 2), some (fq R), some (fq f), some (.int (200000 - w)), some (fq (f + ((1 + g : Int) : Rat))), none] S6 = R' → b_l_far [some (.ob 2), none, none, none, none, none] S = R' := by
    intro R' hR
    unfold b_l_far
    rw [seq_nx (ρ' := [some (.ob 2), some (fq R), some (fq f), none, none, none]) (S' := S2) (by simp [c_l_far_0, e1, e2])]
    rw [seq_nx (ρ' := [some (.ob 2), some (fq R), some (fq f), some (.int (200000 - w)), none, none]) (S' := S4) (by simp [c_l_far_1, e3, e4, oIx_ob l4, ev])]
    rw [seq_nx (ρ' := [some (.ob 2), some (fq R), some (fq f), some (.int (200000 - w)), some (fq (f + ((1 + g : Int) : Rat))), none]) (S' := S6) (by simp [c_l_far_2, e5, e6, oIx_ob l5, ev', l_last, -Rat.intCast_add])]
    exact hR
  by_cases hc : c = 0
  · refine ⟨[⟨200000 - w, f, f + ((1 + g : Int) : Rat)⟩], R, S7, run_rt (pre _ ?_), ⟨by simp, ?_, R0, R4, by simp; omega, fun i hi => by simp at hi, ?_⟩, p7.mono (by omega), by simp; omega⟩
    · exact seq_rt (by simp [c_l_far_3, e7, hc, td, sd]) _
    · intro s hs
      rw [List.mem_singleton.mp hs]
      exact ⟨m5, by show 200000 - w ≤ 200000; omega, f0, by show 0 < f + _; grind, f4, blp⟩
    · intro _ hh
      simp only [List.getLast_singleton] at hh
      grind
  · obtain ⟨a, S8, e8, a0, a1, p8, r8, _⟩ := draw_ok (m := 200000 - w - 1) p7 (by omega) (by omega) (by omega)
    have l_up := fun S => l_add_ok blp Bq_one (by decide) S
    rw [fq_one] at l_up
    have eg : f + ((1 + g : Int) : Rat) + 1 = f + ((2 + g : Int) : Rat) := by grind
    have bup : Bq 40 (f + ((1 + g : Int) : Rat) + 1) := by rw [eg]; exact Bq_addi bf (by omega) (by omega)
    refine ⟨[⟨1 + a, f, f + ((1 + g : Int) : Rat)⟩, ⟨200000 - w - (1 + a), f + ((1 + g : Int) : Rat) + 1, f⟩], R, S8, run_rt (pre _ ?_), ⟨by simp, ?_, R0, R4, by simp; omega, ?_, ?_⟩, p8.mono (by omega), by simp; omega⟩
    · rw [seq_nx (ρ' := [some (.ob 2), some (fq R), some (fq f), some (.int (200000 - w)), some (fq (f + ((1 + g : Int) : Rat))), none]) (S' := S7) (by simp [c_l_far_3, e7, hc])]
      rw [seq_nx (ρ' := [some (.ob 2), some (fq R), some (fq f), some (.int (200000 - w)), some (fq (f + ((1 + g : Int) : Rat))), some (.int (1 + a))]) (S' := S8) (by simp [c_l_far_4, e8])]
      simp [c_l_far_5, l_up, td, sd, -Rat.intCast_add]
    · intro s hs
      simp only [List.mem_cons, List.not_mem_nil, or_false] at hs
      rcases hs with rfl | rfl
      · exact ⟨by show 1 ≤ 1 + a; omega, by show 1 + a ≤ 200000; omega, f0, by show 0 < f + _; grind, f4, blp⟩
      · exact ⟨by show 1 ≤ 200000 - w - (1 + a); omega, by show 200000 - w - (1 + a) ≤ 200000; omega, by show 0 < f + _ + 1; grind, f0, bup, f4⟩
    · intro i hi hh
      have : i = 0 := by simp at hi; omega
      subst this
      simp only [List.getElem_cons_zero, List.getElem_cons_succ] at hh
      grind
    · intro _ hh
      simp only [List.getLast_cons_cons, List.getLast_singleton] at hh
      grind
theorem far_ok (h : Pen S ns k) (hk : k + 300 ≤ 1000000000000) : ∃ ss R S', F_l_far [.ob 2] S = .ok (td ss R) S' ∧ Tok ss R ∧ Pen S' ns (k + 300) := by
  obtain ⟨ss, R, S', a, b, c, _⟩ := far_ok17 h hk
  exact ⟨ss, R, S', a, b, c⟩
end
end Fx
set_option Elab.async false
set_option linter.all false
set_option maxRecDepth 100000
/-! the law's wide tempo, its places -/
namespace Fx
open PySem L2 DL
section
variable {S : Sto} {ns : List Int} {k n : Nat} {ss : List St} {R q : Rat} {x0 x1 x2 x3 x4 x5 x6 x7 : Option D}
/-- the j-th stretch of a wide one -/
def Wd (q : Rat) (ss : List St) : Prop := ∀ (i : Nat) (h : i < ss.length), 1 ≤ ss[i].m ∧ ss[i].m ≤ 8000 ∧ ss[i].f = q + ((i : Int) : Rat) ∧ ss[i].l = q + (((i : Int) + 2 : Int) : Rat)
theorem w10 {i : Int} (h : Pen S ns k) (hk : k + 2 ≤ 1000000000000) : ∃ (m : Int) (S' : Sto), c_l_wide_1_0 [some (.ob 2), x1, x2, some (.int i), x4] S = .nx [some (.ob 2), x1, x2, some (.int i), some (.int m)] S' ∧ 1 ≤ m ∧ m ≤ 8000 ∧ Pen S' ns (k + 2) ∧ Fr S S' := by
  have h1 := h.lt
  obtain ⟨d, S2, e2, a1, a2, p2, r2, _⟩ := draw_ok (m := 2) (h.app (e := [.lst [.int 5, .int 8000]])) (by omega) (by decide) (by decide)
  have l1 : S2[S.length]? = some (.lst [.int 5, .int 8000]) := r2.2 _ _ (by omega) at_end
  obtain ⟨v, hv, ev⟩ := atI_mem (xs := [D.int 5, .int 8000]) a1 (by simpa using a2)
  have hv2 : ∃ w : Int, v = .int w ∧ 1 ≤ w ∧ w ≤ 8000 := by
    simp only [List.mem_cons, List.not_mem_nil, or_false] at hv
    rcases hv with rfl | rfl <;> exact ⟨_, rfl, by decide, by decide⟩
  obtain ⟨w, rfl, w1, w2⟩ := hv2
  obtain ⟨u, S3, e3, b1, b2, p3, r3, _⟩ := draw_ok (m := w) p2 (by omega) (by omega) (by omega)
  exact ⟨1 + u, S3, by simp [c_l_wide_1_0, e2, oIx_ob l1, ev, e3], by omega, by omega, p3, (Fr.app.trans r2).trans r3⟩
theorem w11 {i : Nat} {m : Int} (hi : i ≤ 900) (bq : Bq 30 q) (hl : S[n]? = some (.lst (ss.map sd))) (hlen : ss.length = i) : c_l_wide_1_1 [some (.ob 2), some (fq q), some (.ob n), some (.int i), some (.int m)] S = .nx [some (.ob 2), some (fq q), some (.ob n), some (.int i), some (.int m)] (S.set n (.lst ((ss ++ [St.mk m (q + ((i : Int) : Rat)) (q + (((i : Int) + 2 : Int) : Rat))]).map sd))) := by
  have b1 : Bq 10 (((i : Int)) : Rat) := Bq_cast (by omega) (by decide)
  have b2 : Bq 10 (((i : Int) + 2 : Int) : Rat) := Bq_cast (by omega) (by decide)
  have a1 := fun S => l_add_ok bq b1 (by decide) S
  have a2 := fun S => l_add_ok bq b2 (by decide) S
  rw [fq_int] at a1 a2
  have e1 := eApp_ok (a := eVar 2) (b := eTup (aCons (eVar 4) (aCons (eCall F_l_add (aCons (eVar 1) (aCons (eTup (aCons (eVar 3) (aCons (eC (.int 1)) aNil))) aNil))) (aCons (eCall F_l_add (aCons (eVar 1) (aCons (eTup (aCons (eOp oAdd (eVar 3) (eC (.int 2))) (aCons (eC (.int 1)) aNil))) aNil))) aNil))))
    (ρ := [some (.ob 2), some (fq q), some (.ob n), some (.int i), some (.int m)]) (S := S) (S1 := S) (S2 := S) (n := n) (xs := ss.map sd) (ys := ss.map sd) (d := sd (St.mk m (q + ((i : Int) : Rat)) (q + (((i : Int) + 2 : Int) : Rat)))) (by simp) hl (by simp [a1, a2, sd, -Rat.intCast_add]) hl (by rw [List.length_map]; omega)
  simp only [c_l_wide_1_1, sExpr_eq, e1, sb_ok, List.map_append, List.map_cons, List.map_nil]
theorem sum_ge {ss : List St} (h : ∀ s ∈ ss, 1 ≤ s.m) : (ss.length : Int) ≤ (ss.map St.m).sum := by
  induction ss with
  | nil => simp
  | cons s ss ih =>
    have h1 := h s (by simp)
    have h2 := ih (fun t ht => h t (by simp [ht]))
    rw [List.map_cons, List.sum_cons, List.length_cons]
    omega
theorem wide_ok17 (h : Pen S ns k) (hk : k + 300 ≤ 1000000000000) : ∃ ss R S', F_l_wide [.ob 2] S = .ok (td ss R) S' ∧ Tok ss R ∧ Pen S' ns (k + 300) ∧ 17 ≤ (ss.map St.m).sum := by
  obtain ⟨q, S1, e1, q0, bq, p1, r1⟩ := above_ok h (by omega)
  have hl1 := p1.lt
  obtain ⟨j, S2, e2, a1, a2, p2, r2, _⟩ := draw_ok (m := 8) (p1.app (e := [.lst []])) (by omega) (by omega) (by omega)
  obtain ⟨j, rfl⟩ : ∃ m : Nat, j = m := ⟨j.toNat, (Int.toNat_of_nonneg a1).symm⟩
  have main := for_rngG (n := 17 + j) (j := 3) (a := aCons (eOp oAdd (eC (.int 17)) (eCall F_l_draw (aCons (eVar 0) (aCons (eC (.int 8)) aNil)))) aNil) (b := sSeq c_l_wide_1_0 c_l_wide_1_1) (ρ := [some (.ob 2), some (fq q), some (.ob S1.length), none, none]) (S := S1 ++ [.lst []]) (S1 := S2)
    (fun i ρ S' => ∃ (y3 y4 : Option D) (ss : List St), ρ = [some (.ob 2), some (fq q), some (.ob S1.length), y3, y4] ∧ S'[S1.length]? = some (.lst (ss.map sd)) ∧ Wd q ss ∧ ss.length = i ∧ Pen S' ns (k + 4 + 2 * i)) (by omega) (by simp [e2])
    ⟨_, _, [], rfl, r2.2 _ _ (by omega) at_end, fun i h => by simp at h, rfl, p2⟩ (by
      rintro i hi ρ S' ⟨y3, y4, ss, rfl, l, g, hn, p⟩
      obtain ⟨m, S3, e3, m1, m2, p3, r3⟩ := w10 (x1 := some (fq q)) (x2 := some (.ob S1.length)) (i := (i : Int)) (x4 := y4) p (by omega)
      have l3 := r3.2 _ _ (by omega) l
      have e4 := w11 (m := m) (by omega) bq l3 hn
      have hlt := (List.getElem?_eq_some_iff.mp l3).1
      refine ⟨_, _, (seq_nx e3 _).trans e4, _, _, ss ++ [St.mk m (q + ((i : Int) : Rat)) (q + (((i : Int) + 2 : Int) : Rat))], rfl, by rw [List.getElem?_set_self hlt], ?_, by simp [hn], Pen.setn p3 hl1⟩
      intro u hu
      rw [List.length_append, List.length_singleton] at hu
      by_cases hh : u < ss.length
      · rw [List.getElem_append_left hh]; exact g u hh
      · have : u = i := by omega
        subst this
        rw [List.getElem_append_right (by omega)]
        simp only [hn, Nat.sub_self, List.getElem_cons_zero]
        refine ⟨m1, m2, ?_, ?_⟩ <;> trivial)
  obtain ⟨ρ', S3, e3, y3, y4, ss, rfl, l3, g3, n3, p3⟩ := main
  have all : ∀ s ∈ ss, Sok s ∧ s.m ≤ 8000 := by
    intro s hs
    obtain ⟨i, hi, rfl⟩ := List.getElem_of_mem hs
    obtain ⟨g1, g2, g4, g5⟩ := g3 i hi
    have ci : (0 : Rat) ≤ ((i : Int) : Rat) := by
      have : ((0 : Int) : Rat) ≤ ((i : Int) : Rat) := by rw [cle]; omega
      exact this
    exact ⟨⟨g1, by omega, by rw [g4]; grind, by rw [g5]; grind, by rw [g4]; exact Bq_addi bq (by omega) (by omega), by rw [g5]; exact Bq_addi bq (by omega) (by omega)⟩, g2⟩
  have hs := sum_le (fun s hs => (all s hs).2)
  have hg := sum_ge (fun s hs => (all s hs).1.m1)
  refine ⟨ss, q, S3, ?_, ⟨by omega, fun s hs => (all s hs).1, q0, bq.mono (by decide), by omega, ?_, ?_⟩, p3.mono (by omega), by omega⟩
  · unfold F_l_wide b_l_wide
    refine run_rt ?_
    show sSeq _ _ [some (.ob 2), none, none, none, none] S = _
    rw [seq_nx (ρ' := [some (.ob 2), some (fq q), some (.ob S1.length), none, none]) (S' := S1 ++ [.lst []]) (by simp [c_l_wide_0, e1])]
    rw [seq_nx (show c_l_wide_1 [some (.ob 2), some (fq q), some (.ob S1.length), none, none] (S1 ++ [.lst []]) = _ from e3)]
    simp [c_l_wide_2, cTuple, l3, td]
  · intro i hi hh
    have a := (g3 i (by omega)).2.2.2
    have b := (g3 (i + 1) hi).2.2.1
    have := hh.1
    rw [a, b] at this
    have : ((((i : Int) + 2 : Int)) : Rat) = (((i + 1 : Nat) : Int) : Rat) := by grind
    have := Rat.intCast_inj.mp this
    omega
  · intro he hh
    have hp : 0 < ss.length := List.length_pos_iff.mpr he
    obtain ⟨_, _, a, b⟩ := g3 (ss.length - 1) (by omega)
    rw [List.getLast_eq_getElem] at hh
    rw [a, b] at hh
    have : (((ss.length - 1 : Nat) : Int) : Rat) = (((((ss.length - 1 : Nat) : Int) + 2 : Int)) : Rat) := by grind
    have := Rat.intCast_inj.mp this
    omega
theorem wide_ok (h : Pen S ns k) (hk : k + 300 ≤ 1000000000000) : ∃ ss R S', F_l_wide [.ob 2] S = .ok (td ss R) S' ∧ Tok ss R ∧ Pen S' ns (k + 300) := by
  obtain ⟨ss, R, S', a, b, c, _⟩ := wide_ok17 h hk
  exact ⟨ss, R, S', a, b, c⟩
end
end Fx
set_option Elab.async false
set_option linter.all false
set_option maxRecDepth 100000
/-! edges, places, rising; comprehensions that lay more -/
namespace DL
open PySem L2
theorem for_tup {a : EF} {j : Nat} {b : SF} {ρ : Lc} {S S1 : Sto} {xs : List D} (P : Nat → Lc → Sto → Prop)
    (ha : a ρ S = .ok (.tup xs) S1) (h0 : P 0 ρ S1)
    (step : ∀ (i : Nat) (h : i < xs.length) ρ S, P i ρ S → ∃ ρ' S', b (ρ.set j (some xs[i])) S = .nx ρ' S' ∧ P (i + 1) ρ' S') :
    ∃ ρ' S', sFor (jTup a) (.nm j) b ρ S = .nx ρ' S' ∧ P xs.length ρ' S' := by
  have e : sFor (jTup a) (.nm j) b ρ S = forGo (.tup xs) (.nm j) b xs.length 0 ρ S1 := by
    simp [sFor, jTup, ha, Itd.size]
  rw [e]
  refine for_gen (n := xs.length) P (fun i ρ S hi p => ?_) (fun ρ S p => ?_) _ _ _ _ (by omega) (by omega) h0
  · obtain ⟨ρ', S', e1, q⟩ := step i hi ρ S p
    exact ⟨xs[i], ρ.set j (some xs[i]), ρ', S', by simp [Itd.at', hi], by simp, e1, q⟩
  · simp [Itd.at']
theorem for_zip {a : AF} {t : Tg} {b : SF} {ρ : Lc} {S : Sto} {n m : Nat} {xs ys : List D} (P : Nat → Lc → Sto → Prop)
    (ha : a ρ S = .ok [.ob n, .ob m] S) (hx : S[n]? = some (.lst xs)) (hy : S[m]? = some (.lst ys)) (hl : xs.length = ys.length) (h0 : P 0 ρ S) (hS : ∀ i ρ S', P i ρ S' → S' = S)
    (step : ∀ (i : Nat) (h : i < xs.length) (h2 : i < ys.length) ρ, P i ρ S → ∃ ρ1 ρ', t.put (.tup [xs[i], ys[i]]) ρ S = some ρ1 ∧ b ρ1 S = .nx ρ' S ∧ P (i + 1) ρ' S) :
    ∃ ρ', sFor (iZip a) t b ρ S = .nx ρ' S ∧ P xs.length ρ' S := by
  have e : sFor (DL.iZip a) t b ρ S = forGo (.zipL n m) t b xs.length 0 ρ S := by
    simp [sFor, DL.iZip, ha, hx, hy, Itd.size]
  rw [e]
  have main := for_gen (it := .zipL n m) (t := t) (b := b) (n := xs.length) P (fun i ρ S' hi p => by
    have := hS _ _ _ p
    subst this
    obtain ⟨ρ1, ρ', e0, e1, q⟩ := step i hi (by omega) ρ p
    exact ⟨.tup [xs[i], ys[i]'(by omega)], ρ1, ρ', S', by simp [Itd.at', hx, hy, hi, hl ▸ hi], e0, e1, q⟩) (fun ρ S' p => by
    have := hS _ _ _ p
    subst this
    simp [Itd.at', hx, hy, hl]) xs.length 0 ρ S (by omega) (by omega) h0
  obtain ⟨ρ', S', e1, q⟩ := main
  have := hS _ _ _ q
  subst this
  exact ⟨ρ', e1, q⟩
/-- a comprehension whose element lays more -/
theorem lc_grow {α β : Type} {a : EF} {j : Nat} {e : EF} {own : List Nat} {ρ : Lc} {S S1 : Sto} {n : Nat} {qs : List α} (g : α → D) (f : β → D) (Q : α → β → Prop)
    (ha : a ρ S = .ok (.ob n) S1) (h1 : S1[n]? = some (.lst (qs.map g))) (hq : qs.length ≤ 1000000)
    (step : ∀ q ∈ qs, ∀ S2, ∃ z e', e ((wipeD ρ own).set j (some (g q))) S2 = .ok (f z) (S2 ++ e') ∧ Q q z) :
    ∃ (zs : List β) (e' : Sto), eLc (iLst a) (.nm j) cYes e own ρ S = .ok (.ob S1.length) (S1 ++ .lst (zs.map f) :: e') ∧ zs.length = qs.length ∧ ∀ (i : Nat) (h : i < qs.length) (h2 : i < zs.length), Q qs[i] zs[i] := by
  have hn := (List.getElem?_eq_some_iff.mp h1).1
  have e1 : eLc (iLst a) (.nm j) cYes e own ρ S = lcGo (.lst n) (.nm j) cYes e (wipeD ρ own) S1.length qs.length 0 (S1 ++ [.lst []]) := by
    simp [eLc, iLst, ha, h1, Itd.size]
  rw [e1]
  have main := lc_gen (it := .lst n) (t := .nm j) (e := e) (ρ := wipeD ρ own) (k := S1.length) (n := qs.length)
    (fun i acc S => ∃ (zs : List β) (e' : Sto), acc = zs.map f ∧ S = S1 ++ .lst acc :: e' ∧ zs.length = i ∧ i ≤ qs.length ∧ ∀ (u : Nat) (h : u < qs.length) (h2 : u < zs.length), Q qs[u] zs[u]) (by
      rintro i acc S hi ⟨zs, e', p1, p2, p3, _, p4⟩
      obtain ⟨z, e2, s1, s2⟩ := step _ (List.getElem_mem hi) S
      refine ⟨g qs[i], _, f z, S ++ e2, ?_, put_nm _ _ _ _, s1, ?_, ?_, zs ++ [z], e' ++ e2, ?_, ?_, ?_, hi, ?_⟩
      · simp [Itd.at', p2, at_app h1, hi]
      · rw [p2]; simp
      · rw [p1]; simp; omega
      · rw [p1]; simp
      · rw [p2]; simp
      · simp [p3]
      · intro u h h2
        rw [List.length_append, List.length_singleton] at h2
        by_cases hu : u < zs.length
        · rw [List.getElem_append_left hu]; exact p4 u h hu
        · have : u = i := by omega
          subst this
          rw [List.getElem_append_right (by omega)]
          simp only [p3, Nat.sub_self, List.getElem_cons_zero]
          exact s2) (by
      rintro acc S ⟨zs, e', p1, p2, p3, p4⟩
      simp [Itd.at', p2, at_app h1]) qs.length 0 [] (S1 ++ [.lst []]) (by omega) (by omega) ⟨[], [], rfl, rfl, rfl, by omega, fun u h h2 => by simp at h2⟩
  obtain ⟨acc, S', e2, zs, e', rfl, e4, e5, _, e6⟩ := main
  exact ⟨zs, e', by rw [e2, e4], e5, e6⟩
/-- a comprehension that leaves some out -/
theorem lc_filter {α : Type} {a : EF} {j : Nat} {c : TF} {e : EF} {own : List Nat} {ρ : Lc} {S S1 : Sto} {n : Nat} {qs : List α} (g : α → D) (t : α → Bool)
    (ha : a ρ S = .ok (.ob n) S1) (h1 : S1[n]? = some (.lst (qs.map g))) (hq : qs.length ≤ 1000000)
    (hc : ∀ q ∈ qs, ∀ S2, c ((wipeD ρ own).set j (some (g q))) S2 = .ok (t q) S2)
    (he : ∀ q ∈ qs, ∀ S2, e ((wipeD ρ own).set j (some (g q))) S2 = .ok (g q) S2) :
    eLc (iLst a) (.nm j) c e own ρ S = .ok (.ob S1.length) (S1 ++ [.lst ((qs.filter t).map g)]) := by
  have e1 : eLc (iLst a) (.nm j) c e own ρ S = lcGo (.lst n) (.nm j) c e (wipeD ρ own) S1.length qs.length 0 (S1 ++ [.lst []]) := by
    simp [eLc, iLst, ha, h1, Itd.size]
  rw [e1]
  have main : ∀ (m i : Nat), i + m = qs.length → lcGo (.lst n) (.nm j) c e (wipeD ρ own) S1.length m i (S1 ++ [.lst (((qs.take i).filter t).map g)]) = .ok (.ob S1.length) (S1 ++ [.lst ((qs.filter t).map g)]) := by
    intro m
    induction m with
    | zero =>
      intro i hi
      have : i = qs.length := by omega
      subst this
      unfold lcGo
      simp [Itd.at', at_app h1]
    | succ m ih =>
      intro i hi
      have hlt : i < qs.length := by omega
      have ih2 := ih (i + 1) (by omega)
      have len : (((qs.take i).filter t).map g).length ≤ 1000000 := by
        rw [List.length_map]
        have := List.length_filter_le t (qs.take i)
        rw [List.length_take] at this
        omega
      have gg : szOk (((qs.take i).filter t).map g).length = true := by simpa using len
      have at1 : (Itd.lst n).at' i (S1 ++ [.lst (((qs.take i).filter t).map g)]) = some (some (g qs[i])) := by
        simp [Itd.at', at_app h1, hlt]
      have tk : qs.take (i + 1) = qs.take i ++ [qs[i]] := by rw [List.take_succ]; simp [hlt]
      rw [tk, List.filter_append] at ih2
      unfold lcGo
      simp only [at1, put_nm, hc _ (List.getElem_mem hlt), he _ (List.getElem_mem hlt)]
      cases ht : t qs[i] with
      | false =>
        simp only [List.filter_cons, ht, Bool.false_eq_true, if_false, List.filter_nil, List.append_nil] at ih2
        exact ih2
      | true =>
        simp only [List.filter_cons, ht, if_true, List.filter_nil, List.map_append, List.map_cons, List.map_nil] at ih2
        have a1 : (S1 ++ [O.lst (((qs.take i).filter t).map g)])[S1.length]? = some (.lst (((qs.take i).filter t).map g)) := at_end
        simp only [a1, gg, if_true]
        have a2 : (S1 ++ [O.lst (((qs.take i).filter t).map g)]).set S1.length (.lst (((qs.take i).filter t).map g ++ [g qs[i]])) = S1 ++ [O.lst (((qs.take i).filter t).map g ++ [g qs[i]])] := by simp
        rw [a2]
        exact ih2
  have := main qs.length 0 (by omega)
  simpa using this
end DL
namespace Fx
open PySem L2 DL
section
variable {S : Sto} {ns : List Int} {k n m : Nat} {ss : List St} {R q : Rat}
theorem sum_nonneg {l : List St} (h : ∀ s ∈ l, Sok s) : 0 ≤ (l.map St.m).sum := by
  induction l with
  | nil => simp
  | cons t l ih =>
    have h1 := (h t (by simp)).m1
    have h2 := ih (fun s hs => h s (by simp [hs]))
    rw [List.map_cons, List.sum_cons]
    omega
theorem edges_ok (h : Tok ss R) (S : Sto) : ∃ es : List Int, F_l_edges [td ss R] S = .ok (.ob S.length) (S ++ [.lst (es.map D.int)]) ∧ 0 < es.length ∧ es.length ≤ 100 ∧ ∀ e ∈ es, 0 ≤ e ∧ e ≤ 200000 := by
  have n24 := h.n24
  have main := for_tup (a := eOp oIx (eVar 0) (eC (.int 0))) (j := 2) (b := c_l_edges_1_0) (ρ := [some (td ss R), some (.ob S.length), none]) (S := S ++ [.lst [.int 0]]) (S1 := S ++ [.lst [.int 0]]) (xs := ss.map sd)
    (fun i ρ S' => ∃ (y : Option D) (es : List Int), ρ = [some (td ss R), some (.ob S.length), y] ∧ S' = S ++ [.lst ((es ++ [((ss.take i).map St.m).sum]).map D.int)] ∧ es.length = i ∧ (∀ e ∈ es, 0 ≤ e ∧ e ≤ 200000)) (by simp [td]) ⟨_, [], rfl, by simp, rfl, by simp⟩ (by
      rintro i hi ρ S' ⟨y, es, rfl, rfl, hn, hb⟩
      rw [List.length_map] at hi
      have at1 : (S ++ [O.lst ((es ++ [((ss.take i).map St.m).sum]).map D.int)])[S.length]? = some (.lst ((es ++ [((ss.take i).map St.m).sum]).map D.int)) := at_end
      have la : atI ((es ++ [((ss.take i).map St.m).sum]).map D.int) (-1) = some (.int ((ss.take i).map St.m).sum) := by
        unfold atI ixN
        rw [List.length_map, List.length_append, List.length_singleton, if_neg (by decide), if_pos (by omega)]
        rw [show (-1 + ((es.length + 1 : Nat) : Int)).toNat = es.length by omega]
        simp
      have i0 : ∀ S, oIx (sd ss[i]) (.int 0) S = .ok (.int ss[i].m) S := fun S => rfl
      have tk : ((ss.take (i + 1)).map St.m).sum = ((ss.take i).map St.m).sum + ss[i].m := by
        rw [List.take_succ, List.map_append, List.sum_append]; simp [hi]
      have s1 := sum_nonneg (l := ss.take i) (fun s hs => h.all s (List.mem_of_mem_take hs))
      have s2 := sum_nonneg (l := ss.drop i) (fun s hs => h.all s (List.mem_of_mem_drop hs))
      have s3 : ((ss.take i).map St.m).sum + ((ss.drop i).map St.m).sum = (ss.map St.m).sum := by
        rw [← List.sum_append, ← List.map_append, List.take_append_drop]
      have s4 := h.sum
      have e1 := eApp_ok (a := eVar 1) (b := eOp oAdd (eOp oIx (eVar 1) (eNeg (eC (.int 1)))) (eOp oIx (eVar 2) (eC (.int 0)))) (ρ := [some (td ss R), some (.ob S.length), some (sd ss[i])]) (S := S ++ [O.lst ((es ++ [((ss.take i).map St.m).sum]).map D.int)]) (S1 := S ++ [O.lst ((es ++ [((ss.take i).map St.m).sum]).map D.int)]) (S2 := S ++ [O.lst ((es ++ [((ss.take i).map St.m).sum]).map D.int)])
        (n := S.length) (d := .int (((ss.take i).map St.m).sum + ss[i].m)) (by simp) at1 (by simp only [eOp_eq, eVar_s, eVar_0, bind_ok, eNeg_eq, eC_eq, oIx_ob at1, la, i0, oAdd_int]) at1 (by simp; omega)
      refine ⟨[some (td ss R), some (.ob S.length), some (sd ss[i])], (S ++ [O.lst ((es ++ [((ss.take i).map St.m).sum]).map D.int)]).set S.length (.lst ((es ++ [((ss.take i).map St.m).sum]).map D.int ++ [.int (((ss.take i).map St.m).sum + ss[i].m)])), by simp only [List.getElem_map, List.set_cons_zero, List.set_cons_succ, c_l_edges_1_0, sExpr_eq, e1, sb_ok], _, es ++ [((ss.take i).map St.m).sum], rfl, ?_, by simp [hn], ?_⟩
      · rw [tk]; simp
      · intro e he
        rcases List.mem_append.mp he with h1 | h1
        · exact hb e h1
        · rw [List.mem_singleton.mp h1]; omega)
  obtain ⟨ρ', S', e1, y, es, rfl, rfl, hn, hb⟩ := main
  rw [List.length_map] at hn
  have full : ((ss.take (ss.map sd).length).map St.m).sum = (ss.map St.m).sum := by rw [List.length_map, List.take_length]
  refine ⟨es ++ [((ss.take (ss.map sd).length).map St.m).sum], ?_, by simp, by simp; omega, ?_⟩
  · unfold F_l_edges b_l_edges
    refine run_rt ?_
    rw [seq_nx (ρ' := [some (td ss R), some (.ob S.length), none]) (S' := S ++ [.lst [.int 0]]) (by simp [c_l_edges_0])]
    rw [seq_nx (show c_l_edges_1 [some (td ss R), some (.ob S.length), none] (S ++ [.lst [.int 0]]) = _ from e1)]
    simp [c_l_edges_2]
  · intro e he
    rcases List.mem_append.mp he with h1 | h1
    · exact hb e h1
    · rw [List.mem_singleton.mp h1, full]
      exact ⟨sum_nonneg h.all, h.sum⟩
/-- whether images stand in the order of the things -/
theorem rising_ok {zs : List α} (f g : α → Rat) (h1 : S[n]? = some (.lst ((zs.map f).map fq))) (h2 : S[m]? = some (.lst ((zs.map g).map fq))) (bf : ∀ z ∈ zs, Bq 13000 (f z)) (bg : ∀ z ∈ zs, Bq 13000 (g z))
    (o1 : ∀ a ∈ zs, ∀ b ∈ zs, (f a < f b) = (g a < g b)) (o2 : ∀ a ∈ zs, ∀ b ∈ zs, (f a = f b) = (g a = g b)) : F_l_rising [.ob n, .ob m] S = .ok (.bl true) S := by
  have inner : ∀ (a : α), a ∈ zs → ∀ (x4 x5 : Option D), ∃ y4 y5, c_l_rising_0_0 [some (.ob n), some (.ob m), some (fq (f a)), some (fq (g a)), x4, x5] S = .nx [some (.ob n), some (.ob m), some (fq (f a)), some (fq (g a)), y4, y5] S := by
    intro a ha x4 x5
    have main := for_zip (a := aCons (eVar 0) (aCons (eVar 1) aNil)) (t := .tp [.nm 4, .nm 5]) (b := c_l_rising_0_0_0) (ρ := [some (.ob n), some (.ob m), some (fq (f a)), some (fq (g a)), x4, x5]) (S := S)
      (fun i ρ S' => (∃ y4 y5, ρ = [some (.ob n), some (.ob m), some (fq (f a)), some (fq (g a)), y4, y5]) ∧ S' = S) (by simp) h1 h2 (by simp) ⟨⟨_, _, rfl⟩, rfl⟩ (fun i ρ S' p => p.2) (by
        rintro i hi hi2 ρ ⟨⟨y4, y5, rfl⟩, _⟩
        have hz : i < zs.length := by simpa using hi
        have hb := List.getElem_mem hz
        simp only [List.getElem_map]
        generalize zs[i] = b at hb
        have c1 := fun S => l_less_ok (bf a ha) (bf b hb) (by decide) S
        have c2 := fun S => l_less_ok (bg a ha) (bg b hb) (by decide) S
        have d1 := o1 a ha b hb
        have d2 := o2 a ha b hb
        refine ⟨[some (.ob n), some (.ob m), some (fq (f a)), some (fq (g a)), some (fq (f b)), some (fq (g b))], [some (.ob n), some (.ob m), some (fq (f a)), some (fq (g a)), some (fq (f b)), some (fq (g b))], by simp, ?_, ⟨_, _, rfl⟩, trivial⟩
        simp [c_l_rising_0_0_0, c1, c2, d1, oEq_fq, d2])
    obtain ⟨ρ', e1, ⟨y4, y5, rfl⟩, _⟩ := main
    exact ⟨y4, y5, e1⟩
  have main := for_zip (a := aCons (eVar 0) (aCons (eVar 1) aNil)) (t := .tp [.nm 2, .nm 3]) (b := c_l_rising_0_0) (ρ := [some (.ob n), some (.ob m), none, none, none, none]) (S := S)
      (fun i ρ S' => (∃ y2 y3 y4 y5, ρ = [some (.ob n), some (.ob m), y2, y3, y4, y5]) ∧ S' = S) (by simp) h1 h2 (by simp) ⟨⟨_, _, _, _, rfl⟩, rfl⟩ (fun i ρ S' p => p.2) (by
        rintro i hi hi2 ρ ⟨⟨y2, y3, y4, y5, rfl⟩, _⟩
        have hz : i < zs.length := by simpa using hi
        have hb := List.getElem_mem hz
        simp only [List.getElem_map]
        generalize zs[i] = b at hb
        obtain ⟨z4, z5, e1⟩ := inner b hb y4 y5
        exact ⟨[some (.ob n), some (.ob m), some (fq (f b)), some (fq (g b)), y4, y5], _, by simp, e1, ⟨_, _, _, _, rfl⟩, trivial⟩)
  obtain ⟨ρ', e1, ⟨y2, y3, y4, y5, rfl⟩, _⟩ := main
  unfold F_l_rising b_l_rising
  refine run_rt ?_
  show sSeq _ _ [some (.ob n), some (.ob m), none, none, none, none] S = _
  rw [seq_nx (show c_l_rising_0 [some (.ob n), some (.ob m), none, none, none, none] S = _ from e1)]
  simp [c_l_rising_1]
end
end Fx
set_option Elab.async false
set_option linter.all false
set_option maxRecDepth 100000
/-! the law's places -/
namespace Fx
open PySem L2 DL
/-- a fraction from 0 on, small -/
def Sm0 (q : Rat) : Prop := 0 ≤ q ∧ Bq 60 q
theorem cast_nn {i : Int} (h : 0 ≤ i) : (0 : Rat) ≤ (i : Rat) := by
  have : ((0 : Int) : Rat) ≤ (i : Rat) := by rw [cle]; exact h
  exact this
theorem Sm0.int {i : Int} (h0 : 0 ≤ i) (h1 : i < 2 ^ 40) : Sm0 (i : Rat) := ⟨cast_nn h0, Bq_cast (pow_mono (n := 40) (by omega) (by decide)) (by decide)⟩
theorem frac_nn {a b : Int} (ha : 0 ≤ a) (hb : 0 < b) : 0 ≤ Rat.divInt a b := by
  rw [divInt_div]
  have h1 := cast_nn ha
  have h2 : (0 : Rat) < (b : Rat) := by
    have : ((0 : Int) : Rat) < (b : Rat) := by rw [clt]; exact hb
    exact this
  have hd : (a : Rat) / (b : Rat) * (b : Rat) = (a : Rat) := by grind
  refine Rat.not_lt.mp fun hn => ?_
  have := Rat.mul_pos (a := -((a : Rat) / (b : Rat))) (by grind) h2
  grind
theorem Sm0.add {i a b : Int} (h0 : 0 ≤ i) (h1 : i < 2 ^ 20) (ha : 0 ≤ a) (hb : 0 < b) (ha2 : a < 2 ^ 20) (hb2 : b < 2 ^ 20) : Sm0 ((i : Rat) + Rat.divInt a b) := by
  refine ⟨?_, (Bq_add (n := 20) (m := 20) (Bq_cast (by omega) (by decide)) (Bq_divInt (by omega) (by omega) (by omega))).mono (by decide)⟩
  have := cast_nn h0
  have := frac_nn ha hb
  grind
section
variable {S : Sto} {ns : List Int} {k n m : Nat} {ss : List St} {R q : Rat} {x0 x1 x2 x3 x4 : Option D}
theorem pow6 (S : Sto) : oPow (.int 10) (.int 6) S = .ok (.int 1000000) S := oPow_int S (by decide)
theorem addI {i a b : Int} (h0 : 0 ≤ i) (h1 : i < 2 ^ 20) (ha : 0 ≤ a) (hb : 0 < b) (ha2 : a < 2 ^ 20) (hb2 : b < 2 ^ 20) (S : Sto) : F_l_low [.int a, .int b] S = .ok (fq (Rat.divInt a b)) S ∧ F_l_add [.tup [.int i, .int 1], fq (Rat.divInt a b)] S = .ok (fq ((i : Rat) + Rat.divInt a b)) S := by
  refine ⟨l_low_ok S (by omega) (pow_mono (n := 20) (by omega) (by omega)) (pow_mono (n := 20) (by omega) (by omega)), ?_⟩
  have := l_add_ok (n := 20) (m := 20) (p := (i : Rat)) (q := Rat.divInt a b) (Bq_cast (by omega) (by decide)) (Bq_divInt (by omega) (by omega) (by omega)) (by decide) S
  rw [fq_int] at this
  exact this
theorem places_ok (h : Pen S ns k) (hk : k + 50 ≤ 1000000000000) (ht : Tok ss R) : ∃ (n : Nat) (ps : List Rat) (S' : Sto), F_l_places [.ob 2, td ss R] S = .ok (.ob n) S' ∧ S'[n]? = some (.lst (ps.map fq)) ∧ ps.length ≤ 100 ∧ 2 < n ∧ (∀ p ∈ ps, Sm0 p) ∧ Pen S' ns (k + 50) := by
  have hl := h.lt
  obtain ⟨es, e0, elen, elen2, eb⟩ := edges_ok ht S
  have P0 : Pen (S ++ [.lst (es.map D.int)]) ns k := h.app
  have E0 : (S ++ [O.lst (es.map D.int)])[S.length]? = some (.lst (es.map D.int)) := at_end
  generalize S ++ [O.lst (es.map D.int)] = S0 at e0 P0 E0
  have hS0 : S.length < S0.length := (List.getElem?_eq_some_iff.mp E0).1
  -- an edge drawn
  have edge : ∀ (T : Sto) (k : Nat), Pen T ns k → k + 1 ≤ 1000000000000 → T[S.length]? = some (.lst (es.map D.int)) → ∃ (d : Int) (T' : Sto) (v : Int), F_l_draw [.ob 2, .int es.length] T = .ok (.int d) T' ∧ oIx (.ob S.length) (.int d) T = .ok (.int v) T ∧ (∀ U : Sto, U[S.length]? = some (.lst (es.map D.int)) → oIx (.ob S.length) (.int d) U = .ok (.int v) U) ∧ 0 ≤ v ∧ v ≤ 200000 ∧ Pen T' ns (k + 1) ∧ Fr T T' := by
    intro T k p hk hT
    obtain ⟨d, T', e, d0, d1, p', r', _⟩ := draw_ok (m := es.length) p (by omega) (by omega) (by omega)
    obtain ⟨v, hv, ev⟩ := atI_mem (xs := es.map D.int) d0 (by simpa using d1)
    obtain ⟨w, hw, rfl⟩ := List.mem_map.mp hv
    exact ⟨d, T', w, e, by simp [oIx_ob hT, ev], fun U hU => by simp [oIx_ob hU, ev], (eb w hw).1, (eb w hw).2, p', r'⟩
  obtain ⟨d, S1, v, e1, _, i1, v0, v1, p1, r1⟩ := edge S0 k P0 (by omega) E0
  have E1 := r1.2 _ _ (by omega) E0
  obtain ⟨u, S2, e2, u0, u1, p2, r2, _⟩ := draw_ok (m := 3) p1 (by omega) (by decide) (by decide)
  have E2 := r2.2 _ _ (by omega) E1
  obtain ⟨a, S3, e3, a0, a1, p3, r3, _⟩ := draw_ok (m := 6) p2 (by omega) (by decide) (by decide)
  have E3 := r3.2 _ _ (by omega) E2
  have A3 := addI (i := v + u) (a := 1 + a) (b := 7) (by omega) (by omega) (by omega) (by decide) (by omega) (by decide)
  have q3 : Sm0 (((v + u : Int) : Rat) + Rat.divInt (1 + a) 7) := Sm0.add (by omega) (by omega) (by omega) (by decide) (by omega) (by decide)
  generalize ((v + u : Int) : Rat) + Rat.divInt (1 + a) 7 = q3v at A3 q3
  have E3' := at_app (e := [O.lst ([q3v, 0, ((v + u : Int) : Rat)].map fq)]) E3
  have P3 : Pen (S3 ++ [O.lst ([q3v, 0, ((v + u : Int) : Rat)].map fq)]) ns (k + 1 + 1 + 1) := p3.app
  have l3 := p3.lt
  obtain ⟨b, S4, e4, b0, b1, p4, r4, _⟩ := draw_ok (m := 10) P3 (by omega) (by decide) (by decide)
  have E4 := r4.2 _ _ (by omega) E3'
  have L4 : S4[S3.length]? = some (.lst ([q3v, 0, ((v + u : Int) : Rat)].map fq)) := r4.2 _ _ (by omega) at_end
  have A4 := addI (i := v + u) (a := 1 + b) (b := 11) (by omega) (by omega) (by omega) (by decide) (by omega) (by decide)
  have q4 : Sm0 (((v + u : Int) : Rat) + Rat.divInt (1 + b) 11) := Sm0.add (by omega) (by omega) (by omega) (by decide) (by omega) (by decide)
  generalize ((v + u : Int) : Rat) + Rat.divInt (1 + b) 11 = q4v at A4 q4
  have c3 := eApp_ok (a := eVar 4) (b := eCall F_l_add (aCons (eTup (aCons (eVar 3) (aCons (eC (.int 1)) aNil))) (aCons (eCall F_l_low (aCons (eOp oAdd (eC (.int 1)) (eCall F_l_draw (aCons (eVar 0) (aCons (eC (.int 10)) aNil)))) (aCons (eC (.int 11)) aNil))) aNil)))
    (ρ := [some (.ob 2), some (td ss R), some (.ob S.length), some (.int (v + u)), some (.ob S3.length)]) (S := S3 ++ [O.lst ([q3v, 0, ((v + u : Int) : Rat)].map fq)]) (S1 := S3 ++ [O.lst ([q3v, 0, ((v + u : Int) : Rat)].map fq)]) (S2 := S4) (n := S3.length) (d := fq q4v) (by simp) at_end (by simp [-List.map_cons, -List.map_nil, -Rat.intCast_add, e4, (A4 _).1, (A4 _).2]) L4 (by simp)
  have len4 := (List.getElem?_eq_some_iff.mp L4).1
  have lenE := (List.getElem?_eq_some_iff.mp E3).1
  have P4 : Pen (S4.set S3.length (.lst ([q3v, 0, ((v + u : Int) : Rat)].map fq ++ [fq q4v]))) ns (k + 1 + 1 + 1 + 1) := Pen.setn p4 l3
  have E4' : (S4.set S3.length (.lst ([q3v, 0, ((v + u : Int) : Rat)].map fq ++ [fq q4v])))[S.length]? = some (.lst (es.map D.int)) := by rw [List.getElem?_set_ne (by omega)]; exact E4
  have L4' : (S4.set S3.length (.lst ([q3v, 0, ((v + u : Int) : Rat)].map fq ++ [fq q4v])))[S3.length]? = some (.lst ([q3v, 0, ((v + u : Int) : Rat), q4v].map fq)) := by rw [List.getElem?_set_self len4]; rfl
  generalize S4.set S3.length (.lst ([q3v, 0, ((v + u : Int) : Rat)].map fq ++ [fq q4v])) = S5 at c3 P4 E4' L4'
  obtain ⟨d2, S6, v2, e6, _, i6, v20, v21, p6, r6⟩ := edge S5 _ P4 (by omega) E4'
  have E6 := r6.2 _ _ (by omega) E4'
  have L6 := r6.2 _ _ (by omega) L4'
  obtain ⟨w, S7, e7, w0, w1, p7, r7, _⟩ := draw_ok (m := 1000000) p6 (by omega) (by decide) (by decide)
  have E7 := r7.2 _ _ (by omega) E6
  have L7 := r7.2 _ _ (by omega) L6
  -- the last edge
  obtain ⟨z, hz, zl⟩ : ∃ z ∈ es, atI (es.map D.int) (-1) = some (.int z) := by
    refine ⟨es[es.length - 1], List.getElem_mem _, ?_⟩
    unfold atI ixN
    rw [List.length_map, if_neg (by decide), if_pos (by omega)]
    rw [show (-1 + (es.length : Int)).toNat = es.length - 1 by omega]
    simp only [Option.bind_some, List.getElem?_map]
    rw [List.getElem?_eq_getElem (by omega)]; rfl
  have zb := eb z hz
  have e8 := oAdd_ob (S := S7 ++ [O.lst ([(v2 : Rat), ((z + w : Int) : Rat)].map fq)]) (at_app L7) (at_end) (by simp)
  have P8 : Pen (S7 ++ [O.lst ([(v2 : Rat), ((z + w : Int) : Rat)].map fq), O.lst ([q3v, 0, ((v + u : Int) : Rat), q4v, (v2 : Rat), ((z + w : Int) : Rat)].map fq)]) ns _ := p7.app
  have E8 := at_app (e := [O.lst ([(v2 : Rat), ((z + w : Int) : Rat)].map fq), O.lst ([q3v, 0, ((v + u : Int) : Rat), q4v, (v2 : Rat), ((z + w : Int) : Rat)].map fq)]) E7
  have L8 : (S7 ++ [O.lst ([(v2 : Rat), ((z + w : Int) : Rat)].map fq), O.lst ([q3v, 0, ((v + u : Int) : Rat), q4v, (v2 : Rat), ((z + w : Int) : Rat)].map fq)])[S7.length + 1]? = some (.lst ([q3v, 0, ((v + u : Int) : Rat), q4v, (v2 : Rat), ((z + w : Int) : Rat)].map fq)) := at_k (j := 1)
  have l7 := p7.lt
  have c4 : c_l_places_4 [some (.ob 2), some (td ss R), some (.ob S.length), some (.int (v + u)), some (.ob S3.length)] S5 = .nx [some (.ob 2), some (td ss R), some (.ob S.length), some (.int (v + u)), some (.ob (S7.length + 1))] (S7 ++ [O.lst ([(v2 : Rat), ((z + w : Int) : Rat)].map fq), O.lst ([q3v, 0, ((v + u : Int) : Rat), q4v, (v2 : Rat), ((z + w : Int) : Rat)].map fq)]) := by
    simp only [List.map_cons, List.map_nil, fq_int, List.append_assoc, List.cons_append, List.nil_append, List.length_append, List.length_cons, List.length_nil, Nat.zero_add] at e8 ⊢
    simp [-Rat.intCast_add, c_l_places_4, cLen_ob E4', e6, i6 _ E6, oIx_ob E6, zl, pow6, e7, e8]
  generalize S7 ++ [O.lst ([(v2 : Rat), ((z + w : Int) : Rat)].map fq), O.lst ([q3v, 0, ((v + u : Int) : Rat), q4v, (v2 : Rat), ((z + w : Int) : Rat)].map fq)] = S8 at P8 E8 L8 c4
  have g97 : mulOk 97 z = true := mulOk_of (a := 20) (b := 20) (by decide) (by omega) (by decide)
  obtain ⟨t, S9, e9, t0, t1, p9, r9, _⟩ := draw_ok (m := 1 + 97 * z) P8 (by omega) (by omega) (by omega)
  have L9 := r9.2 _ _ (by omega) L8
  have len9 := (List.getElem?_eq_some_iff.mp L9).1
  have lw := fun S => l_low_ok S (a := t) (b := 97) (by decide) (pow_mono (n := 40) (by omega) (by omega)) (pow_mono (n := 40) (by decide) (by omega))
  have c5 := eApp_ok (a := eVar 4) (b := eCall F_l_low (aCons (eCall F_l_draw (aCons (eVar 0) (aCons (eOp oAdd (eC (.int 1)) (eOp oMul (eC (.int 97)) (eOp oIx (eVar 2) (eNeg (eC (.int 1)))))) aNil))) (aCons (eC (.int 97)) aNil)))
    (ρ := [some (.ob 2), some (td ss R), some (.ob S.length), some (.int (v + u)), some (.ob (S7.length + 1))]) (S := S8) (S1 := S8) (S2 := S9) (n := S7.length + 1) (d := fq (Rat.divInt t 97)) (by simp) L8 (by simp [oIx_ob E8, zl, oMul_int _ g97, e9, lw]) L9 (by simp)
  refine ⟨S7.length + 1, [q3v, 0, ((v + u : Int) : Rat), q4v, (v2 : Rat), ((z + w : Int) : Rat), Rat.divInt t 97], S9.set (S7.length + 1) (.lst ([q3v, 0, ((v + u : Int) : Rat), q4v, (v2 : Rat), ((z + w : Int) : Rat)].map fq ++ [fq (Rat.divInt t 97)])), run_rt ?_, by rw [List.getElem?_set_self len9]; rfl, by simp, by omega, ?_, (Pen.setn p9 (by omega)).mono (by omega)⟩
  · show b_l_places [some (.ob 2), some (td ss R), none, none, none] S = _
    unfold b_l_places
    rw [seq_nx (ρ' := [some (.ob 2), some (td ss R), some (.ob S.length), none, none]) (S' := S0) (by simp [c_l_places_0, e0])]
    rw [seq_nx (ρ' := [some (.ob 2), some (td ss R), some (.ob S.length), some (.int (v + u)), none]) (S' := S2) (by simp [c_l_places_1, cLen_ob E0, e1, i1 _ E1, e2])]
    rw [seq_nx (ρ' := [some (.ob 2), some (td ss R), some (.ob S.length), some (.int (v + u)), some (.ob S3.length)]) (S' := S3 ++ [O.lst ([q3v, 0, ((v + u : Int) : Rat)].map fq)]) (by
      simp only [List.map_cons, List.map_nil, fq_int, fq_zero]
      simp [-Rat.intCast_add, c_l_places_2, e3, (A3 _).1, (A3 _).2])]
    rw [seq_nx (show c_l_places_3 [some (.ob 2), some (td ss R), some (.ob S.length), some (.int (v + u)), some (.ob S3.length)] (S3 ++ [O.lst ([q3v, 0, ((v + u : Int) : Rat)].map fq)]) = .nx [some (.ob 2), some (td ss R), some (.ob S.length), some (.int (v + u)), some (.ob S3.length)] S5 from by simp only [c_l_places_3, sExpr_eq, c3, sb_ok])]
    rw [seq_nx c4]
    rw [seq_nx (show c_l_places_5 [some (.ob 2), some (td ss R), some (.ob S.length), some (.int (v + u)), some (.ob (S7.length + 1))] S8 = .nx [some (.ob 2), some (td ss R), some (.ob S.length), some (.int (v + u)), some (.ob (S7.length + 1))] (S9.set (S7.length + 1) (.lst ([q3v, 0, ((v + u : Int) : Rat), q4v, (v2 : Rat), ((z + w : Int) : Rat)].map fq ++ [fq (Rat.divInt t 97)]))) from by simp only [c_l_places_5, sExpr_eq, c5, sb_ok])]
    rfl
  · intro p hp
    simp only [List.mem_cons, List.not_mem_nil, or_false] at hp
    rcases hp with rfl | rfl | rfl | rfl | rfl | rfl | rfl
    · exact q3
    · exact Sm0.int (i := 0) (by decide) (by decide)
    · exact Sm0.int (by omega) (by omega)
    · exact q4
    · exact Sm0.int (by omega) (by omega)
    · exact Sm0.int (by omega) (by omega)
    · exact ⟨frac_nn t0 (by decide), (Bq_divInt (n := 40) (by decide) (by omega) (by decide)).mono (by decide)⟩
end
end Fx
set_option Elab.async false
set_option linter.all false
set_option maxRecDepth 100000
/-! the law's own moments and places -/
namespace Fx
open PySem L2 DL
section
variable {S : Sto} {ns : List Int} {k n m : Nat} {ss : List St} {s : St} {p q r x y c : Rat} {x0 x1 x2 x3 x4 x5 x6 : Option D}
theorem l_div_ok (hp : Bq n p) (hq : Bq m q) (h : n + m + 1 ≤ 13000) (h0 : q ≠ 0) (S : Sto) : F_l_div [fq p, fq q] S = .ok (fq (p / q)) S := by
  have g1 : mulOk p.num q.den = true := mulOk_of hp.1 (by rw [den_abs]; exact hq.2) (by omega)
  have g2 : mulOk (p.den : Int) q.num = true := mulOk_of (by rw [den_abs]; exact hp.2) hq.1 (by omega)
  have h1 : (p.num * (q.den : Int)).natAbs < 2 ^ (n + m) := mul_lt hp.1 (by rw [den_abs]; exact hq.2)
  have h2 : ((p.den : Int) * q.num).natAbs < 2 ^ (n + m) := mul_lt (by rw [den_abs]; exact hp.2) hq.1
  have e := l_low_ok S (Int.mul_ne_zero (den_ne p) (num_ne h0)) (pow_mono h1 (by omega)) (pow_mono h2 (by omega))
  rw [div_eq] at e
  unfold F_l_div b_l_div
  refine run_rt ?_
  simp only [fq] at e ⊢
  simp [c_l_div_0, oMul_int, g1, g2, e]
def lineV (s : St) (t : Int) : Rat := s.f + rise s * ((t : Rat) / 2)
theorem line_ok (h : Sok s) {t : Int} (ht : t.natAbs < 2 ^ 20) (S : Sto) : F_l_line [sd s, .int t] S = .ok (fq (lineV s t)) S ∧ Bq 142 (lineV s t) := by
  have m1 := h.m1
  have m2 := h.m2
  have i0 : ∀ S, oIx (sd s) (.int 0) S = .ok (.int s.m) S := fun S => rfl
  have i1 : ∀ S, oIx (sd s) (.int 1) S = .ok (fq s.f) S := fun S => rfl
  have i2 : ∀ S, oIx (sd s) (.int 2) S = .ok (fq s.l) S := fun S => rfl
  have g : mulOk 2 s.m = true := mulOk_of (a := 20) (b := 20) (by decide) (by omega) (by decide)
  have bt : Bq 20 (Rat.divInt t (2 * s.m)) := Bq_divInt (by omega) ht (by omega)
  have e1 := fun S => l_low_ok S (a := t) (b := 2 * s.m) (by omega) (pow_mono (n := 20) ht (by omega)) (pow_mono (n := 20) (by omega) (by omega))
  have e2 := fun S => l_sub_ok h.bl h.bf (by decide) S
  have e3 := fun S => l_mul_ok (Bq_sub h.bl h.bf) bt (by decide) S
  have b3 := Bq_mul (Bq_sub h.bl h.bf) bt
  have e4 := fun S => l_add_ok h.bf b3 (by decide) S
  have b4 := Bq_add h.bf b3
  have v : s.f + (s.l - s.f) * Rat.divInt t (2 * s.m) = lineV s t := by
    have h0 := h.m0
    rw [divInt_div, Rat.intCast_mul]
    unfold lineV rise
    grind
  rw [v] at b4
  simp only [v] at e4
  refine ⟨?_, b4⟩
  unfold F_l_line b_l_line
  refine run_rt ?_
  simp [c_l_line_0, i0, i1, i2, oMul_int _ g, e1, e2, e3, e4]
theorem line_tot (s : St) (w : Int) : (w : Rat) * lineV s w = tot s w := by
  unfold lineV tot
  grind
theorem line_len (s : St) (w : Int) : lineV s (2 * w + 1) = len s w := by
  unfold lineV len
  grind
theorem cMin_int (i j : Int) (S : Sto) : cMin [.int i, .int j] S = .ok (.int (if j < i then j else i)) S := rfl
theorem lm_loop (hr : 0 < r) : ∀ (rest pre : List St) (nb nc : Nat) (b c : Rat) (k : Int) (x5 x6 : Option D), (∀ s ∈ rest, Sok s) → Bq nb b → Bq nc c → nb + nc + 170 * rest.length + 200 ≤ 13000 → 0 ≤ k → 0 ≤ c → c < 1 → ∀ fuel, rest.length ≤ fuel →
    forGo (.tup ((pre ++ rest).map sd)) (.nm 5) (sSeq c_l_moment_2_0 (sSeq c_l_moment_2_1 (sSeq c_l_moment_2_2 c_l_moment_2_3))) fuel pre.length [x0, x1, some (.int k), some (fq b), some (fq c), x5, x6] S = .rt (fq (b + mo rest r ((k : Rat) + c))) S ∨
    (∃ (b' : Rat) (k' : Int) (y5 y6 : Option D), forGo (.tup ((pre ++ rest).map sd)) (.nm 5) (sSeq c_l_moment_2_0 (sSeq c_l_moment_2_1 (sSeq c_l_moment_2_2 c_l_moment_2_3))) fuel pre.length [x0, x1, some (.int k), some (fq b), some (fq c), x5, x6] S = .nx [x0, x1, some (.int k'), some (fq b'), some (fq c), y5, y6] S ∧ b' + ((k' : Rat) + c) * r = b + mo rest r ((k : Rat) + c) ∧ 0 ≤ k' ∧ k' ≤ k ∧ Bq (nb + 170 * rest.length) b')
  | [], pre, nb, nc, b, c, k, x5, x6, _, hb, hc, hn, h0, c0, c1, fuel, hf => by
    refine .inr ⟨b, k, x5, x6, ?_, rfl, h0, by omega, hb.mono (by omega)⟩
    unfold forGo
    simp only [at_fin]
  | s :: rest, pre, nb, nc, b, c, k, x5, x6, hs, hb, hc, hn, h0, c0, c1, fuel + 1, hf => by
    have ok := hs s (by simp)
    have m1 := ok.m1
    have m2 := ok.m2
    rw [List.length_cons] at hn hf
    have i0 : ∀ S, oIx (sd s) (.int 0) S = .ok (.int s.m) S := fun S => rfl
    obtain ⟨w, hw⟩ : ∃ w : Int, w = if s.m < k then s.m else k := ⟨_, rfl⟩
    have w0 : 0 ≤ w := by rw [hw]; split <;> omega
    have w1 : w ≤ 200000 := by rw [hw]; split <;> omega
    have lw := fun S => (line_ok ok (t := w) (by omega) S).1
    have bw := (line_ok ok (t := w) (by omega) S).2
    have bwi : Bq 18 (w : Rat) := Bq_cast (by omega) (by decide)
    have t1 := fun S => l_mul_ok bwi bw (by decide) S
    rw [line_tot, fq_int] at t1
    have bt : Bq 160 (tot s w) := by rw [← line_tot]; exact Bq_mul bwi bw
    have a1 := fun S => l_add_ok hb bt (by omega) S
    have e0 : c_l_moment_2_0 [x0, x1, some (.int k), some (fq b), some (fq c), some (sd s), x6] S = .nx [x0, x1, some (.int k), some (fq b), some (fq c), some (sd s), some (.int w)] S := by
      simp [c_l_moment_2_0, i0, cMin_int, hw]
    have e1 : c_l_moment_2_1 [x0, x1, some (.int k), some (fq b), some (fq c), some (sd s), some (.int w)] S = .nx [x0, x1, some (.int k), some (fq (b + tot s w)), some (fq c), some (sd s), some (.int w)] S := by
      simp [c_l_moment_2_1, lw, t1, a1]
    have hmo : ∀ p, mo (s :: rest) r p = if p < (s.m : Rat) then mw s p else tot s s.m + mo rest r (p - (s.m : Rat)) := fun p => rfl
    by_cases hk : k < s.m
    · have wk : w = k := by rw [hw, if_neg (by omega)]
      have hkm : ((k + 1 : Int) : Rat) ≤ (s.m : Rat) := by rw [cle]; omega
      have i1 : (k : Rat) + c < (s.m : Rat) := by grind
      have hf2 : ((k : Rat) + c).floor = k := fl_eq (by grind) (by grind)
      have g : mulOk 2 k = true := mulOk_of (a := 20) (b := 20) (by decide) (by omega) (by decide)
      have ll := fun S => (line_ok ok (t := 2 * k + 1) (by omega) S).1
      have bl := (line_ok ok (t := 2 * k + 1) (by omega) S).2
      rw [line_len] at ll bl
      have u1 := fun S => l_mul_ok hc bl (by omega) S
      have u2 := fun S => l_add_ok (Bq_add hb bt) (Bq_mul hc bl) (by omega) S
      have v : b + tot s w + c * len s k = b + mo (s :: rest) r ((k : Rat) + c) := by
        rw [hmo, if_pos i1, wk]
        unfold mw
        rw [hf2]
        grind
      refine .inl ?_
      rw [← v]
      unfold forGo
      simp only [at_mid, put_nm, List.set]
      rw [seq_nx e0, seq_nx e1, seq_rt (d := fq (b + tot s w + c * len s k)) (S' := S) (by simp [c_l_moment_2_2, i0, hk, oMul_int _ g, ll, u1, u2])]
    · have wk : w = s.m := by rw [hw]; split <;> omega
      have hkm : (s.m : Rat) ≤ (k : Rat) := by rw [cle]; omega
      have i1 : ¬ (k : Rat) + c < (s.m : Rat) := by grind
      have i2 : (k : Rat) + c - (s.m : Rat) = ((k - s.m : Int) : Rat) + c := by grind
      have ih := lm_loop hr rest (pre ++ [s]) (nb + 160 + 1) nc (b + tot s s.m) c (k - s.m) (some (sd s)) (some (.int s.m)) (fun s hs' => hs s (by simp [hs'])) (by have := Bq_add hb bt; rw [wk] at this; exact this) hc (by omega) (by omega) c0 c1 fuel (by omega)
      rw [wk] at e0 e1
      have step : ∀ R, forGo (.tup ((pre ++ [s] ++ rest).map sd)) (.nm 5) (sSeq c_l_moment_2_0 (sSeq c_l_moment_2_1 (sSeq c_l_moment_2_2 c_l_moment_2_3))) fuel (pre ++ [s]).length [x0, x1, some (.int (k - s.m)), some (fq (b + tot s s.m)), some (fq c), some (sd s), some (.int s.m)] S = R → forGo (.tup ((pre ++ s :: rest).map sd)) (.nm 5) (sSeq c_l_moment_2_0 (sSeq c_l_moment_2_1 (sSeq c_l_moment_2_2 c_l_moment_2_3))) (fuel + 1) pre.length [x0, x1, some (.int k), some (fq b), some (fq c), x5, x6] S = R := by
        intro R hR
        rw [List.append_assoc, List.cons_append, List.nil_append, List.length_append, List.length_cons, List.length_nil, Nat.zero_add] at hR
        rw [← hR]
        conv => lhs; unfold forGo
        simp only [at_mid, put_nm, List.set]
        rw [seq_nx e0, seq_nx e1, seq_nx (ρ' := [x0, x1, some (.int k), some (fq (b + tot s s.m)), some (fq c), some (sd s), some (.int s.m)]) (S' := S) (by simp [c_l_moment_2_2, i0, hk])]
        have e9 : c_l_moment_2_3 [x0, x1, some (.int k), some (fq (b + tot s s.m)), some (fq c), some (sd s), some (.int s.m)] S = .nx [x0, x1, some (.int (k - s.m)), some (fq (b + tot s s.m)), some (fq c), some (sd s), some (.int s.m)] S := by simp [c_l_moment_2_3, i0]
        simp only [e9]
      have v : b + tot s s.m + mo rest r (((k - s.m : Int) : Rat) + c) = b + mo (s :: rest) r ((k : Rat) + c) := by
        rw [hmo, if_neg i1, i2]
        grind
      rw [v] at ih
      rcases ih with i3 | ⟨b', k', y5, y6, i3, i4, i5, i6, i7⟩
      · exact .inl (step _ i3)
      · exact .inr ⟨b', k', y5, y6, step _ i3, i4, i5, by omega, i7.mono (by rw [List.length_cons]; omega)⟩
theorem emod_part (p : Rat) : Rat.divInt (p.num % (p.den : Int)) (p.den : Int) = p - (p.floor : Rat) := by
  rw [divInt_div]
  have h1 := num_den p
  have h2 := den_pos p
  have h3 : p.num % (p.den : Int) = p.num - (p.den : Int) * p.floor := by rw [Rat.floor_def, Int.emod_def]
  rw [h3, Rat.intCast_sub, Rat.intCast_mul, ← h1]
  grind
theorem l_moment_ok {np : Nat} (h : Tok ss r) (hp : Bq np p) (hn : np ≤ 3000) (h0 : 0 ≤ p) (S : Sto) : F_l_moment [td ss r, fq p] S = .ok (fq (mo ss r p)) S := by
  have n24 := h.n24
  have k0 := fl_nonneg h0
  have g : divOk p.num p.den = true := divOk_any (den_ne p) (pow_mono (m := 13000) hp.1 (by omega))
  have f : p.num.fdiv p.den = p.floor := by rw [Rat.floor_def, Int.fdiv_eq_ediv_of_nonneg _ (Int.natCast_nonneg _)]
  have dp : (0 : Int) < (p.den : Int) := by have := den_ne p; omega
  have md := modB p.num dp
  have hd : (p.den : Int).natAbs < 2 ^ np := by rw [den_abs]; exact hp.2
  have lw := fun S => l_low_ok S (a := p.num % (p.den : Int)) (b := (p.den : Int)) (den_ne p) (pow_mono (n := np) (m := 13000) (by omega) (by omega)) (pow_mono (n := np) (m := 13000) hd (by omega))
  have bc : Bq np (p - (p.floor : Rat)) := by rw [← emod_part]; exact Bq_divInt (den_ne p) (by omega) hd
  rw [emod_part] at lw
  have f1 := Rat.floor_le p
  have f2 := Rat.lt_floor_add_one p
  have c0 : 0 ≤ p - (p.floor : Rat) := by grind
  have c1 : p - (p.floor : Rat) < 1 := by grind
  have loop := lm_loop (S := S) (x0 := some (td ss r)) (x1 := some (fq p)) h.r0 ss [] 1 np 0 (p - (p.floor : Rat)) p.floor none none h.all Bq_zero bc (by omega) k0 c0 c1 ss.length (Nat.le_refl _)
  have z : (0 : Rat) + mo ss r ((p.floor : Rat) + (p - (p.floor : Rat))) = mo ss r p := by
    have : (p.floor : Rat) + (p - (p.floor : Rat)) = p := by grind
    rw [this]; grind
  rw [z] at loop
  have ix0 : ∀ S, oIx (td ss r) (.int 0) S = .ok (.tup (ss.map sd)) S := fun S => rfl
  have ix1 : ∀ S, oIx (td ss r) (.int 1) S = .ok (fq r) S := fun S => rfl
  have pre : ∀ R, (sSeq c_l_moment_2 c_l_moment_3) [some (td ss r), some (fq p), some (.int p.floor), some (fq 0), some (fq (p - (p.floor : Rat))), none, none] S = R → b_l_moment [some (td ss r), some (fq p), none, none, none, none, none] S = R := by
    intro R hR
    unfold b_l_moment
    rw [seq_nx (ρ' := [some (td ss r), some (fq p), some (.int p.floor), some (fq 0), none, none, none]) (S' := S) (by rw [fq_zero]; simp [c_l_moment_0, oDiv_int _ g, f])]
    rw [seq_nx (ρ' := [some (td ss r), some (fq p), some (.int p.floor), some (fq 0), some (fq (p - (p.floor : Rat))), none, none]) (S' := S) (by simp [c_l_moment_1, oMod_int _ dp, lw])]
    exact hR
  have go : ∀ R, forGo (.tup (([] ++ ss).map sd)) (.nm 5) (sSeq c_l_moment_2_0 (sSeq c_l_moment_2_1 (sSeq c_l_moment_2_2 c_l_moment_2_3))) ss.length ([] : List St).length [some (td ss r), some (fq p), some (.int p.floor), some (fq 0), some (fq (p - (p.floor : Rat))), none, none] S = R → c_l_moment_2 [some (td ss r), some (fq p), some (.int p.floor), some (fq 0), some (fq (p - (p.floor : Rat))), none, none] S = R := by
    intro R hR
    rw [← hR]
    simp [c_l_moment_2, sFor, jTup, Itd.size, ix0]
  rcases loop with i1 | ⟨b', k', y5, y6, i1, i2, i3, i4, i5⟩
  · exact run_rt (pre _ (seq_rt (go _ i1) _))
  · have bfl : p.floor.natAbs < 2 ^ np := by
      rw [Rat.floor_def]
      exact Nat.lt_of_le_of_lt (Int.natAbs_ediv_le_natAbs _ _) hp.1
    have bk : Bq (np + 1) (k' : Rat) := Bq_cast (pow_mono (n := np) (by omega) (by omega)) (by omega)
    have u1 := fun S => l_add_ok bk bc (by omega) S
    rw [fq_int] at u1
    have u2 := fun S => l_mul_ok (Bq_add bk bc) h.br (by omega) S
    have u3 := fun S => l_add_ok i5 (Bq_mul (Bq_add bk bc) h.br) (by omega) S
    refine run_rt (pre _ ?_)
    rw [seq_nx (go _ i1), ← i2]
    simp [c_l_moment_3, ix1, u1, u2, u3]
end
end Fx
set_option Elab.async false
set_option linter.all false
set_option maxRecDepth 100000
/-! the law's own places: by doubling and halving -/
namespace Fx
open PySem L2 DL
section
variable {S : Sto} {ns : List Int} {k n m : Nat} {ss : List St} {s : St} {p q r x y c : Rat} {x0 x1 x2 x3 x4 x5 x6 : Option D}
theorem len_ge (h : Sok s) (hf : c ≤ s.f) (hl : c ≤ s.l) {k : Int} (h0 : 0 ≤ k) (hk : k < s.m) : c ≤ len s k := by
  have hm := rise_m h
  have c1 : (0 : Rat) ≤ 2 * (s.m : Rat) - 2 * (k : Rat) - 1 := by
    have : ((2 * k + 1 : Int) : Rat) < ((2 * s.m : Int) : Rat) := by rw [clt]; omega
    grind
  have c2' : (0 : Rat) < 2 * (k : Rat) + 1 := by
    have : ((0 : Int) : Rat) < ((2 * k + 1 : Int) : Rat) := by rw [clt]; omega
    grind
  have c2 : (0 : Rat) ≤ 2 * (k : Rat) + 1 := by grind
  have c3 : (0 : Rat) < 2 * (s.m : Rat) := by grind
  have e1 := Rat.mul_nonneg (a := s.f - c) (by grind) c1
  have e2 := Rat.mul_nonneg (a := s.l - c) (by grind) c2
  have e : 2 * (s.m : Rat) * (len s k - c) = (s.f - c) * (2 * (s.m : Rat) - 2 * (k : Rat) - 1) + (s.l - c) * (2 * (k : Rat) + 1) := by
    unfold len
    grind
  refine Rat.not_lt.mp fun hn => ?_
  have := Rat.mul_pos c3 (b := c - len s k) (by grind)
  grind
theorem tot_ge (h : Sok s) (hf : c ≤ s.f) (hl : c ≤ s.l) : ∀ (n : Nat), (n : Int) ≤ s.m → c * ((n : Int) : Rat) ≤ tot s n
  | 0, _ => by
    have := tot_zero s
    show c * ((0 : Int) : Rat) ≤ tot s 0
    rw [this]
    have : ((0 : Int) : Rat) = 0 := rfl
    rw [this]
    grind
  | n + 1, hn => by
    have ih := tot_ge h hf hl n (by omega)
    have lg := len_ge h hf hl (k := (n : Int)) (by omega) (by omega)
    have e := tot_succ s n
    have e2 : ((n + 1 : Nat) : Int) = (n : Int) + 1 := by omega
    rw [e2, e]
    grind
theorem tot_ge' (h : Sok s) (hf : c ≤ s.f) (hl : c ≤ s.l) {a : Int} (h0 : 0 ≤ a) (ha : a ≤ s.m) : c * (a : Rat) ≤ tot s a := by
  have := tot_ge h hf hl a.toNat (by omega)
  rw [show ((a.toNat : Nat) : Int) = a by omega] at this
  exact this
/-- moments grow no slower than the shortest step -/
theorem mo_ge : ∀ {ss : List St} {p : Rat}, (∀ s ∈ ss, Sok s) → (∀ s ∈ ss, c ≤ s.f ∧ c ≤ s.l) → c ≤ r → 0 ≤ p → c * p ≤ mo ss r p
  | [], p, _, _, hr, hp => by
    show c * p ≤ p * r
    have := Rat.mul_nonneg (a := p) (b := r - c) hp (by grind)
    grind
  | s :: ss, p, h, hc, hr, hp => by
    have hs := h s (by simp)
    obtain ⟨hf, hl⟩ := hc s (by simp)
    unfold mo
    split
    · rename_i hm
      have f1 := Rat.floor_le p
      have f0 := fl_nonneg hp
      have f2 := fl_lt hm
      have t := tot_ge' hs hf hl f0 (by omega)
      have lg := len_ge hs hf hl f0 f2
      have := Rat.mul_nonneg (a := p - (p.floor : Rat)) (b := len s p.floor - c) (by grind) (by grind)
      unfold mw
      grind
    · rename_i hm
      have ih := mo_ge (ss := ss) (p := p - (s.m : Rat)) (fun s hs => h s (by simp [hs])) (fun s hs => hc s (by simp [hs])) hr (by grind)
      have t := tot_ge' hs hf hl (a := s.m) (by have := hs.m1; omega) (by omega)
      grind
/-- within a step moments go straight -/
theorem mo_lin {t : Rat} : ∀ {ss : List St} {k : Int}, (∀ s ∈ ss, Sok s) → 0 ≤ k → 0 ≤ t → t < 1 → mo ss r ((k : Rat) + t) = mo ss r (k : Rat) + t * le ss r k
  | [], k, _, _, _, _ => by
    show ((k : Rat) + t) * r = (k : Rat) * r + t * r
    grind
  | s :: ss, k, h, h0, t0, t1 => by
    have h' : ∀ s ∈ ss, Sok s := fun s hs => h s (by simp [hs])
    unfold mo le
    by_cases hk : k < s.m
    · have hk2 : ((k + 1 : Int) : Rat) ≤ (s.m : Rat) := by rw [cle]; omega
      have i1 : (k : Rat) < (s.m : Rat) := by rw [clt]; exact hk
      have i2 : (k : Rat) + t < (s.m : Rat) := by grind
      rw [if_pos hk, if_pos i1, mw_cast s k, if_pos i2]
      have hf : ((k : Rat) + t).floor = k := fl_eq (by grind) (by grind)
      unfold mw
      rw [hf]
      grind
    · have hk2 : (s.m : Rat) ≤ (k : Rat) := by rw [cle]; omega
      have i1 : ¬ (k : Rat) < (s.m : Rat) := by rw [clt]; exact hk
      have i2 : ¬ (k : Rat) + t < (s.m : Rat) := by grind
      rw [if_neg hk, if_neg i1, if_neg i2]
      have ih := mo_lin (ss := ss) (k := k - s.m) h' (by omega) t0 t1
      have e1 : (k : Rat) + t - (s.m : Rat) = ((k - s.m : Int) : Rat) + t := by grind
      have e2 : (k : Rat) - (s.m : Rat) = ((k - s.m : Int) : Rat) := by grind
      rw [e1, e2, ih]
      grind
/-- a step that is no shorter than any of so many bits -/
def tick : Rat := 1 / ((1099511627776 : Int) : Rat)
theorem tick_le (h0 : 0 < q) (hb : Bq 40 q) : tick ≤ q := by
  have h1 := num_den q
  have h2 := den_pos q
  have h3 : (1 : Int) ≤ q.num := by
    have : 0 < q.num := by rw [num_pos]; exact h0
    omega
  have h4 : ((1 : Int) : Rat) ≤ (q.num : Rat) := by rw [cle]; exact h3
  have h5 : ((q.den : Int) : Rat) ≤ ((1099511627776 : Int) : Rat) := by rw [cle]; have := hb.2; omega
  have h6 : (0 : Rat) < ((1099511627776 : Int) : Rat) := by
    have : ((0 : Int) : Rat) < ((1099511627776 : Int) : Rat) := by rw [clt]; decide
    exact this
  have h7 : tick * ((1099511627776 : Int) : Rat) = 1 := by unfold tick; grind
  generalize ((1099511627776 : Int) : Rat) = B at h5 h6 h7
  generalize ((q.den : Int) : Rat) = d at h1 h2 h5
  have h8 : ((1 : Int) : Rat) = 1 := rfl
  rw [h8] at h4
  refine Rat.not_lt.mp fun hn => ?_
  have a1 := Rat.mul_pos (a := tick - q) (b := B) (by grind) h6
  have a2 := Rat.mul_nonneg (a := q) (b := B - d) (by grind) (by grind)
  grind
theorem bound_y (h : Tok ss r) (hy : 0 ≤ y) (hx : mo ss r y ≤ ((1125899906842624 : Int) : Rat)) : y < ((1237940039285380274899124224 * 1024 : Int) : Rat) := by
  have g := mo_ge (c := tick) (p := y) h.all (fun s hs => ⟨tick_le (h.all s hs).f0 (h.all s hs).bf, tick_le (h.all s hs).l0 (h.all s hs).bl⟩) (tick_le h.r0 h.br) hy
  have h7 : tick * ((1099511627776 : Int) : Rat) = 1 := by unfold tick; grind
  have e : ((1237940039285380274899124224 * 1024 : Int) : Rat) = ((1125899906842624 : Int) : Rat) * ((1099511627776 : Int) : Rat) * 1024 := by grind
  rw [e]
  have h6 : (0 : Rat) < ((1099511627776 : Int) : Rat) := by
    have : ((0 : Int) : Rat) < ((1099511627776 : Int) : Rat) := by rw [clt]; decide
    exact this
  have h9 : (0 : Rat) < ((1125899906842624 : Int) : Rat) := by
    have : ((0 : Int) : Rat) < ((1125899906842624 : Int) : Rat) := by rw [clt]; decide
    exact this
  generalize ((1099511627776 : Int) : Rat) = B at h6 h7 ⊢
  generalize ((1125899906842624 : Int) : Rat) = X at hx h9 ⊢
  have a1 := Rat.mul_nonneg (a := X - tick * y) (b := B) (by grind) (by grind)
  have a2 := Rat.mul_pos h9 h6
  have a3 : tick * y * B = y := by
    have : tick * y * B = y * (tick * B) := by grind
    rw [this, h7]; grind
  grind
/-- a whole place's moment, as asked -/
theorem lm_int (h : Tok ss r) {i : Int} (h0 : 0 ≤ i) (h1 : i.natAbs < 2 ^ 200) (S : Sto) : F_l_moment [td ss r, .tup [.int i, .int 1]] S = .ok (fq (mo ss r (i : Rat))) S := by
  have := l_moment_ok (np := 200) h (p := (i : Rat)) (Bq_cast h1 (by decide)) (by decide) (cast_nn h0) S
  rw [fq_int] at this
  exact this
theorem mo_bits (h : Tok ss r) {i : Int} (h0 : 0 ≤ i) (h1 : i.natAbs < 2 ^ 200) : Bq 6000 (mo ss r (i : Rat)) := by
  obtain ⟨e, _, b⟩ := moment_of_ok (np := 200) h (p := (i : Rat)) (Bq_cast h1 (by decide)) (by decide) (cast_nn h0) []
  exact b
theorem up_loop (h : Tok ss r) (hb : Bq 100 (mo ss r y)) (hy : 0 ≤ y) : ∀ (n : Nat) (lo hi : Int), 0 ≤ lo → lo < hi → (lo : Rat) ≤ y → y < ((hi * 2 ^ n : Int) : Rat) → hi * 2 ^ n < 2 ^ 150 → ∀ fuel, n ≤ fuel →
    ∃ lo' hi' : Int, whGo (bNot (tTru (eCall F_l_less (aCons (eVar 1) (aCons (eCall F_l_moment (aCons (eVar 0) (aCons (eTup (aCons (eVar 3) (aCons (eC (.int 1)) aNil))) aNil))) aNil))))) c_l_place_1_0 fuel [some (td ss r), some (fq (mo ss r y)), some (.int lo), some (.int hi), x4, x5, x6] S = .nx [some (td ss r), some (fq (mo ss r y)), some (.int lo'), some (.int hi'), x4, x5, x6] S ∧ 0 ≤ lo' ∧ lo' < hi' ∧ (lo' : Rat) ≤ y ∧ y < (hi' : Rat) ∧ hi' < 2 ^ 150
  | n, lo, hi, h0, h1, h2, h3, h4, fuel, hf => by
    have hp : (1 : Int) ≤ 2 ^ n := by
      have : (0 : Int) < 2 ^ n := Int.pow_pos (by decide)
      omega
    have hi1 : hi ≤ hi * 2 ^ n := by
      have := Int.mul_le_mul_of_nonneg_left hp (show 0 ≤ hi by omega)
      omega
    have hib : hi.natAbs < 2 ^ 200 := by omega
    have lm := fun S => lm_int h (i := hi) (by omega) hib S
    have lb := mo_bits h (i := hi) (by omega) hib
    have ls := fun S => l_less_ok hb lb (by decide) S
    have ml := mo_lt (p := y) (q := (hi : Rat)) h.all h.r0 hy (cast_nn (by omega))
    simp only [ml] at ls
    by_cases hy2 : y < (hi : Rat)
    · refine ⟨lo, hi, ?_, h0, h1, h2, hy2, by omega⟩
      unfold whGo
      simp [lm, ls, hy2]
    · match n, fuel, hf, h3, h4, hp with
      | 0, _, _, h3, _, _ =>
        exact absurd (by simpa using h3) hy2
      | n + 1, fuel + 1, hf, h3, h4, _ =>
        have e : hi * 2 ^ (n + 1) = (2 * hi) * 2 ^ n := by
          have : (2 : Int) ^ (n + 1) = 2 ^ n * 2 := Int.pow_succ ..
          rw [this, ← Int.mul_assoc, Int.mul_right_comm, Int.mul_comm hi 2]
        rw [e] at h3 h4
        have g : mulOk 2 hi = true := mulOk_of (a := 10) (b := 200) (by decide) hib (by decide)
        obtain ⟨lo', hi', e2, r1⟩ := up_loop h hb hy n hi (2 * hi) (by omega) (by omega) (Rat.not_lt.mp hy2) h3 h4 fuel (by omega)
        refine ⟨lo', hi', ?_, r1⟩
        have e0 : c_l_place_1_0 [some (td ss r), some (fq (mo ss r y)), some (.int lo), some (.int hi), x4, x5, x6] S = .nx [some (td ss r), some (fq (mo ss r y)), some (.int hi), some (.int (2 * hi)), x4, x5, x6] S := by simp [c_l_place_1_0, oMul_int _ g]
        unfold whGo
        simp [lm, ls, hy2, e0, e2]
theorem down_loop (h : Tok ss r) (hb : Bq 100 (mo ss r y)) (hy : 0 ≤ y) : ∀ (n : Nat) (lo hi : Int) (x4 : Option D), 0 ≤ lo → lo < hi → (lo : Rat) ≤ y → y < (hi : Rat) → hi < 2 ^ 150 → hi - lo ≤ 2 ^ n → ∀ fuel, n ≤ fuel →
    ∃ (lo' : Int) (y4 : Option D), whGo (tTru (eOp oGt (eOp oSub (eVar 3) (eVar 2)) (eC (.int 1)))) (sSeq c_l_place_2_0 c_l_place_2_1) fuel [some (td ss r), some (fq (mo ss r y)), some (.int lo), some (.int hi), x4, x5, x6] S = .nx [some (td ss r), some (fq (mo ss r y)), some (.int lo'), some (.int (lo' + 1)), y4, x5, x6] S ∧ 0 ≤ lo' ∧ (lo' : Rat) ≤ y ∧ y < ((lo' + 1 : Int) : Rat) ∧ lo' < 2 ^ 150
  | n, lo, hi, x4, h0, h1, h2, h3, h4, h5, fuel, hf => by
    by_cases he : hi = lo + 1
    · subst he
      refine ⟨lo, x4, ?_, h0, h2, h3, by omega⟩
      have : ¬ (1 : Int) < lo + 1 - lo := by omega
      unfold whGo
      simp only [tTru_eq, eOp_eq, eVar_s, eVar_0, bind_ok, eC_eq, oSub_int, oGt_int, decide_eq_false this, truD_bl, sb_ok, Bool.false_eq_true, if_false]
    · match n, fuel, hf, h5 with
      | 0, _, _, h5 => omega
      | n + 1, fuel + 1, hf, h5 =>
        have hp : (2 : Int) ^ (n + 1) = 2 ^ n * 2 := Int.pow_succ ..
        rw [hp] at h5
        obtain ⟨md, hmd⟩ : ∃ md : Int, md = (lo + hi) / 2 := ⟨_, rfl⟩
        have m1 : lo < md := by omega
        have m2 : md < hi := by omega
        have gt : (1 : Int) < hi - lo := by omega
        have g : ∀ z : Int, divOk z 2 = true := fun z => divOk_of (b := 10) (by decide) (by decide) (by decide)
        have mb : md.natAbs < 2 ^ 200 := by omega
        have lm := fun S => lm_int h (i := md) (by omega) mb S
        have lb := mo_bits h (i := md) (by omega) mb
        have ls := fun S => l_less_ok hb lb (by decide) S
        have ml := mo_lt (p := y) (q := (md : Rat)) h.all h.r0 hy (cast_nn (by omega))
        simp only [ml] at ls
        have e0 : c_l_place_2_0 [some (td ss r), some (fq (mo ss r y)), some (.int lo), some (.int hi), x4, x5, x6] S = .nx [some (td ss r), some (fq (mo ss r y)), some (.int lo), some (.int hi), some (.int md), x5, x6] S := by
          simp [c_l_place_2_0, oDiv_int _ (g _), Int.fdiv_eq_ediv_of_nonneg, hmd]
        by_cases hy2 : y < (md : Rat)
        · have e1 : c_l_place_2_1 [some (td ss r), some (fq (mo ss r y)), some (.int lo), some (.int hi), some (.int md), x5, x6] S = .nx [some (td ss r), some (fq (mo ss r y)), some (.int lo), some (.int md), some (.int md), x5, x6] S := by
            simp [c_l_place_2_1, lm, ls, hy2]
          obtain ⟨lo', y4, e2, r1⟩ := down_loop h hb hy n lo md (some (.int md)) h0 m1 h2 hy2 (by omega) (by omega) fuel (by omega)
          refine ⟨lo', y4, ?_, r1⟩
          unfold whGo
          simp only [tTru_eq, eOp_eq, eVar_s, eVar_0, bind_ok, eC_eq, oSub_int, oGt_int, decide_eq_true gt, truD_bl, sb_ok, if_true, seq_nx e0, e1, e2]
        · have e1 : c_l_place_2_1 [some (td ss r), some (fq (mo ss r y)), some (.int lo), some (.int hi), some (.int md), x5, x6] S = .nx [some (td ss r), some (fq (mo ss r y)), some (.int md), some (.int hi), some (.int md), x5, x6] S := by
            simp [c_l_place_2_1, lm, ls, hy2]
          obtain ⟨lo', y4, e2, r1⟩ := down_loop h hb hy n md hi (some (.int md)) (by omega) m2 (Rat.not_lt.mp hy2) h3 h4 (by omega) fuel (by omega)
          refine ⟨lo', y4, ?_, r1⟩
          unfold whGo
          simp only [tTru_eq, eOp_eq, eVar_s, eVar_0, bind_ok, eC_eq, oSub_int, oGt_int, decide_eq_true gt, truD_bl, sb_ok, if_true, seq_nx e0, e1, e2]
theorem l_place_ok (h : Tok ss r) (hx : Bq 100 (mo ss r y)) (hy : 0 ≤ y) (hx2 : mo ss r y ≤ ((1125899906842624 : Int) : Rat)) (S : Sto) : F_l_place [td ss r, fq (mo ss r y)] S = .ok (fq y) S := by
  have by' := bound_y h hy hx2
  obtain ⟨lo1, hi1, e1, a0, a1, a2, a3, a4⟩ := up_loop (S := S) (x4 := none) (x5 := none) (x6 := none) h hx hy 100 0 1 (by decide) (by decide) hy (by
    have : ((1237940039285380274899124224 * 1024 : Int) : Rat) = ((1 * 2 ^ 100 : Int) : Rat) := rfl
    rw [← this]; exact by') (by decide) 100000 (by decide)
  obtain ⟨lo, y4, e2, b0, b1, b2, b3⟩ := down_loop (S := S) (x5 := none) (x6 := none) h hx hy 150 lo1 hi1 none a0 a1 a2 a3 a4 (by omega) 100000 (by decide)
  have m1 := fun S => lm_int h (i := lo) b0 (by omega) S
  have m2 := fun S => lm_int h (i := lo + 1) (by omega) (by omega) S
  have c1 := mo_bits h (i := lo) b0 (by omega)
  have c2 := mo_bits h (i := lo + 1) (by omega) (by omega)
  obtain ⟨_, _, c3⟩ := length_of_ok h b0 []
  have st := mo_step (r := r) h.all b0
  have sl : mo ss r ((lo + 1 : Int) : Rat) - mo ss r (lo : Rat) = le ss r lo := by rw [st]; grind
  have lp : 0 < le ss r lo := by
    have := mo_mono (r := r) (p := (lo : Rat)) (q := ((lo + 1 : Int) : Rat)) h.all h.r0 (cast_nn b0) (by rw [clt]; omega)
    grind
  have l0 : le ss r lo ≠ 0 := by grind
  have s1 := fun S => l_sub_ok hx c1 (by decide) S
  have s2 := fun S => l_sub_ok c2 c1 (by decide) S
  rw [sl] at s2
  have lin := mo_lin (r := r) (t := y - (lo : Rat)) (k := lo) h.all b0 (by grind) (by grind)
  have ey : (lo : Rat) + (y - (lo : Rat)) = y := by grind
  rw [ey] at lin
  have dv : (mo ss r y - mo ss r (lo : Rat)) / le ss r lo = y - (lo : Rat) := by
    rw [lin]
    grind
  have s3 := fun S => l_div_ok (Bq_sub hx c1) c3 (by decide) l0 S
  have b3' := Bq_div (Bq_sub hx c1) c3 l0
  have blo : Bq 200 (lo : Rat) := Bq_cast (by omega) (by decide)
  have s4 := fun S => l_add_ok blo b3' (by decide) S
  rw [dv] at s3 s4
  rw [ey, fq_int] at s4
  unfold F_l_place b_l_place
  refine run_rt ?_
  show sSeq _ _ [some (td ss r), some (fq (mo ss r y)), none, none, none, none, none] S = _
  rw [seq_nx (ρ' := [some (td ss r), some (fq (mo ss r y)), some (.int 0), some (.int 1), none, none, none]) (S' := S) (by simp [c_l_place_0])]
  rw [seq_nx (show c_l_place_1 [some (td ss r), some (fq (mo ss r y)), some (.int 0), some (.int 1), none, none, none] S = _ from e1)]
  rw [seq_nx (show c_l_place_2 [some (td ss r), some (fq (mo ss r y)), some (.int lo1), some (.int hi1), none, none, none] S = _ from e2)]
  rw [seq_nx (ρ' := [some (td ss r), some (fq (mo ss r y)), some (.int lo), some (.int (lo + 1)), y4, some (fq (mo ss r (lo : Rat))), some (fq (mo ss r ((lo + 1 : Int) : Rat)))]) (S' := S) (by simp [c_l_place_3, m1, m2, -Rat.intCast_add])]
  simp [c_l_place_4, s1, s2, s3, s4, -Rat.intCast_add]
end
end Fx
set_option Elab.async false
set_option linter.all false
set_option maxRecDepth 100000
/-! places of moments: the law's own steps -/
namespace DL
open PySem L2
theorem lc_growT {α β : Type} {a : EF} {j : Nat} {e : EF} {own : List Nat} {ρ : Lc} {S S1 : Sto} {qs : List α} (g : α → D) (f : β → D) (Q : α → β → Prop)
    (ha : a ρ S = .ok (.tup (qs.map g)) S1) (hq : qs.length ≤ 1000000)
    (step : ∀ q ∈ qs, ∀ S2, ∃ z e', e ((wipeD ρ own).set j (some (g q))) S2 = .ok (f z) (S2 ++ e') ∧ Q q z) :
    ∃ (zs : List β) (e' : Sto), eLc (jTup a) (.nm j) cYes e own ρ S = .ok (.ob S1.length) (S1 ++ .lst (zs.map f) :: e') ∧ zs.length = qs.length ∧ ∀ (i : Nat) (h : i < qs.length) (h2 : i < zs.length), Q qs[i] zs[i] := by
  have e1 : eLc (jTup a) (.nm j) cYes e own ρ S = lcGo (.tup (qs.map g)) (.nm j) cYes e (wipeD ρ own) S1.length qs.length 0 (S1 ++ [.lst []]) := by
    simp [eLc, jTup, ha, Itd.size]
  rw [e1]
  have main := lc_gen (it := .tup (qs.map g)) (t := .nm j) (e := e) (ρ := wipeD ρ own) (k := S1.length) (n := qs.length)
    (fun i acc S => ∃ (zs : List β) (e' : Sto), acc = zs.map f ∧ S = S1 ++ .lst acc :: e' ∧ zs.length = i ∧ i ≤ qs.length ∧ ∀ (u : Nat) (h : u < qs.length) (h2 : u < zs.length), Q qs[u] zs[u]) (by
      rintro i acc S hi ⟨zs, e', p1, p2, p3, _, p4⟩
      obtain ⟨z, e2, s1, s2⟩ := step _ (List.getElem_mem hi) S
      refine ⟨g qs[i], _, f z, S ++ e2, ?_, put_nm _ _ _ _, s1, ?_, ?_, zs ++ [z], e' ++ e2, ?_, ?_, ?_, hi, ?_⟩
      · simp [Itd.at', hi]
      · rw [p2]; simp
      · rw [p1]; simp; omega
      · rw [p1]; simp
      · rw [p2]; simp
      · simp [p3]
      · intro u h h2
        rw [List.length_append, List.length_singleton] at h2
        by_cases hu : u < zs.length
        · rw [List.getElem_append_left hu]; exact p4 u h hu
        · have : u = i := by omega
          subst this
          rw [List.getElem_append_right (by omega)]
          simp only [p3, Nat.sub_self, List.getElem_cons_zero]
          exact s2) (by
      rintro acc S ⟨zs, e', p1, p2, p3, p4⟩
      simp [Itd.at']) qs.length 0 [] (S1 ++ [.lst []]) (by omega) (by omega) ⟨[], [], rfl, rfl, rfl, by omega, fun u h h2 => by simp at h2⟩
  obtain ⟨acc, S', e2, zs, e', rfl, e4, e5, _, e6⟩ := main
  exact ⟨zs, e', by rw [e2, e4], e5, e6⟩
end DL
namespace Lk10
open PySem L2 DL Fx
def hlf : Rat := ⟨1, 2, by decide, by decide⟩
def Kp (S S' : Sto) : Prop := ∀ (n : Nat) (o : O), n ≠ 2 → S[n]? = some o → S'[n]? = some o
section
variable {S : Sto} {ns : List Int} {k n m : Nat} {ss : List Fx.St} {R p x : Rat} {x0 x1 x2 x3 x4 x5 x6 x7 x8 : Option D}
/-- the question that is asked of a place and its moment -/
theorem chk {a b c : Nat} {ρ : Lc} (ht : Tok ss R) (h0 : 0 ≤ p) (hp : Bq 60 p) (ha : ∀ S, eVar a ρ S = .ok (td ss R) S) (hb : ∀ S, eVar b ρ S = .ok (fq p) S) (hc : ∀ S, eVar c ρ S = .ok (fq (mo ss R p)) S) (S : Sto) :
    ∃ e : Sto, (bOr (bNot (tTru (eCall F_l_same (aCons (eVar c) (aCons (eCall F_l_moment (aCons (eVar a) (aCons (eVar b) aNil))) aNil))))) (bNot (tTru (eCall F_l_same (aCons (eCall F_place_of (aCons (eVar a) (aCons (eVar c) aNil))) (aCons (eVar b) aNil)))))) ρ S = .ok false (S ++ e) := by
  have lm := fun S => l_moment_ok (np := 60) ht hp (by decide) h0 S
  obtain ⟨_, _, bm⟩ := moment_of_ok (np := 60) ht hp (by decide) h0 []
  have m0 := mo_nonneg ht.all ht.r0 h0
  obtain ⟨e1, s1⟩ := same_fq (S := S) (D := 12) (q := mo ss R p) (by decide)
  obtain ⟨y, e2, f1, y0, ym, _⟩ := place_of_ok ht bm (by decide) m0 (S ++ e1)
  have ey : y = p := mo_inj ht.all ht.r0 y0 h0 ym
  rw [ey] at f1
  obtain ⟨e3, s3⟩ := same_fq (S := S ++ e1 ++ e2) (D := 12) (q := p) (by decide)
  refine ⟨e1 ++ e2 ++ e3, ?_⟩
  simp only [bOr_eq, bNot_eq, tTru_eq, eCall_eq, aCons_eq, aNil_eq, ha, hb, hc, bind_ok, lm, noex_ok, s1, truD_bl, Bool.not_true, Bool.false_eq_true, if_false, f1, s3]
  simp only [List.append_assoc]
/-- a moment's place, found twice -/
theorem both (ht : Tok ss R) (h0 : 0 ≤ x) (hx : Bq 40 x) : ∃ y : Rat, (∀ S, F_l_place [td ss R, fq x] S = .ok (fq y) S) ∧ ∀ S, ∃ e : Sto, F_place_of [td ss R, fq x] S = .ok (fq y) (S ++ e) := by
  obtain ⟨y, e, f1, y0, ym, _⟩ := place_of_ok (nx := 40) ht hx (by decide) h0 []
  have xl : x ≤ ((1125899906842624 : Int) : Rat) := by
    have h1 := num_den x
    have h2 : ((1 : Int) : Rat) ≤ ((x.den : Int) : Rat) := by rw [cle]; have := den_ne x; omega
    have h3 : (x.num : Rat) ≤ ((1125899906842624 : Int) : Rat) := by rw [cle]; have := hx.1; omega
    have h4 : ((1 : Int) : Rat) = 1 := rfl
    rw [h4] at h2
    have := Rat.mul_nonneg (a := x) (b := ((x.den : Int) : Rat) - 1) h0 (by grind)
    grind
  have b100 : Bq 100 (mo ss R y) := by rw [ym]; exact hx.mono (by decide)
  have lp := fun S => l_place_ok ht b100 y0 (by rw [ym]; exact xl) S
  rw [ym] at lp
  refine ⟨y, lp, fun S => ?_⟩
  obtain ⟨y', e', g1, y0', ym', _⟩ := place_of_ok (nx := 40) ht hx (by decide) h0 S
  have : y' = y := mo_inj ht.all ht.r0 y0' y0 (by rw [ym', ym])
  exact ⟨e', by rw [g1, this]⟩
theorem drawn {e : EF} {own : List Nat} {j : Nat} {ρ : Lc} (cnt : Nat) (hc : cnt ≤ 10) (h : Pen S ns k) (hk : k + 100 ≤ 1000000000000) (Q : Rat → Prop)
    (step : ∀ (i : Nat) (S' : Sto) (k' : Nat), Pen S' ns k' → k' + 2 ≤ 1000000000000 → ∃ q S3, e ((wipeD ρ own).set j (some (.int (0 + i)))) S' = .ok (fq q) S3 ∧ Q q ∧ Pen S3 ns (k' + 2) ∧ Fr S' S3) :
    ∃ (qs : List Rat) (S' : Sto), eLc (DL.iRng (aCons (eC (.int cnt)) aNil)) (.nm j) cYes e own ρ S = .ok (.ob S.length) S' ∧ S'[S.length]? = some (.lst (qs.map fq)) ∧ qs.length = cnt ∧ (∀ q ∈ qs, Q q) ∧ Pen S' ns (k + 2 * cnt) ∧ Kp S S' := by
  have hl := h.lt
  have main := lc_gen (it := .rng 0 cnt) (t := .nm j) (e := e) (ρ := wipeD ρ own) (k := S.length) (n := cnt)
    (fun i acc S' => ∃ qs : List Rat, acc = qs.map fq ∧ qs.length = i ∧ (∀ q ∈ qs, Q q) ∧ Pen S' ns (k + 2 * i) ∧ S'[S.length]? = some (.lst acc) ∧ Kp S S') (by
      rintro i acc S' hi ⟨qs, rfl, h2, h3, h4, h5, h6⟩
      obtain ⟨q, S3, e1, hq, p1, r1⟩ := step i S' _ h4 (by omega)
      have h7 := r1.2 _ _ (by omega) h5
      refine ⟨.int (0 + i), _, fq q, S3, by simp [Itd.at', hi], put_nm _ _ _ _, e1, h7, by simp; omega, qs ++ [q], by simp, by simp [h2], ?_, ?_, ?_, ?_⟩
      · intro w hw
        rcases List.mem_append.mp hw with h | h
        · exact h3 _ h
        · rw [List.mem_singleton.mp h]; exact hq
      · rw [show k + 2 * (i + 1) = k + 2 * i + 2 by omega]; exact Pen.setn p1 hl
      · rw [List.getElem?_set_self (List.getElem?_eq_some_iff.mp h7).1]
      · intro n o hn ho
        have hlt := (List.getElem?_eq_some_iff.mp ho).1
        rw [List.getElem?_set_ne (by omega)]
        exact r1.2 _ _ hn (h6 n o hn ho)) (by
      rintro acc S' _
      simp [Itd.at']) cnt 0 [] (S ++ [.lst []]) (by omega) (by omega) ⟨[], rfl, rfl, by simp, h.app, at_end, fun n o hn ho => at_app ho⟩
  obtain ⟨acc, S', e1, qs, rfl, h2, h3, h4, h5, h6⟩ := main
  have g : gd (-(2 ^ 62) ≤ (cnt : Int) ∧ (cnt : Int) < 2 ^ 62) = true := gd_of (by omega)
  refine ⟨qs, S', ?_, h5, h2, h3, h4, h6⟩
  unfold eLc DL.iRng
  simp only [aCons_eq, eC_eq, aNil_eq, bind_ok, g, if_true, Itd.size, Int.toNat_natCast]
  exact e1
theorem near_ok (h : Pen S ns k) (hk : k + 400 ≤ 1000000000000) (ht : Tok ss R) (hR : Bq 30 R) : ∃ ss' R' S', F_l_near [.ob 2, td ss R] S = .ok (td ss' R') S' ∧ Tok ss' R' ∧ Pen S' ns (k + 400) := by
  have bh : Bq 2 hlf := ⟨by decide, by decide⟩
  have fh : fq hlf = .tup [.int 1, .int 2] := rfl
  have a1 := fun S => l_add_ok hR bh (by decide) S
  rw [fh] at a1
  have b1 : Bq 40 (R + hlf) := (Bq_add hR bh).mono (by decide)
  have r0 : 0 < R + hlf := by
    have := ht.r0
    have h2 : 0 < hlf := by rw [← num_pos]; decide
    grind
  have ix1 : ∀ S, oIx (td ss R) (.int 1) S = .ok (fq R) S := fun S => rfl
  have ix0 : ∀ S, oIx (td ss R) (.int 0) S = .ok (.tup (ss.map sd)) S := fun S => rfl
  have e0 : c_l_near_0 [some (.ob 2), some (td ss R), none] S = .nx [some (.ob 2), some (td ss R), some (fq (R + hlf))] S := by
    simp [c_l_near_0, ix1, a1]
  obtain ⟨d, S1, e1, d0, d1, p1, r1, _⟩ := draw_ok (m := 2) h (by omega) (by decide) (by decide)
  obtain ⟨ss', R', S2, e2, t2, p2⟩ := tempo_ok (most := 3) p1 (by omega) (by decide) (by decide)
  have nt : ∀ S, oNe (.tup (ss.map sd)) (.tup []) S = .ok (.bl (!ss.isEmpty)) S := fun S => by
    have s1 : SeqAt.shaped (.tuple (ss.map psd)) = true := by
      have := dep_map psd_dep ss
      have := lay_map psd_lay ss
      simp [SeqAt.shaped, PyData.canLay0, PyData.depth, *]
      omega
    have s2 : SeqAt.shaped (.tuple []) = true := by simp [SeqAt.shaped, PyData.canLay0, PyData.canLayAll0, PyData.depth, PyData.depthAll]
    have ev : PyData.eqv (.tuple (ss.map psd)) (.tuple []) = ss.isEmpty := by cases ss <;> simp [PyData.eqv, PyData.eqvAll]
    have q1 : pyOf 40 S (.tup (ss.map sd)) = some (.tuple (ss.map psd)) := by
      show (pyOf.pyAll (pyOf 39 S) (ss.map sd)).map PyData.tuple = _
      rw [pyAll_map (pyOf_sd S) ss]; rfl
    have q2 : pyOf 40 S (.tup []) = some (.tuple []) := rfl
    simp only [oNe, oEqG, q1, q2, s1, s2, ev]
    simp
  by_cases hd : d = 0
  · refine ⟨ss', R', S2, run_rt ?_, t2, p2.mono (by omega)⟩
    show b_l_near [some (.ob 2), some (td ss R), none] S = _
    unfold b_l_near
    rw [seq_nx e0]
    exact seq_rt (by simp [c_l_near_1, e1, hd, e2]) _
  · by_cases he : ss = []
    · have ie : ss.isEmpty = true := by simpa using he
      refine ⟨ss, R + hlf, S1, run_rt ?_, ⟨ht.n24, ht.all, r0, b1, ht.sum, ht.plain, fun hne => absurd he hne⟩, p1.mono (by omega)⟩
      show b_l_near [some (.ob 2), some (td ss R), none] S = _
      unfold b_l_near
      rw [seq_nx e0, seq_nx (ρ' := [some (.ob 2), some (td ss R), some (fq (R + hlf))]) (S' := S1) (by simp [c_l_near_1, e1, hd, ix0, nt, ie])]
      simp [c_l_near_2, ix0, td]
    · have ie : ss.isEmpty = false := by simpa using he
      have c1 : ∀ S, oSl (sd (ss.getLast he)) (some 1) none S = .ok (.tup [fq (ss.getLast he).f, fq (ss.getLast he).l]) S := fun S => rfl
      by_cases hr : (ss.getLast he).f = R + hlf ∧ (ss.getLast he).l = R + hlf
      · refine ⟨ss', R', S2, run_rt ?_, t2, p2.mono (by omega)⟩
        show b_l_near [some (.ob 2), some (td ss R), none] S = _
        unfold b_l_near
        rw [seq_nx e0]
        exact seq_rt (by simp [c_l_near_1, e1, hd, ix0, nt, ie, at_last he, c1, oEq_pair, hr, e2]) _
      · refine ⟨ss, R + hlf, S1, run_rt ?_, ⟨ht.n24, ht.all, r0, b1, ht.sum, ht.plain, fun hne => hr⟩, p1.mono (by omega)⟩
        show b_l_near [some (.ob 2), some (td ss R), none] S = _
        unfold b_l_near
        rw [seq_nx e0, seq_nx (ρ' := [some (.ob 2), some (td ss R), some (fq (R + hlf))]) (S' := S1) (by simp [c_l_near_1, e1, hd, ix0, nt, ie, at_last he, c1, oEq_pair, hr])]
        simp [c_l_near_2, ix0, td]
end
end Lk10
set_option Elab.async false
set_option linter.all false
set_option maxRecDepth 100000
/-! places of moments: the law's places, its long stretches, its fine numbers -/
namespace Lk10
open PySem L2 DL Fx
section
variable {S : Sto} {ns : List Int} {k n m : Nat} {ss : List Fx.St} {R p x : Rat} {x0 x1 x2 x3 x4 x5 x6 x7 x8 : Option D}
theorem lpl (h : Pen S ns k) (hk : k + 50 ≤ 1000000000000) (ht : Tok ss R) : ∃ (n : Nat) (ps : List Rat) (S' : Sto), Lk10.F_l_places [.ob 2, td ss R] S = .ok (.ob n) S' ∧ S'[n]? = some (.lst (ps.map fq)) ∧ 2 < n ∧ (∀ p ∈ ps, Sm0 p) ∧ Pen S' ns (k + 50) := by
  have hl := h.lt
  obtain ⟨es, e0, elen, elen2, eb⟩ := edges_ok ht S
  have P0 : Pen (S ++ [.lst (es.map D.int)]) ns k := h.app
  have E0 : (S ++ [O.lst (es.map D.int)])[S.length]? = some (.lst (es.map D.int)) := at_end
  generalize S ++ [O.lst (es.map D.int)] = S0 at e0 P0 E0
  have edge : ∀ (T : Sto) (k : Nat), Pen T ns k → k + 1 ≤ 1000000000000 → ∃ (d : Int) (T' : Sto) (v : Int), F_l_draw [.ob 2, .int es.length] T = .ok (.int d) T' ∧ (∀ U : Sto, U[S.length]? = some (.lst (es.map D.int)) → oIx (.ob S.length) (.int d) U = .ok (.int v) U) ∧ 0 ≤ v ∧ v ≤ 200000 ∧ Pen T' ns (k + 1) ∧ Fr T T' := by
    intro T k p hk
    obtain ⟨d, T', e, d0, d1, p', r', _⟩ := draw_ok (m := es.length) p (by omega) (by omega) (by omega)
    obtain ⟨v, hv, ev⟩ := atI_mem (xs := es.map D.int) d0 (by simpa using d1)
    obtain ⟨w, hw, rfl⟩ := List.mem_map.mp hv
    exact ⟨d, T', w, e, fun U hU => by simp [oIx_ob hU, ev], (eb w hw).1, (eb w hw).2, p', r'⟩
  obtain ⟨z, hz, zl⟩ : ∃ z ∈ es, atI (es.map D.int) (-1) = some (.int z) := by
    refine ⟨es[es.length - 1], List.getElem_mem _, ?_⟩
    unfold atI ixN
    rw [List.length_map, if_neg (by decide), if_pos (by omega)]
    rw [show (-1 + (es.length : Int)).toNat = es.length - 1 by omega]
    simp only [Option.bind_some, List.getElem?_map]
    rw [List.getElem?_eq_getElem (by omega)]; rfl
  have zb := eb z hz
  obtain ⟨d, S1, v, e1, i1, v0, v1, p1, r1⟩ := edge S0 k P0 (by omega)
  have E1 := r1.2 _ _ (by omega) E0
  obtain ⟨u, S2, e2, u0, u1, p2, r2, _⟩ := draw_ok (m := 9000) p1 (by omega) (by decide) (by decide)
  have E2 := r2.2 _ _ (by omega) E1
  have c1 : Lk10.c_l_places_1 [some (.ob 2), some (td ss R), some (.ob S.length), none, none, none] S0 = .nx [some (.ob 2), some (td ss R), some (.ob S.length), some (.ob S2.length), none, none] (S2 ++ [.lst ([0, (v : Rat), ((z + u : Int) : Rat)].map fq)]) := by
    simp only [List.map_cons, List.map_nil, fq_int, fq_zero]
    simp [c_l_places_1, cLen_ob E0, e1, i1 _ E1, oIx_ob E1, zl, e2]
  have P3 : Pen (S2 ++ [O.lst ([0, (v : Rat), ((z + u : Int) : Rat)].map fq)]) ns (k + 1 + 1) := p2.app
  have L3 : (S2 ++ [O.lst ([0, (v : Rat), ((z + u : Int) : Rat)].map fq)])[S2.length]? = some (.lst ([0, (v : Rat), ((z + u : Int) : Rat)].map fq)) := at_end
  have E3 := at_app (e := [O.lst ([0, (v : Rat), ((z + u : Int) : Rat)].map fq)]) E2
  have l2 := p2.lt
  generalize S2 ++ [O.lst ([0, (v : Rat), ((z + u : Int) : Rat)].map fq)] = S3 at c1 P3 L3 E3
  obtain ⟨d2, S4, v2, e4, i4, v20, v21, p4, r4⟩ := edge S3 _ P3 (by omega)
  have E4 := r4.2 _ _ (by omega) E3
  have L4 := r4.2 _ _ (by omega) L3
  obtain ⟨w, S5, e5, w0, w1, p5, r5, _⟩ := draw_ok (m := 1 + z) p4 (by omega) (by omega) (by omega)
  have L5 := r5.2 _ _ (by omega) L4
  generalize S2.length = N at c1 L5 l2
  have base : ∀ p ∈ [0, (v : Rat), ((z + u : Int) : Rat)], Sm0 p := by
    intro p hp
    simp only [List.mem_cons, List.not_mem_nil, or_false] at hp
    rcases hp with rfl | rfl | rfl
    · exact Sm0.int (i := 0) (by decide) (by decide)
    · exact Sm0.int (by omega) (by omega)
    · exact Sm0.int (by omega) (by omega)
  have main := for_tup (a := eTup (aCons (eOp oIx (eVar 2) (eCall F_l_draw (aCons (eVar 0) (aCons (eB cLen (aCons (eVar 2) aNil)) aNil)))) (aCons (eCall F_l_draw (aCons (eVar 0) (aCons (eOp oAdd (eC (.int 1)) (eOp oIx (eVar 2) (eNeg (eC (.int 1))))) aNil))) aNil))) (j := 4) (b := sSeq c_l_places_2_0 c_l_places_2_1)
    (ρ := [some (.ob 2), some (td ss R), some (.ob S.length), some (.ob N), none, none]) (S := S3) (S1 := S5) (xs := [.int v2, .int w])
    (fun i ρ S' => ∃ (y4 y5 : Option D) (ps : List Rat), ρ = [some (.ob 2), some (td ss R), some (.ob S.length), some (.ob N), y4, y5] ∧ S'[N]? = some (.lst (ps.map fq)) ∧ ps.length = 3 + i ∧ (∀ p ∈ ps, Sm0 p) ∧ Pen S' ns (k + 4 + 2 * i))
    (by simp [cLen_ob E3, e4, i4 _ E4, oIx_ob E4, zl, e5]) ⟨_, _, _, rfl, L5, rfl, base, p5⟩ (by
      rintro i hi ρ S' ⟨y4, y5, ps, rfl, l, hn, hps, p⟩
      have hi2 : i < 2 := by simpa using hi
      have hv : ∃ q : Int, [D.int v2, .int w][i] = .int q ∧ 0 ≤ q ∧ q ≤ 200000 := by
        match i, hi with
        | 0, _ => exact ⟨v2, rfl, v20, v21⟩
        | 1, _ => exact ⟨w, rfl, w0, by omega⟩
      obtain ⟨q, hq, q0, q1⟩ := hv
      rw [hq]
      obtain ⟨a, T1, f1, a0, a1, p1, r1, _⟩ := draw_ok (m := 996) p (by omega) (by decide) (by decide)
      obtain ⟨b, T2, f2, b0, b1, p2, r2, _⟩ := draw_ok (m := 2 + a - 1) p1 (by omega) (by omega) (by omega)
      have l1 := r1.2 _ _ (by omega) l
      have l2' := r2.2 _ _ (by omega) l1
      have lt := (List.getElem?_eq_some_iff.mp l2').1
      have A := addI (i := q) (a := 1 + b) (b := 2 + a) q0 (by omega) (by omega) (by omega) (by omega) (by omega)
      have sm := Sm0.add (i := q) (a := 1 + b) (b := 2 + a) q0 (by omega) (by omega) (by omega) (by omega) (by omega)
      generalize (q : Rat) + Rat.divInt (1 + b) (2 + a) = val at A sm
      have g0 : c_l_places_2_0 [some (.ob 2), some (td ss R), some (.ob S.length), some (.ob N), some (.int q), y5] S' = .nx [some (.ob 2), some (td ss R), some (.ob S.length), some (.ob N), some (.int q), some (.int (2 + a))] T1 := by
        simp [c_l_places_2_0, f1]
      have g1 := eApp_ok (a := eVar 3) (b := eCall F_l_add (aCons (eTup (aCons (eVar 4) (aCons (eC (.int 1)) aNil))) (aCons (eCall F_l_low (aCons (eOp oAdd (eC (.int 1)) (eCall F_l_draw (aCons (eVar 0) (aCons (eOp oSub (eVar 5) (eC (.int 1))) aNil)))) (aCons (eVar 5) aNil))) aNil)))
        (ρ := [some (.ob 2), some (td ss R), some (.ob S.length), some (.ob N), some (.int q), some (.int (2 + a))]) (S := T1) (S1 := T1) (S2 := T2) (n := N) (d := fq val) (by simp) l1 (by simp [f2, (A _).1, (A _).2]) l2' (by simp; omega)
      refine ⟨[some (.ob 2), some (td ss R), some (.ob S.length), some (.ob N), some (.int q), some (.int (2 + a))], T2.set N (.lst (ps.map fq ++ [fq val])), ?_, _, _, ps ++ [val], rfl, by rw [List.getElem?_set_self lt]; simp, by simp; omega, ?_, ?_⟩
      · exact (seq_nx g0 _).trans (by simp only [c_l_places_2_1, sExpr_eq, g1, sb_ok])
      · intro p hp
        rcases List.mem_append.mp hp with h | h
        · exact hps p h
        · rw [List.mem_singleton.mp h]; exact sm
      · rw [show k + 4 + 2 * (i + 1) = k + 4 + 2 * i + 1 + 1 by omega]
        exact Pen.setn p2 l2)
  obtain ⟨ρ', S6, e6, y4, y5, ps, rfl, l6, _, hps, p6⟩ := main
  refine ⟨N, ps, S6, run_rt ?_, l6, l2, hps, p6.mono (by simp)⟩
  show Lk10.b_l_places [some (.ob 2), some (td ss R), none, none, none, none] S = _
  unfold Lk10.b_l_places
  rw [seq_nx (ρ' := [some (.ob 2), some (td ss R), some (.ob S.length), none, none, none]) (S' := S0) (by simp [Lk10.c_l_places_0, e0]), seq_nx c1]
  rw [seq_nx (show Lk10.c_l_places_2 [some (.ob 2), some (td ss R), some (.ob S.length), some (.ob N), none, none] S3 = _ from e6)]
  simp [Lk10.c_l_places_3]
theorem half_Sm0 {i : Int} (h0 : 0 ≤ i) (h1 : i ≤ 200000) : Sm0 ((i : Rat) + 1 / 2) ∧ fq ((i : Rat) + 1 / 2) = .tup [.int (2 * i + 1), .int 2] := by
  have cop : Nat.Coprime (2 * i + 1).natAbs 2 := by
    have : (2 * i + 1).natAbs % 2 = 1 := by omega
    rw [Nat.Coprime, Nat.gcd_comm, Nat.gcd_rec, this]
    decide
  have e : (i : Rat) + 1 / 2 = (⟨2 * i + 1, 2, by decide, cop⟩ : Rat) := by
    have := num_den (⟨2 * i + 1, 2, by decide, cop⟩ : Rat)
    have h : (⟨2 * i + 1, 2, by decide, cop⟩ : Rat) * ((2 : Int) : Rat) = ((2 * i + 1 : Int) : Rat) := this
    generalize (⟨2 * i + 1, 2, by decide, cop⟩ : Rat) = q at h
    grind
  have c := cast_nn h0
  refine ⟨⟨by grind, ?_⟩, by rw [e]; rfl⟩
  rw [e]
  exact ⟨by show (2 * i + 1).natAbs < 2 ^ 60; omega, by show 2 < 2 ^ 60; decide⟩
theorem farright_ok (h : Pen S ns k) (hk : k + 500 ≤ 1000000000000) : ∃ S', F_l_far_right [.ob 2] S = .ok (.bl true) S' ∧ Pen S' ns (k + 500) := by
  obtain ⟨d, S1, e1, d0, d1, p1, r1, _⟩ := draw_ok (m := 2) h (by omega) (by decide) (by decide)
  have tm : ∃ (ss : List Fx.St) (R : Rat) (S2 : Sto), c_l_far_right_0 [some (.ob 2), none, none, none, none, none, none] S = .nx [some (.ob 2), some (td ss R), none, none, none, none, none] S2 ∧ Tok ss R ∧ Pen S2 ns (k + 301) ∧ 17 ≤ (ss.map Fx.St.m).sum := by
    by_cases hd : d = 0
    · obtain ⟨ss, R, S2, e2, t2, p2, g⟩ := far_ok17 p1 (by omega)
      exact ⟨ss, R, S2, by simp [c_l_far_right_0, e1, hd, e2], t2, p2.mono (by omega), g⟩
    · obtain ⟨ss, R, S2, e2, t2, p2, g⟩ := wide_ok17 p1 (by omega)
      exact ⟨ss, R, S2, by simp [c_l_far_right_0, e1, hd, e2], t2, p2.mono (by omega), g⟩
  obtain ⟨ss, R, S2, e2, ht, p2, g17⟩ := tm
  have smax := ht.sum
  have n24 := ht.n24
  have l2 := lc_mapT (a := eOp oIx (eVar 1) (eC (.int 0))) (j := 3) (e := eOp oIx (eVar 3) (eC (.int 0))) (own := [3]) (ρ := [some (.ob 2), some (td ss R), none, none, none, none, none]) (S := S2) (S1 := S2) (qs := ss) sd (fun s => D.int s.m) (by simp [td]) (by omega) (by
    intro s hs S2
    simp [wipeD, sd])
  have a2 : cSum [.ob S2.length] (S2 ++ [.lst (ss.map fun s => D.int s.m)]) = .ok (.int (ss.map Fx.St.m).sum) (S2 ++ [.lst (ss.map fun s => D.int s.m)]) := by
    have := allInt_map ss Fx.St.m
    simp only [cSum, at_end, this]
  have p3 : Pen (S2 ++ [O.lst (ss.map fun s => D.int s.m)]) ns (k + 301) := p2.app
  have e3 : c_l_far_right_1 [some (.ob 2), some (td ss R), none, none, none, none, none] S2 = .nx [some (.ob 2), some (td ss R), some (.int (ss.map Fx.St.m).sum), none, none, none, none] (S2 ++ [.lst (ss.map fun s => D.int s.m)]) := by
    simp only [c_l_far_right_1, sAsg_nm, eB_eq, aCons_eq, aNil_eq, l2, bind_ok, a2, sb_ok, List.set]
  generalize S2 ++ [O.lst (ss.map fun s => D.int s.m)] = S3 at p3 e3
  generalize (ss.map Fx.St.m).sum = tt at smax g17 e3
  obtain ⟨a, S4, f1, a0, a1, p4, _, _⟩ := draw_ok (m := tt) p3 (by omega) (by omega) (by omega)
  obtain ⟨b, S5, f2, b0, b1, p5, _, _⟩ := draw_ok (m := 9) p4 (by omega) (by omega) (by omega)
  obtain ⟨c, S6, f3, c0, c1, p6, _, _⟩ := draw_ok (m := 9) p5 (by omega) (by omega) (by omega)
  obtain ⟨e, S7, f4, e0, e1', p7, _, _⟩ := draw_ok (m := tt) p6 (by omega) (by omega) (by omega)
  have main := for_tup (a := eTup (aCons (eCall F_l_draw (aCons (eVar 0) (aCons (eVar 2) aNil))) (aCons (eOp oSub (eOp oSub (eVar 2) (eC (.int 1))) (eCall F_l_draw (aCons (eVar 0) (aCons (eC (.int 9)) aNil)))) (aCons (eCall F_l_draw (aCons (eVar 0) (aCons (eC (.int 9)) aNil))) (aCons (eCall F_l_draw (aCons (eVar 0) (aCons (eVar 2) aNil))) aNil))))) (j := 4) (b := c_l_far_right_2_0)
    (ρ := [some (.ob 2), some (td ss R), some (.int tt), none, none, none, none]) (S := S3) (S1 := S7) (xs := [.int a, .int (tt - 1 - b), .int c, .int e])
    (fun i ρ S' => ∃ (y4 y5 y6 : Option D), ρ = [some (.ob 2), some (td ss R), some (.int tt), none, y4, y5, y6] ∧ Pen S' ns (k + 400)) (by simp [f1, f2, f3, f4]) ⟨_, _, _, rfl, p7.mono (by omega)⟩ (by
      rintro i hi ρ S' ⟨y4, y5, y6, rfl, p⟩
      have hv : ∃ q : Int, [D.int a, .int (tt - 1 - b), .int c, .int e][i] = .int q ∧ 0 ≤ q ∧ q ≤ 200000 := by
        match i, hi with
        | 0, _ => exact ⟨a, rfl, a0, by omega⟩
        | 1, _ => exact ⟨_, rfl, by omega, by omega⟩
        | 2, _ => exact ⟨c, rfl, c0, by omega⟩
        | 3, _ => exact ⟨e, rfl, e0, by omega⟩
      obtain ⟨q, hq, q0, q1⟩ := hv
      rw [hq]
      have g2 : mulOk 2 q = true := mulOk_of (a := 20) (b := 20) (by decide) (by omega) (by decide)
      have hh := half_Sm0 q0 q1
      have inn := for_tup (a := eTup (aCons (eTup (aCons (eVar 4) (aCons (eC (.int 1)) aNil))) (aCons (eTup (aCons (eOp oAdd (eOp oMul (eC (.int 2)) (eVar 4)) (eC (.int 1))) (aCons (eC (.int 2)) aNil))) aNil))) (j := 5) (b := sSeq c_l_far_right_2_0_0 c_l_far_right_2_0_1)
        (ρ := [some (.ob 2), some (td ss R), some (.int tt), none, some (.int q), y5, y6]) (S := S') (S1 := S') (xs := [fq (q : Rat), fq ((q : Rat) + 1 / 2)])
        (fun i ρ S' => ∃ (y5 y6 : Option D), ρ = [some (.ob 2), some (td ss R), some (.int tt), none, some (.int q), y5, y6] ∧ Pen S' ns (k + 400)) (by rw [hh.2, fq_int]; simp [oMul_int _ g2]) ⟨_, _, rfl, p⟩ (by
          rintro i hi ρ T ⟨z5, z6, rfl, pT⟩
          have hw : ∃ w : Rat, [fq (q : Rat), fq ((q : Rat) + 1 / 2)][i] = fq w ∧ Sm0 w := by
            match i, hi with
            | 0, _ => exact ⟨_, rfl, Sm0.int q0 (by omega)⟩
            | 1, _ => exact ⟨_, rfl, hh.1⟩
          obtain ⟨w, hw, sw⟩ := hw
          rw [hw]
          obtain ⟨ee, m1, _⟩ := moment_of_ok (np := 60) ht sw.2 (by decide) sw.1 T
          obtain ⟨ee2, m2⟩ := chk (a := 1) (b := 5) (c := 6) (ρ := [some (.ob 2), some (td ss R), some (.int tt), none, some (.int q), some (fq w), some (fq (mo ss R w))]) ht sw.1 sw.2 (fun S => by simp) (fun S => by simp) (fun S => by simp) (T ++ ee)
          have n1 : c_l_far_right_2_0_0 [some (.ob 2), some (td ss R), some (.int tt), none, some (.int q), some (fq w), z6] T = .nx [some (.ob 2), some (td ss R), some (.int tt), none, some (.int q), some (fq w), some (fq (mo ss R w))] (T ++ ee) := by simp [c_l_far_right_2_0_0, m1]
          have n2 : c_l_far_right_2_0_1 [some (.ob 2), some (td ss R), some (.int tt), none, some (.int q), some (fq w), some (fq (mo ss R w))] (T ++ ee) = .nx [some (.ob 2), some (td ss R), some (.int tt), none, some (.int q), some (fq w), some (fq (mo ss R w))] (T ++ ee ++ ee2) := by
            simp only [c_l_far_right_2_0_1, sIf_eq, m2, sb_ok, Bool.false_eq_true, if_false, sNil_eq]
          exact ⟨_, _, (seq_nx n1 _).trans n2, _, _, rfl, pT.app.app⟩)
      obtain ⟨ρ', S'', n3, z5, z6, rfl, p'⟩ := inn
      exact ⟨_, S'', n3, _, _, _, rfl, p'⟩)
  obtain ⟨ρ', S8, e8, y4, y5, y6, rfl, p8⟩ := main
  refine ⟨S8, run_rt ?_, p8.mono (by omega)⟩
  show b_l_far_right [some (.ob 2), none, none, none, none, none, none] S = _
  unfold b_l_far_right
  rw [seq_nx e2, seq_nx e3]
  rw [seq_nx (show c_l_far_right_2 [some (.ob 2), some (td ss R), some (.int tt), none, none, none, none] S3 = _ from e8)]
  simp [c_l_far_right_3]
end
end Lk10
set_option Elab.async false
set_option linter.all false
set_option maxRecDepth 100000
/-! places of moments: fine numbers, the law is true -/
namespace Lk10
open PySem L2 DL Fx
theorem pqd_dec (p q : Rat) : PyData.eqv (pqd p) (pqd q) = decide (p = q) := by
  have h := fq_pair p q
  have e : PyData.eqv (pqd p) (pqd q) = decide (p.num = q.num ∧ (p.den : Int) = (q.den : Int)) := by
    simp only [pqd, PyData.eqv, PyData.eqvAll, Bool.and_true, Bool.decide_and]
    rfl
  rw [e]
  simp only [h]
section
variable {S : Sto} {ns : List Int} {k n m : Nat} {ss : List Fx.St} {R p x : Rat} {x0 x1 x2 x3 x4 x5 x6 x7 x8 : Option D}
theorem oEq_two {a b c d : Rat} (h1 : S[n]? = some (.lst [fq a, fq b])) (h2 : S[m]? = some (.lst [fq c, fq d])) : oEq (.ob n) (.ob m) S = .ok (.bl (decide (a = c ∧ b = d))) S := by
  have s1 := shaped_map pqd_lay pqd_dep [a, b]
  have s2 := shaped_map pqd_lay pqd_dep [c, d]
  have e : PyData.eqv (.list ([a, b].map pqd)) (.list ([c, d].map pqd)) = decide (a = c ∧ b = d) := by
    simp only [List.map_cons, List.map_nil, PyData.eqv, PyData.eqvAll, pqd_dec, Bool.and_true, Bool.decide_and]
  simp only [oEq, oEqG, pyOf_lst h1 (pyAll_map (g := fq) (pyOf_fq S) [a, b]), pyOf_lst h2 (pyAll_map (g := fq) (pyOf_fq S) [c, d]), s1, s2, e]
  simp
theorem pow12 (S : Sto) : oPow (.int 10) (.int 12) S = .ok (.int 1000000000000) S := oPow_int S (by decide)
/-- a fraction above 0, of twelve figures -/
def Fi (q : Rat) : Prop := 0 < q ∧ Bq 40 q
theorem Fi_of {a b : Int} (h1 : 1 ≤ a) (h2 : a ≤ 1000000000000) (h3 : 1 ≤ b) (h4 : b ≤ 1000000000000) : Fi (Rat.divInt a b) := by
  refine ⟨?_, Bq_divInt (by omega) (by omega) (by omega)⟩
  rw [divInt_div]
  have p1 : (0 : Rat) < (a : Rat) := by
    have : ((0 : Int) : Rat) < (a : Rat) := by rw [clt]; omega
    exact this
  have p2 : (0 : Rat) < (b : Rat) := by
    have : ((0 : Int) : Rat) < (b : Rat) := by rw [clt]; omega
    exact this
  refine pos_of_mul p2 ?_
  have : (b : Rat) * ((a : Rat) / (b : Rat)) = (a : Rat) := by grind
  rw [this]; exact p1
theorem fineright_ok (h : Pen S ns k) (hk : k + 200 ≤ 1000000000000) : ∃ S', F_l_fine_right [.ob 2] S = .ok (.bl true) S' := by
  have hl := h.lt
  -- five fine ones
  obtain ⟨qs, S1, e1, l1, n1, f1, p1, k1⟩ := drawn (S := S) (e := eCall F_l_low (aCons (eOp oAdd (eC (.int 1)) (eCall F_l_draw (aCons (eVar 0) (aCons (eOp oSub (eOp oPow (eC (.int 10)) (eC (.int 12))) (eC (.int 1))) aNil)))) (aCons (eOp oSub (eOp oSub (eOp oPow (eC (.int 10)) (eC (.int 12))) (eC (.int 1))) (eCall F_l_draw (aCons (eVar 0) (aCons (eC (.int 99)) aNil)))) aNil)))
    (own := [2]) (j := 2) (ρ := [some (.ob 2), none, none, none, none, none, none]) 5 (by decide) h (by omega) Fi (by
      intro i S' k' p hk'
      obtain ⟨a, T1, g1, a0, a1, q1, r1, _⟩ := draw_ok (m := 999999999999) p (by omega) (by decide) (by decide)
      obtain ⟨b, T2, g2, b0, b1, q2, r2, _⟩ := draw_ok (m := 99) q1 (by omega) (by decide) (by decide)
      have lw := l_low_ok T2 (a := 1 + a) (b := 999999999999 - b) (by omega) (pow_mono (n := 40) (by omega) (by omega)) (pow_mono (n := 40) (by omega) (by omega))
      exact ⟨_, T2, by simp [wipeD, pow12, g1, g2, lw]; rfl, Fi_of (by omega) (by omega) (by omega) (by omega), q2, r1.trans r2⟩)
  obtain ⟨gs, S2, e2, l2, n2, f2, p2, k2⟩ := drawn (S := S1) (e := eCall F_l_low (aCons (eOp oAdd (eC (.int 1)) (eCall F_l_draw (aCons (eVar 0) (aCons (eOp oSub (eOp oPow (eC (.int 10)) (eC (.int 12))) (eC (.int 1))) aNil)))) (aCons (eOp oAdd (eC (.int 1)) (eCall F_l_draw (aCons (eVar 0) (aCons (eC (.int 999)) aNil)))) aNil)))
    (own := [2]) (j := 2) (ρ := [some (.ob 2), some (.ob S.length), none, none, none, none, none]) 2 (by decide) p1 (by omega) Fi (by
      intro i S' k' p hk'
      obtain ⟨a, T1, g1, a0, a1, q1, r1, _⟩ := draw_ok (m := 999999999999) p (by omega) (by decide) (by decide)
      obtain ⟨b, T2, g2, b0, b1, q2, r2, _⟩ := draw_ok (m := 999) q1 (by omega) (by decide) (by decide)
      have lw := l_low_ok T2 (a := 1 + a) (b := 1 + b) (by omega) (pow_mono (n := 40) (by omega) (by omega)) (pow_mono (n := 40) (by omega) (by omega))
      exact ⟨_, T2, by simp [wipeD, pow12, g1, g2, lw]; rfl, Fi_of (by omega) (by omega) (by omega) (by omega), q2, r1.trans r2⟩)
  have l1b := k2 _ _ (by omega) l1
  have hl1 := p1.lt
  match qs, n1, gs, n2, f1, f2, l1b, l2 with
  | [a, b, c, d, e], _, [g, g'], _, f1, f2, l1b, l2 =>
    have fa := f1 a (by simp)
    have fb := f1 b (by simp)
    have fc := f1 c (by simp)
    have fd := f1 d (by simp)
    have fe := f1 e (by simp)
    have fg := f2 g (by simp)
    have fg' := f2 g' (by simp)
    obtain ⟨u, S3, e3, u0, u1, p3, r3, _⟩ := draw_ok (m := 9000) p2 (by omega) (by decide) (by decide)
    have l1c := r3.2 _ _ (by omega) l1b
    have l2c := r3.2 _ _ (by omega) l2
    simp only [List.map_cons, List.map_nil] at l1c l2c
    generalize S.length = N at e1 l1 l1b l1c e2
    generalize S1.length = M at e2 l2 l2c
    have c0 : c_l_fine_right_0 [some (.ob 2), none, none, none, none, none, none] S = .nx [some (.ob 2), some (.ob N), none, none, none, none, none] S1 := by
      simp only [c_l_fine_right_0, sAsg_nm]
      rw [show eC (.int 5) = eC (.int ((5 : Nat) : Int)) from rfl, e1]
      rfl
    have c1 : c_l_fine_right_1 [some (.ob 2), some (.ob N), none, none, none, none, none] S1 = .nx [some (.ob 2), some (.ob N), none, some (.ob M), none, none, none] S2 := by
      simp only [c_l_fine_right_1, sAsg_nm]
      rw [show eC (.int 2) = eC (.int ((2 : Nat) : Int)) from rfl, e2]
      rfl
    have c2 : c_l_fine_right_2 [some (.ob 2), some (.ob N), none, some (.ob M), none, none, none] S2 = .nx [some (.ob 2), some (.ob N), none, some (.ob M), some (td [⟨1 + u, a, b⟩] c), none, none] S3 := by
      simp [c_l_fine_right_2, e3, oIx_ob l1c, td, sd]
    -- the tempo
    have tm : ∃ (ss : List Fx.St) (R : Rat) (S4 : Sto), c_l_fine_right_3 [some (.ob 2), some (.ob N), none, some (.ob M), some (td [⟨1 + u, a, b⟩] c), none, none] S3 = .nx [some (.ob 2), some (.ob N), none, some (.ob M), some (td ss R), none, none] S4 ∧ Tok ss R ∧ S4[N]? = some (.lst [fq a, fq b, fq c, fq d, fq e]) ∧ S4[M]? = some (.lst [fq g, fq g']) := by
      have cc : cutD [fq a, fq b, fq c, fq d, fq e] none (some 2) = [fq a, fq b] := rfl
      have l5 := at_app (e := [O.lst [fq a, fq b]]) l1c
      have q1 := oEq_two (S := S3 ++ [O.lst [fq a, fq b], O.lst [fq c, fq c]]) (n := S3.length) (m := S3.length + 1) (a := a) (b := b) (c := c) (d := c) (at_k (j := 0)) (at_k (j := 1))
      by_cases hh : a = c ∧ b = c
      · rw [decide_eq_true hh] at q1
        exact ⟨[], c, S3 ++ [O.lst [fq a, fq b], O.lst [fq c, fq c]], by simp [c_l_fine_right_3, oSl_ob l1c, cc, oIx_ob l5, q1, oIx_ob (at_app (e := [O.lst [fq a, fq b], O.lst [fq c, fq c]]) l1c), td] , ⟨by simp, by simp, fc.1, fc.2, by simp, fun i h => by simp at h, fun h => absurd rfl h⟩, at_app l1c, at_app l2c⟩
      · refine ⟨[⟨1 + u, a, b⟩], c, S3 ++ [O.lst [fq a, fq b], O.lst [fq c, fq c]], by simp [c_l_fine_right_3, oSl_ob l1c, cc, oIx_ob l5, q1, hh], ⟨by simp, ?_, fc.1, fc.2, by simp; omega, fun i h => by simp at h, fun h hx => hh (by simpa using hx)⟩, at_app l1c, at_app l2c⟩
        intro s hs
        rw [List.mem_singleton.mp hs]
        exact ⟨by show 1 ≤ 1 + u; omega, by show 1 + u ≤ 200000; omega, fa.1, fb.1, fa.2, fb.2⟩
    obtain ⟨ss, R, S4, c3, ht, l1d, l2d⟩ := tm
    have main4 := for_tup (a := eTup (aCons (eOp oIx (eVar 1) (eC (.int 3))) (aCons (eOp oIx (eVar 3) (eC (.int 0))) aNil))) (j := 5) (b := sSeq c_l_fine_right_4_0 c_l_fine_right_4_1)
      (ρ := [some (.ob 2), some (.ob N), none, some (.ob M), some (td ss R), none, none]) (S := S4) (S1 := S4) (xs := [fq d, fq g])
      (fun i ρ S' => ∃ (y5 y6 : Option D) (E : Sto), ρ = [some (.ob 2), some (.ob N), none, some (.ob M), some (td ss R), y5, y6] ∧ S' = S4 ++ E) (by simp [oIx_ob l1d, oIx_ob l2d]) ⟨_, _, [], rfl, by simp⟩ (by
        rintro i hi ρ T ⟨z5, z6, E, rfl, rfl⟩
        have hw : ∃ w : Rat, [fq d, fq g][i] = fq w ∧ Sm0 w := by
          match i, hi with
          | 0, _ => exact ⟨d, rfl, by have := fd.1; grind, fd.2.mono (by decide)⟩
          | 1, _ => exact ⟨g, rfl, by have := fg.1; grind, fg.2.mono (by decide)⟩
        obtain ⟨w, hw, sw⟩ := hw
        rw [hw]
        obtain ⟨ee, m1, _⟩ := moment_of_ok (np := 60) ht sw.2 (by decide) sw.1 (S4 ++ E)
        obtain ⟨ee2, m2⟩ := chk (a := 4) (b := 5) (c := 6) (ρ := [some (.ob 2), some (.ob N), none, some (.ob M), some (td ss R), some (fq w), some (fq (mo ss R w))]) ht sw.1 sw.2 (fun S => by simp) (fun S => by simp) (fun S => by simp) (S4 ++ E ++ ee)
        have n1 : c_l_fine_right_4_0 [some (.ob 2), some (.ob N), none, some (.ob M), some (td ss R), some (fq w), z6] (S4 ++ E) = .nx [some (.ob 2), some (.ob N), none, some (.ob M), some (td ss R), some (fq w), some (fq (mo ss R w))] (S4 ++ E ++ ee) := by
          simp only [c_l_fine_right_4_0, sAsg_nm, eCall_eq, aCons_eq, aNil_eq, eVar_s, eVar_0, bind_ok, m1, noex_ok, sb_ok, List.set]
        have n2 : c_l_fine_right_4_1 [some (.ob 2), some (.ob N), none, some (.ob M), some (td ss R), some (fq w), some (fq (mo ss R w))] (S4 ++ E ++ ee) = .nx [some (.ob 2), some (.ob N), none, some (.ob M), some (td ss R), some (fq w), some (fq (mo ss R w))] (S4 ++ E ++ ee ++ ee2) := by
          simp only [c_l_fine_right_4_1, sIf_eq, m2, sb_ok, Bool.false_eq_true, if_false, sNil_eq]
        exact ⟨_, _, (seq_nx n1 _).trans n2, _, _, E ++ ee ++ ee2, rfl, by simp only [List.append_assoc]⟩)
    obtain ⟨ρ', S5, e5, z5, z6, E, rfl, rfl⟩ := main4
    have l1e := at_app (e := E) l1d
    have l2e := at_app (e := E) l2d
    have main5 := for_tup (a := eTup (aCons (eOp oIx (eVar 1) (eC (.int 4))) (aCons (eOp oIx (eVar 3) (eC (.int 1))) aNil))) (j := 6) (b := c_l_fine_right_5_0)
      (ρ := [some (.ob 2), some (.ob N), none, some (.ob M), some (td ss R), z5, z6]) (S := S4 ++ E) (S1 := S4 ++ E) (xs := [fq e, fq g'])
      (fun i ρ S' => ∃ (y6 : Option D), ρ = [some (.ob 2), some (.ob N), none, some (.ob M), some (td ss R), z5, y6]) (by
        have at4 : atI [fq a, fq b, fq c, fq d, fq e] 4 = some (fq e) := atI_cast _ 4
        simp [oIx_ob l1e, oIx_ob l2e, at4]) ⟨_, rfl⟩ (by
        rintro i hi ρ T ⟨y6, rfl⟩
        have hw : ∃ w : Rat, [fq e, fq g'][i] = fq w ∧ 0 ≤ w ∧ Bq 40 w := by
          match i, hi with
          | 0, _ => exact ⟨e, rfl, by have := fe.1; grind, fe.2⟩
          | 1, _ => exact ⟨g', rfl, by have := fg'.1; grind, fg'.2⟩
        obtain ⟨w, hw, w0, wb⟩ := hw
        rw [hw]
        obtain ⟨y, ly, py⟩ := both ht w0 wb
        obtain ⟨e1, q1⟩ := py T
        obtain ⟨e2, q2⟩ := same_fq (S := T ++ e1) (D := 12) (q := y) (by decide)
        refine ⟨[some (.ob 2), some (.ob N), none, some (.ob M), some (td ss R), z5, some (fq w)], T ++ e1 ++ e2, ?_, _, rfl⟩
        simp only [List.set, c_l_fine_right_5_0, sIf_eq, bNot_eq, tTru_eq, eCall_eq, aCons_eq, aNil_eq, eVar_s, eVar_0, bind_ok, q1, ly, noex_ok, q2, truD_bl, Bool.not_true, sb_ok, Bool.false_eq_true, if_false, sNil_eq])
    obtain ⟨ρ', S6, e6, y6, rfl⟩ := main5
    refine ⟨S6, run_rt ?_⟩
    show b_l_fine_right [some (.ob 2), none, none, none, none, none, none] S = _
    unfold b_l_fine_right
    rw [seq_nx c0, seq_nx c1, seq_nx c2, seq_nx c3]
    rw [seq_nx (show c_l_fine_right_4 [some (.ob 2), some (.ob N), none, some (.ob M), some (td ss R), none, none] S4 = _ from e5)]
    rw [seq_nx (show c_l_fine_right_5 [some (.ob 2), some (.ob N), none, some (.ob M), some (td ss R), z5, z6] (S4 ++ E) = _ from e6)]
    simp [c_l_fine_right_6]
/-- one tempo's places -/
theorem l30 (h : Pen S ns k) (hk : k + 50 ≤ 1000000000000) (ht : Tok ss R) : ∃ (y5 y6 : Option D) (S' : Sto), c_law_3_0 [x0, some (.ob 2), x2, x3, some (td ss R), x5, x6, x7, x8] S = .nx [x0, some (.ob 2), x2, x3, some (td ss R), y5, y6, x7, x8] S' ∧ Pen S' ns (k + 50) := by
  obtain ⟨n, ps, S1, e1, l1, n2, hps, p1⟩ := lpl h hk ht
  have main := for_lst (a := eCall F_l_places (aCons (eVar 1) (aCons (eVar 4) aNil))) (j := 5) (b := sSeq c_law_3_0_0 c_law_3_0_1) (ρ := [x0, some (.ob 2), x2, x3, some (td ss R), x5, x6, x7, x8]) (S := S) (S1 := S1) (n := n) (xs := ps.map fq)
    (fun i ρ S' => ∃ (y5 y6 : Option D) (E : Sto), ρ = [x0, some (.ob 2), x2, x3, some (td ss R), y5, y6, x7, x8] ∧ S' = S1 ++ E) (by simp only [eCall_eq, aCons_eq, aNil_eq, eVar_s, eVar_0, bind_ok, e1, noex_ok]) ⟨_, _, [], rfl, by simp⟩ (by
      rintro i ρ S' ⟨_, _, E, _, rfl⟩
      exact at_app l1) (by
      rintro i hi ρ T ⟨z5, z6, E, rfl, rfl⟩
      rw [List.length_map] at hi
      have sw := hps _ (List.getElem_mem hi)
      rw [List.getElem_map]
      generalize ps[i] = w at sw
      obtain ⟨ee, m1, _⟩ := moment_of_ok (np := 60) ht sw.2 (by decide) sw.1 (S1 ++ E)
      obtain ⟨ee2, m2⟩ := chk (a := 4) (b := 5) (c := 6) (ρ := [x0, some (.ob 2), x2, x3, some (td ss R), some (fq w), some (fq (mo ss R w)), x7, x8]) ht sw.1 sw.2 (fun S => by simp) (fun S => by simp) (fun S => by simp) (S1 ++ E ++ ee)
      have n1 : c_law_3_0_0 [x0, some (.ob 2), x2, x3, some (td ss R), some (fq w), z6, x7, x8] (S1 ++ E) = .nx [x0, some (.ob 2), x2, x3, some (td ss R), some (fq w), some (fq (mo ss R w)), x7, x8] (S1 ++ E ++ ee) := by
        simp only [c_law_3_0_0, sAsg_nm, eCall_eq, aCons_eq, aNil_eq, eVar_s, eVar_0, bind_ok, m1, noex_ok, sb_ok, List.set]
      have n2 : c_law_3_0_1 [x0, some (.ob 2), x2, x3, some (td ss R), some (fq w), some (fq (mo ss R w)), x7, x8] (S1 ++ E ++ ee) = .nx [x0, some (.ob 2), x2, x3, some (td ss R), some (fq w), some (fq (mo ss R w)), x7, x8] (S1 ++ E ++ ee ++ ee2) := by
        simp only [c_law_3_0_1, sIf_eq, m2, sb_ok, Bool.false_eq_true, if_false, sNil_eq]
      exact ⟨_, _, (seq_nx n1 _).trans n2, _, _, E ++ ee ++ ee2, rfl, by simp only [List.append_assoc]⟩)
  obtain ⟨ρ', S2, e2, y5, y6, E, rfl, rfl⟩ := main
  exact ⟨y5, y6, _, e2, p1.app⟩
/-- one moment by both tempos -/
theorem l5 {ss2 : List Fx.St} {R2 : Rat} (t1 : Tok ss R) (t2 : Tok ss2 R2) (h0 : 0 ≤ x) (hx : Bq 40 x) (S : Sto) : ∃ (y8 : Option D) (e : Sto), (sSeq c_law_5_0 c_law_5_1) [x0, some (.ob 2), some (td ss R), some (td ss2 R2), x4, x5, some (fq x), x7, x8] S = .nx [x0, some (.ob 2), some (td ss R), some (td ss2 R2), x4, x5, some (fq x), x7, y8] (S ++ e) := by
  obtain ⟨y1, l1, p1⟩ := both t1 h0 hx
  obtain ⟨y2, l2, p2⟩ := both t2 h0 hx
  have m1 := lc_mapT (a := eTup (aCons (eVar 2) (aCons (eVar 3) aNil))) (j := 4) (e := eCall F_l_place (aCons (eVar 4) (aCons (eVar 6) aNil))) (own := [4]) (ρ := [x0, some (.ob 2), some (td ss R), some (td ss2 R2), x4, x5, some (fq x), x7, x8]) (S := S) (S1 := S) (qs := [(td ss R, fq y1), (td ss2 R2, fq y2)]) Prod.fst Prod.snd (by simp) (by simp) (by
    intro q hq S2
    simp only [List.mem_cons, List.not_mem_nil, or_false] at hq
    rcases hq with rfl | rfl
    · simp [wipeD, l1]
    · simp [wipeD, l2])
  simp only [List.map_cons, List.map_nil] at m1
  have c0 : c_law_5_0 [x0, some (.ob 2), some (td ss R), some (td ss2 R2), x4, x5, some (fq x), x7, x8] S = .nx [x0, some (.ob 2), some (td ss R), some (td ss2 R2), x4, x5, some (fq x), x7, some (.ob S.length)] (S ++ [.lst [fq y1, fq y2]]) := by
    simp only [c_law_5_0, sAsg_nm, m1, sb_ok, List.set]
  have d1 : (S ++ [O.lst [fq y1, fq y2]])[S.length]? = some (.lst [fq y1, fq y2]) := at_end
  have ex : ∃ T : Sto, T = S ++ [O.lst [fq y1, fq y2]] := ⟨_, rfl⟩
  obtain ⟨T, hT⟩ := ex
  rw [← hT] at c0 d1
  obtain ⟨zs, e', g1, g2, g3⟩ := lc_growT (a := eTup (aCons (eVar 2) (aCons (eVar 3) (aCons (eVar 2) aNil)))) (j := 4) (e := eCall F_place_of (aCons (eVar 4) (aCons (eVar 6) aNil))) (own := [4]) (ρ := [x0, some (.ob 2), some (td ss R), some (td ss2 R2), x4, x5, some (fq x), x7, some (.ob S.length)]) (S := T) (S1 := T) (qs := [(td ss R, y1), (td ss2 R2, y2), (td ss R, y1)]) Prod.fst fq (fun q z => z = q.2) (by simp) (by simp) (by
    intro q hq S2
    simp only [List.mem_cons, List.not_mem_nil, or_false] at hq
    rcases hq with rfl | rfl | rfl
    · obtain ⟨e, h⟩ := p1 S2
      exact ⟨y1, e, by simp [wipeD, h], rfl⟩
    · obtain ⟨e, h⟩ := p2 S2
      exact ⟨y2, e, by simp [wipeD, h], rfl⟩
    · obtain ⟨e, h⟩ := p1 S2
      exact ⟨y1, e, by simp [wipeD, h], rfl⟩)
  have hz : zs = [y1, y2, y1] := by
    match zs, g2, g3 with
    | [a, b, c], _, g3 =>
      have h0 := g3 0 (by simp) (by simp)
      have h1 := g3 1 (by simp) (by simp)
      have h2 := g3 2 (by simp) (by simp)
      simp only [List.getElem_cons_zero, List.getElem_cons_succ] at h0 h1 h2
      rw [h0, h1, h2]
  rw [hz] at g1
  have d2 := at_app (e := .lst ([y1, y2, y1].map fq) :: e') d1
  have d3 : (T ++ .lst ([y1, y2, y1].map fq) :: e')[T.length]? = some (.lst [fq y1, fq y2, fq y1]) := by simp
  have ex2 : ∃ U : Sto, U = T ++ .lst ([y1, y2, y1].map fq) :: e' := ⟨_, rfl⟩
  obtain ⟨U, hU⟩ := ex2
  rw [← hU] at g1 d2 d3
  have cc : cutD [fq y1, fq y2] none (some 1) = [fq y1] := rfl
  have sl := oSl_ob d2 none (some 1)
  rw [cc] at sl
  have ad := oAdd_ob (at_app (e := [O.lst [fq y1]]) d2) at_end (by simp)
  simp only [List.length_append, List.length_singleton] at ad
  have sm : Sm (U ++ [O.lst [fq y1]] ++ [O.lst ([fq y1, fq y2] ++ [fq y1])]) 2 (.ob T.length) (.ob (U.length + 1)) := by
    refine .ob (xs := [fq y1, fq y2, fq y1]) (ys := [fq y1, fq y2, fq y1]) (at_app (at_app d3)) ?_ rfl (by simp) ?_
    · have := at_k (T := U) (e := [O.lst [fq y1], O.lst ([fq y1, fq y2] ++ [fq y1])]) (j := 1)
      rw [List.append_assoc]
      exact this
    · intro i h1 h2
      have : ∀ y : Rat, Sm (U ++ [O.lst [fq y1]] ++ [O.lst ([fq y1, fq y2] ++ [fq y1])]) 1 (fq y) (fq y) := fun y => .tup rfl (by simp) (fun i h1 h2 => match i, h1 with | 0, _ => .int _ | 1, _ => .int _)
      match i, h1 with
      | 0, _ => exact this y1
      | 1, _ => exact this y2
      | 2, _ => exact this y1
  obtain ⟨e9, q9⟩ := same_ok 12 sm (by decide)
  have c1 : c_law_5_1 [x0, some (.ob 2), some (td ss R), some (td ss2 R2), x4, x5, some (fq x), x7, some (.ob S.length)] T = .nx [x0, some (.ob 2), some (td ss R), some (td ss2 R2), x4, x5, some (fq x), x7, some (.ob S.length)] (U ++ [O.lst [fq y1]] ++ [O.lst ([fq y1, fq y2] ++ [fq y1])] ++ e9) := by
    simp only [c_law_5_1, sIf_eq, bNot_eq, tTru_eq, eCall_eq, aCons_eq, aNil_eq, g1, bind_ok, eOp_eq, eVar_s, eVar_0, eSl_eq, pNo_eq, pAt_eq, eC_eq, sl, ad, noex_ok, q9, truD_bl, Bool.not_true, sb_ok, Bool.false_eq_true, if_false, sNil_eq]
  refine ⟨some (.ob S.length), [O.lst [fq y1, fq y2]] ++ (.lst ([y1, y2, y1].map fq) :: e') ++ [O.lst [fq y1]] ++ [O.lst ([fq y1, fq y2] ++ [fq y1])] ++ e9, ?_⟩
  rw [seq_nx c0, c1, hU, hT]
  simp only [List.append_assoc]
end
theorem law_true : ∀ ns : List Int, ns.length ≤ 63 → ∃ S, F_law [.ro ns] [] = .ok (.bl true) S := by
  intro ns _
  obtain ⟨ms, S, e, p, _⟩ := l_pen_ok ns
  obtain ⟨ss, R, S1, e1, t1, p1, b1⟩ := tempo_ok30 (most := 3) p (by omega) (by decide) (by decide)
  obtain ⟨ss2, R2, S2, e2, t2, p2⟩ := near_ok p1 (by omega) t1 b1
  have main3 := for_tup (a := eTup (aCons (eVar 2) (aCons (eVar 3) (aCons (eVar 2) aNil)))) (j := 4) (b := c_law_3_0) (ρ := [some (.ro ns), some (.ob 2), some (td ss R), some (td ss2 R2), none, none, none, none, none]) (S := S2) (S1 := S2) (xs := [td ss R, td ss2 R2, td ss R])
    (fun i ρ S' => ∃ (y4 y5 y6 : Option D), ρ = [some (.ro ns), some (.ob 2), some (td ss R), some (td ss2 R2), y4, y5, y6, none, none] ∧ Pen S' ms (700 + 50 * i)) (by simp) ⟨_, _, _, rfl, p2.mono (by omega)⟩ (by
      rintro i hi ρ S' ⟨y4, y5, y6, rfl, p⟩
      have hw : ∃ (s : List Fx.St) (r : Rat), [td ss R, td ss2 R2, td ss R][i] = td s r ∧ Tok s r := by
        match i, hi with
        | 0, _ => exact ⟨_, _, rfl, t1⟩
        | 1, _ => exact ⟨_, _, rfl, t2⟩
        | 2, _ => exact ⟨_, _, rfl, t1⟩
      obtain ⟨s, r, hw, tt⟩ := hw
      have hi3 : i < 3 := by simpa using hi
      rw [hw]
      obtain ⟨z5, z6, S'', f, p'⟩ := l30 (x0 := some (.ro ns)) (x2 := some (td ss R)) (x3 := some (td ss2 R2)) (x5 := y5) (x6 := y6) (x7 := none) (x8 := none) p (by omega) tt
      exact ⟨_, S'', f, _, _, _, rfl, p'⟩)
  obtain ⟨ρ', S3, e3, y4, y5, y6, rfl, p3⟩ := main3
  obtain ⟨a, S4, f1, a0, a1, p4, _, _⟩ := draw_ok (m := 30) p3 (by simp) (by decide) (by decide)
  obtain ⟨b, S5, f2, b0, b1', p5, _, _⟩ := draw_ok (m := 7) p4 (by simp) (by decide) (by decide)
  obtain ⟨c, S6, f3, c0, c1, p6, _, _⟩ := draw_ok (m := 1000000) p5 (by simp) (by decide) (by decide)
  have lw1 := fun S => l_low_ok S (a := 1 + a) (b := 1 + b) (by omega) (pow_mono (n := 40) (by omega) (by omega)) (pow_mono (n := 40) (by omega) (by omega))
  have lw2 := fun S => l_low_ok S (a := c) (b := 7) (by omega) (pow_mono (n := 40) (by omega) (by omega)) (pow_mono (n := 40) (by decide) (by omega))
  have pow6 : ∀ S, oPow (.int 10) (.int 6) S = .ok (.int 1000000) S := fun S => pow6 S
  have e4 : c_law_4 [some (.ro ns), some (.ob 2), some (td ss R), some (td ss2 R2), y4, y5, y6, none, none] S3 = .nx [some (.ro ns), some (.ob 2), some (td ss R), some (td ss2 R2), y4, y5, y6, some (.ob S6.length), none] (S6 ++ [.lst ([0, Rat.divInt (1 + a) (1 + b), Rat.divInt c 7].map fq)]) := by
    simp only [List.map_cons, List.map_nil, fq_zero]
    simp [c_law_4, f1, f2, f3, lw1, lw2, pow6]
  have hx : ∀ x ∈ [0, Rat.divInt (1 + a) (1 + b), Rat.divInt c 7], 0 ≤ x ∧ Bq 40 x := by
    intro x hx
    simp only [List.mem_cons, List.not_mem_nil, or_false] at hx
    rcases hx with rfl | rfl | rfl
    · exact ⟨by grind, Bq_zero.mono (by decide)⟩
    · exact ⟨frac_nn (by omega) (by omega), Bq_divInt (by omega) (by omega) (by omega)⟩
    · exact ⟨frac_nn c0 (by decide), Bq_divInt (by omega) (by omega) (by omega)⟩
  have p7 : Pen (S6 ++ [O.lst ([0, Rat.divInt (1 + a) (1 + b), Rat.divInt c 7].map fq)]) ms 1000 := p6.app.mono (by simp)
  have l7 : (S6 ++ [O.lst ([0, Rat.divInt (1 + a) (1 + b), Rat.divInt c 7].map fq)])[S6.length]? = some (.lst ([0, Rat.divInt (1 + a) (1 + b), Rat.divInt c 7].map fq)) := at_end
  generalize [0, Rat.divInt (1 + a) (1 + b), Rat.divInt c 7] = xs at e4 hx p7 l7
  generalize S6 ++ [O.lst (xs.map fq)] = S7 at e4 p7 l7
  generalize S6.length = N at e4 l7
  have main5 := for_lst (a := eVar 7) (j := 6) (b := sSeq c_law_5_0 c_law_5_1) (ρ := [some (.ro ns), some (.ob 2), some (td ss R), some (td ss2 R2), y4, y5, y6, some (.ob N), none]) (S := S7) (S1 := S7) (n := N) (xs := xs.map fq)
    (fun i ρ S' => ∃ (y6 y8 : Option D) (E : Sto), ρ = [some (.ro ns), some (.ob 2), some (td ss R), some (td ss2 R2), y4, y5, y6, some (.ob N), y8] ∧ S' = S7 ++ E) (by simp) ⟨_, _, [], rfl, by simp⟩ (by
      rintro i ρ S' ⟨_, _, E, _, rfl⟩
      exact at_app l7) (by
      rintro i hi ρ T ⟨z6, z8, E, rfl, rfl⟩
      rw [List.length_map] at hi
      have sx := hx _ (List.getElem_mem hi)
      rw [List.getElem_map]
      generalize xs[i] = w at sx
      obtain ⟨w8, ee, f⟩ := l5 (x0 := some (.ro ns)) (x4 := y4) (x5 := y5) (x7 := some (.ob N)) (x8 := z8) t1 t2 sx.1 sx.2 (S7 ++ E)
      exact ⟨_, _, f, _, _, E ++ ee, rfl, by simp only [List.append_assoc]⟩)
  obtain ⟨ρ', S8, e5, z6, z8, E, rfl, rfl⟩ := main5
  have p8 : Pen (S7 ++ E) ms 1000 := p7.app
  obtain ⟨S9, e6, p9⟩ := farright_ok p8 (by omega)
  obtain ⟨S10, e7⟩ := fineright_ok p9 (by omega)
  refine ⟨S10, run_rt ?_⟩
  show b_law [some (.ro ns), none, none, none, none, none, none, none, none] [] = _
  unfold b_law
  rw [seq_nx (ρ' := [some (.ro ns), some (.ob 2), none, none, none, none, none, none, none]) (S' := S) (by simp [c_law_0, e])]
  rw [seq_nx (ρ' := [some (.ro ns), some (.ob 2), some (td ss R), none, none, none, none, none, none]) (S' := S1) (by simp [c_law_1, e1])]
  rw [seq_nx (ρ' := [some (.ro ns), some (.ob 2), some (td ss R), some (td ss2 R2), none, none, none, none, none]) (S' := S2) (by simp [c_law_2, e2])]
  rw [seq_nx (show c_law_3 [some (.ro ns), some (.ob 2), some (td ss R), some (td ss2 R2), none, none, none, none, none] S2 = _ from e3)]
  rw [seq_nx e4]
  rw [seq_nx (show c_law_5 [some (.ro ns), some (.ob 2), some (td ss R), some (td ss2 R2), y4, y5, y6, some (.ob N), none] S7 = _ from e5)]
  simp [c_law_6, e6, e7]
end Lk10
set_option Elab.async false
set_option linter.all false
set_option maxRecDepth 100000
namespace Lk10
open PySem PySem.Spec PyProof.Rows L2 DL Fx
def top (i : Nat) : Stmt := PySem.Challenge.pw_beatlanes_k10_places_of_moments.main.body.getD i (.Pass ⟨0, 0, 0, 0⟩)
abbrev s_is_whole : Stmt := top 9
abbrev s_is_tuple_of : Stmt := top 11
abbrev s_is_less : Stmt := top 19
abbrev s_floor_of : Stmt := top 20
abbrev s_in_lowest_terms : Stmt := top 21
abbrev s_l_pen : Stmt := top 39
abbrev s_l_draw : Stmt := top 40
abbrev s_l_low : Stmt := top 41
abbrev s_l_less : Stmt := top 46
abbrev s_l_same : Stmt := top 50
abbrev s_l_edges : Stmt := top 54
abbrev s_is_whole_within : Stmt := top 10
abbrev s_is_fraction : Stmt := top 12
abbrev s_plus : Stmt := top 15
abbrev s_minus : Stmt := top 16
abbrev s_times : Stmt := top 17
abbrev s_over : Stmt := top 18
abbrev s_l_add : Stmt := top 42
abbrev s_l_sub : Stmt := top 43
abbrev s_l_mul : Stmt := top 44
abbrev s_l_div : Stmt := top 45
abbrev s_l_above : Stmt := top 47
abbrev s_is_from_nought : Stmt := top 13
abbrev s_is_above_nought : Stmt := top 14
abbrev s_rise_of : Stmt := top 32
abbrev s_step_at : Stmt := top 37
abbrev s_l_goes_on : Stmt := top 48
abbrev s_l_line : Stmt := top 51
abbrev s_l_places : Stmt := top 56
abbrev s_l_far : Stmt := top 57
abbrev s_l_wide : Stmt := top 58
abbrev s_is_stretch : Stmt := top 25
abbrev s_goes_on : Stmt := top 31
abbrev s_length_within : Stmt := top 33
abbrev s_length_of_steps : Stmt := top 34
abbrev s_l_tempo : Stmt := top 49
abbrev s_l_moment : Stmt := top 52
abbrev s_is_plain : Stmt := top 30
abbrev s_moment_within : Stmt := top 35
abbrev s_place_within : Stmt := top 36
abbrev s_l_place : Stmt := top 53
abbrev s_l_near : Stmt := top 55
abbrev s_is_tempo : Stmt := top 26
abbrev s_refuse_no_tempo : Stmt := top 29
abbrev s_moment_of : Stmt := top 27
abbrev s_place_of : Stmt := top 28
abbrev s_l_far_right : Stmt := top 59
abbrev s_l_fine_right : Stmt := top 60
abbrev s_law : Stmt := top 61
structure Txt (K : PySem.W.Frag) (mg : Str → Option Value) : Prop where
  z_abs : mg "abs" = none
  z_all : mg "all" = none
  z_bool : mg "bool" = none
  z_int : mg "int" = none
  z_isinstance : mg "isinstance" = none
  z_len : mg "len" = none
  z_list : mg "list" = none
  z_min : mg "min" = none
  z_range : mg "range" = none
  z_str : mg "str" = none
  z_sum : mg "sum" = none
  z_tuple : mg "tuple" = none
  z_zip : mg "zip" = none
  m_gcd : mg "gcd" = some (.builtin "math.gcd")
  g_MOST_STEPS : GInt mg "MOST_STEPS" 200000
  g_MOST_STRETCHES : GInt mg "MOST_STRETCHES" 24
  g_NOUGHT : GTup K mg "NOUGHT" [(.int 0), (.int 1)]
  a_is_whole : FnAt K mg "is_whole" s_is_whole ["thing"]
  a_is_tuple_of : FnAt K mg "is_tuple_of" s_is_tuple_of ["thing", "many"]
  a_is_less : FnAt K mg "is_less" s_is_less ["one", "other"]
  a_floor_of : FnAt K mg "floor_of" s_floor_of ["one"]
  a_in_lowest_terms : FnAt K mg "_in_lowest_terms" s_in_lowest_terms ["top", "bottom"]
  a_l_pen : FnAt K mg "_law_pen" s_l_pen ["_law_script"]
  a_l_draw : FnAt K mg "_law_draw" s_l_draw ["_law_pen_here", "_law_many"]
  a_l_low : FnAt K mg "_law_low" s_l_low ["_law_top", "_law_bottom"]
  a_l_less : FnAt K mg "_law_less" s_l_less ["_law_one", "_law_other"]
  a_l_same : FnAt K mg "_law_same" s_l_same ["_law_found", "_law_due"]
  a_l_edges : FnAt K mg "_law_edges" s_l_edges ["_law_tempo_here"]
  a_is_whole_within : FnAt K mg "is_whole_within" s_is_whole_within ["thing", "least", "most"]
  a_is_fraction : FnAt K mg "is_fraction" s_is_fraction ["thing"]
  a_plus : FnAt K mg "plus" s_plus ["one", "other"]
  a_minus : FnAt K mg "minus" s_minus ["one", "other"]
  a_times : FnAt K mg "times" s_times ["one", "other"]
  a_over : FnAt K mg "over" s_over ["one", "other"]
  a_l_add : FnAt K mg "_law_add" s_l_add ["_law_one", "_law_other"]
  a_l_sub : FnAt K mg "_law_sub" s_l_sub ["_law_one", "_law_other"]
  a_l_mul : FnAt K mg "_law_mul" s_l_mul ["_law_one", "_law_other"]
  a_l_div : FnAt K mg "_law_div" s_l_div ["_law_one", "_law_other"]
  a_l_above : FnAt K mg "_law_above" s_l_above ["_law_pen_here"]
  a_is_from_nought : FnAt K mg "is_from_nought" s_is_from_nought ["thing"]
  a_is_above_nought : FnAt K mg "is_above_nought" s_is_above_nought ["thing"]
  a_rise_of : FnAt K mg "_rise_of" s_rise_of ["stretch"]
  a_step_at : FnAt K mg "_step_at" s_step_at ["stretch", "moment"]
  a_l_goes_on : FnAt K mg "_law_goes_on" s_l_goes_on ["_law_one", "_law_other"]
  a_l_line : FnAt K mg "_law_line" s_l_line ["_law_span", "_law_twice"]
  a_l_places : FnAt K mg "_law_places" s_l_places ["_law_pen_here", "_law_tempo_here"]
  a_l_far : FnAt K mg "_law_far" s_l_far ["_law_pen_here"]
  a_l_wide : FnAt K mg "_law_wide" s_l_wide ["_law_pen_here"]
  a_is_stretch : FnAt K mg "is_stretch" s_is_stretch ["thing"]
  a_goes_on : FnAt K mg "_goes_on" s_goes_on ["stretch", "behind"]
  a_length_within : FnAt K mg "_length_within" s_length_within ["stretch", "step"]
  a_length_of_steps : FnAt K mg "_length_of_steps" s_length_of_steps ["stretch", "many"]
  a_l_tempo : FnAt K mg "_law_tempo" s_l_tempo ["_law_pen_here", "_law_most"]
  a_l_moment : FnAt K mg "_law_moment" s_l_moment ["_law_tempo_here", "_law_place_here"]
  a_is_plain : FnAt K mg "_is_plain" s_is_plain ["stretches", "rest"]
  a_moment_within : FnAt K mg "_moment_within" s_moment_within ["stretch", "place"]
  a_place_within : FnAt K mg "_place_within" s_place_within ["stretch", "moment"]
  a_l_place : FnAt K mg "_law_place" s_l_place ["_law_tempo_here", "_law_moment_here"]
  a_l_near : FnAt K mg "_law_near" s_l_near ["_law_pen_here", "_law_tempo_here"]
  a_is_tempo : FnAt K mg "is_tempo" s_is_tempo ["thing"]
  a_refuse_no_tempo : FnAt K mg "_refuse_no_tempo" s_refuse_no_tempo ["thing"]
  a_moment_of : FnAt K mg "moment_of" s_moment_of ["tempo", "place"]
  a_place_of : FnAt K mg "place_of" s_place_of ["tempo", "moment"]
  a_l_far_right : FnAt K mg "_law_far_right" s_l_far_right ["_law_pen_here"]
  a_l_fine_right : FnAt K mg "_law_fine_right" s_l_fine_right ["_law_pen_here"]
  a_law : FnAt K mg "law" s_law ["_law_script"]
theorem sc_is_whole : FnScope ["thing"] ["thing"] (defScope s_is_whole) := ⟨rfl, rfl, rfl, by decide +kernel, rfl, by decide +kernel, by decide +kernel⟩
theorem sc_is_tuple_of : FnScope ["thing", "many"] ["thing", "many"] (defScope s_is_tuple_of) := ⟨rfl, rfl, rfl, by decide +kernel, rfl, by decide +kernel, by decide +kernel⟩
theorem sc_is_less : FnScope ["one", "other"] ["one", "other"] (defScope s_is_less) := ⟨rfl, rfl, rfl, by decide +kernel, rfl, by decide +kernel, by decide +kernel⟩
theorem sc_floor_of : FnScope ["one"] ["one"] (defScope s_floor_of) := ⟨rfl, rfl, rfl, by decide +kernel, rfl, by decide +kernel, by decide +kernel⟩
theorem sc_in_lowest_terms : FnScope ["top", "bottom", "shared"] ["top", "bottom"] (defScope s_in_lowest_terms) := ⟨rfl, rfl, rfl, by decide +kernel, rfl, by decide +kernel, by decide +kernel⟩
theorem sc_l_pen : FnScope ["_law_script"] ["_law_script"] (defScope s_l_pen) := ⟨rfl, rfl, rfl, by decide +kernel, rfl, by decide +kernel, by decide +kernel⟩
theorem sc_l_draw : FnScope ["_law_pen_here", "_law_many", "_law_found", "_law_at", "_law_cell", "_law_number"] ["_law_pen_here", "_law_many"] (defScope s_l_draw) := ⟨rfl, rfl, rfl, by decide +kernel, rfl, by decide +kernel, by decide +kernel⟩
theorem sc_l_low : FnScope ["_law_top", "_law_bottom", "_law_one", "_law_other"] ["_law_top", "_law_bottom"] (defScope s_l_low) := ⟨rfl, rfl, rfl, by decide +kernel, rfl, by decide +kernel, by decide +kernel⟩
theorem sc_l_less : FnScope ["_law_one", "_law_other"] ["_law_one", "_law_other"] (defScope s_l_less) := ⟨rfl, rfl, rfl, by decide +kernel, rfl, by decide +kernel, by decide +kernel⟩
theorem sc_l_same : FnScope ["_law_found", "_law_due", "_law_one", "_law_other"] ["_law_found", "_law_due"] (defScope s_l_same) := ⟨rfl, rfl, rfl, by decide +kernel, rfl, by decide +kernel, by decide +kernel⟩
theorem sc_l_edges : FnScope ["_law_tempo_here", "_law_found", "_law_span"] ["_law_tempo_here"] (defScope s_l_edges) := ⟨rfl, rfl, rfl, by decide +kernel, rfl, by decide +kernel, by decide +kernel⟩
theorem sc_is_whole_within : FnScope ["thing", "least", "most"] ["thing", "least", "most"] (defScope s_is_whole_within) := ⟨rfl, rfl, rfl, by decide +kernel, rfl, by decide +kernel, by decide +kernel⟩
theorem sc_is_fraction : FnScope ["thing", "top", "bottom"] ["thing"] (defScope s_is_fraction) := ⟨rfl, rfl, rfl, by decide +kernel, rfl, by decide +kernel, by decide +kernel⟩
theorem sc_plus : FnScope ["one", "other", "top", "bottom", "other_top", "other_bottom"] ["one", "other"] (defScope s_plus) := ⟨rfl, rfl, rfl, by decide +kernel, rfl, by decide +kernel, by decide +kernel⟩
theorem sc_minus : FnScope ["one", "other", "top", "bottom", "other_top", "other_bottom"] ["one", "other"] (defScope s_minus) := ⟨rfl, rfl, rfl, by decide +kernel, rfl, by decide +kernel, by decide +kernel⟩
theorem sc_times : FnScope ["one", "other"] ["one", "other"] (defScope s_times) := ⟨rfl, rfl, rfl, by decide +kernel, rfl, by decide +kernel, by decide +kernel⟩
theorem sc_over : FnScope ["one", "other"] ["one", "other"] (defScope s_over) := ⟨rfl, rfl, rfl, by decide +kernel, rfl, by decide +kernel, by decide +kernel⟩
theorem sc_l_add : FnScope ["_law_one", "_law_other"] ["_law_one", "_law_other"] (defScope s_l_add) := ⟨rfl, rfl, rfl, by decide +kernel, rfl, by decide +kernel, by decide +kernel⟩
theorem sc_l_sub : FnScope ["_law_one", "_law_other"] ["_law_one", "_law_other"] (defScope s_l_sub) := ⟨rfl, rfl, rfl, by decide +kernel, rfl, by decide +kernel, by decide +kernel⟩
theorem sc_l_mul : FnScope ["_law_one", "_law_other"] ["_law_one", "_law_other"] (defScope s_l_mul) := ⟨rfl, rfl, rfl, by decide +kernel, rfl, by decide +kernel, by decide +kernel⟩
theorem sc_l_div : FnScope ["_law_one", "_law_other"] ["_law_one", "_law_other"] (defScope s_l_div) := ⟨rfl, rfl, rfl, by decide +kernel, rfl, by decide +kernel, by decide +kernel⟩
theorem sc_l_above : FnScope ["_law_pen_here", "_law_far_here"] ["_law_pen_here"] (defScope s_l_above) := ⟨rfl, rfl, rfl, by decide +kernel, rfl, by decide +kernel, by decide +kernel⟩
theorem sc_is_from_nought : FnScope ["thing"] ["thing"] (defScope s_is_from_nought) := ⟨rfl, rfl, rfl, by decide +kernel, rfl, by decide +kernel, by decide +kernel⟩
theorem sc_is_above_nought : FnScope ["thing"] ["thing"] (defScope s_is_above_nought) := ⟨rfl, rfl, rfl, by decide +kernel, rfl, by decide +kernel, by decide +kernel⟩
theorem sc_rise_of : FnScope ["stretch", "many", "first", "last"] ["stretch"] (defScope s_rise_of) := ⟨rfl, rfl, rfl, by decide +kernel, rfl, by decide +kernel, by decide +kernel⟩
theorem sc_step_at : FnScope ["stretch", "moment", "many", "top", "bottom", "last_top", "last_bottom", "by_step", "by_square", "limit", "low", "high", "middle"] ["stretch", "moment"] (defScope s_step_at) := ⟨rfl, rfl, rfl, by decide +kernel, rfl, by decide +kernel, by decide +kernel⟩
theorem sc_l_goes_on : FnScope ["_law_one", "_law_other", "_law_rise"] ["_law_one", "_law_other"] (defScope s_l_goes_on) := ⟨rfl, rfl, rfl, by decide +kernel, rfl, by decide +kernel, by decide +kernel⟩
theorem sc_l_line : FnScope ["_law_span", "_law_twice"] ["_law_span", "_law_twice"] (defScope s_l_line) := ⟨rfl, rfl, rfl, by decide +kernel, rfl, by decide +kernel, by decide +kernel⟩
theorem sc_l_places : FnScope ["_law_pen_here", "_law_tempo_here", "_law_edges_here", "_law_found", "_law_step", "_law_bottom"] ["_law_pen_here", "_law_tempo_here"] (defScope s_l_places) := ⟨rfl, rfl, rfl, by decide +kernel, rfl, by decide +kernel, by decide +kernel⟩
theorem sc_l_far : FnScope ["_law_pen_here", "_law_rest", "_law_first", "_law_many", "_law_last", "_law_at"] ["_law_pen_here"] (defScope s_l_far) := ⟨rfl, rfl, rfl, by decide +kernel, rfl, by decide +kernel, by decide +kernel⟩
theorem sc_l_wide : FnScope ["_law_pen_here", "_law_one", "_law_spans", "_law_k", "_law_many"] ["_law_pen_here"] (defScope s_l_wide) := ⟨rfl, rfl, rfl, by decide +kernel, rfl, by decide +kernel, by decide +kernel⟩
theorem sc_is_stretch : FnScope ["thing", "many", "first", "last"] ["thing"] (defScope s_is_stretch) := ⟨rfl, rfl, rfl, by decide +kernel, rfl, by decide +kernel, by decide +kernel⟩
theorem sc_goes_on : FnScope ["stretch", "behind"] ["stretch", "behind"] (defScope s_goes_on) := ⟨rfl, rfl, rfl, by decide +kernel, rfl, by decide +kernel, by decide +kernel⟩
theorem sc_length_within : FnScope ["stretch", "step", "middle"] ["stretch", "step"] (defScope s_length_within) := ⟨rfl, rfl, rfl, by decide +kernel, rfl, by decide +kernel, by decide +kernel⟩
theorem sc_length_of_steps : FnScope ["stretch", "many", "by_rise"] ["stretch", "many"] (defScope s_length_of_steps) := ⟨rfl, rfl, rfl, by decide +kernel, rfl, by decide +kernel, by decide +kernel⟩
theorem sc_l_tempo : FnScope ["_law_pen_here", "_law_most", "_law_rest", "_law_stretches", "_law_k", "_law_first", "_law_last", "_law_span"] ["_law_pen_here", "_law_most"] (defScope s_l_tempo) := ⟨rfl, rfl, rfl, by decide +kernel, rfl, by decide +kernel, by decide +kernel⟩
theorem sc_l_moment : FnScope ["_law_tempo_here", "_law_place_here", "_law_step", "_law_total", "_law_part", "_law_span", "_law_whole"] ["_law_tempo_here", "_law_place_here"] (defScope s_l_moment) := ⟨rfl, rfl, rfl, by decide +kernel, rfl, by decide +kernel, by decide +kernel⟩
theorem sc_is_plain : FnScope ["stretches", "rest", "k"] ["stretches", "rest"] (defScope s_is_plain) := ⟨rfl, rfl, rfl, by decide +kernel, rfl, by decide +kernel, by decide +kernel⟩
theorem sc_moment_within : FnScope ["stretch", "place", "step", "part"] ["stretch", "place"] (defScope s_moment_within) := ⟨rfl, rfl, rfl, by decide +kernel, rfl, by decide +kernel, by decide +kernel⟩
theorem sc_place_within : FnScope ["stretch", "moment", "step", "part"] ["stretch", "moment"] (defScope s_place_within) := ⟨rfl, rfl, rfl, by decide +kernel, rfl, by decide +kernel, by decide +kernel⟩
theorem sc_l_place : FnScope ["_law_tempo_here", "_law_moment_here", "_law_low_here", "_law_high", "_law_middle", "_law_begin", "_law_end"] ["_law_tempo_here", "_law_moment_here"] (defScope s_l_place) := ⟨rfl, rfl, rfl, by decide +kernel, rfl, by decide +kernel, by decide +kernel⟩
theorem sc_l_near : FnScope ["_law_pen_here", "_law_tempo_here", "_law_rest"] ["_law_pen_here", "_law_tempo_here"] (defScope s_l_near) := ⟨rfl, rfl, rfl, by decide +kernel, rfl, by decide +kernel, by decide +kernel⟩
theorem sc_is_tempo : FnScope ["thing", "stretches", "rest", "part"] ["thing"] (defScope s_is_tempo) := ⟨rfl, rfl, rfl, by decide +kernel, rfl, by decide +kernel, by decide +kernel⟩
theorem sc_refuse_no_tempo : FnScope ["thing"] ["thing"] (defScope s_refuse_no_tempo) := ⟨rfl, rfl, rfl, by decide +kernel, rfl, by decide +kernel, by decide +kernel⟩
theorem sc_moment_of : FnScope ["tempo", "place", "stretches", "rest", "begin", "left", "stretch", "many"] ["tempo", "place"] (defScope s_moment_of) := ⟨rfl, rfl, rfl, by decide +kernel, rfl, by decide +kernel, by decide +kernel⟩
theorem sc_place_of : FnScope ["tempo", "moment", "stretches", "rest", "ahead", "left", "stretch", "whole"] ["tempo", "moment"] (defScope s_place_of) := ⟨rfl, rfl, rfl, by decide +kernel, rfl, by decide +kernel, by decide +kernel⟩
theorem sc_l_far_right : FnScope ["_law_pen_here", "_law_tempo_here", "_law_steps", "_law_span", "_law_step", "_law_place_here", "_law_moment_here"] ["_law_pen_here"] (defScope s_l_far_right) := ⟨rfl, rfl, rfl, by decide +kernel, rfl, by decide +kernel, by decide +kernel⟩
theorem sc_l_fine_right : FnScope ["_law_pen_here", "_law_some", "_law_k", "_law_great", "_law_tempo_here", "_law_place_here", "_law_moment_here"] ["_law_pen_here"] (defScope s_l_fine_right) := ⟨rfl, rfl, rfl, by decide +kernel, rfl, by decide +kernel, by decide +kernel⟩
theorem sc_law : FnScope ["_law_script", "_law_pen_here", "_law_tempo_here", "_law_other", "_law_here", "_law_place_here", "_law_moment_here", "_law_some", "_law_due"] ["_law_script"] (defScope s_law) := ⟨rfl, rfl, rfl, by decide +kernel, rfl, by decide +kernel, by decide +kernel⟩
section
variable {P : Program} {w : World} {K : PySem.W.Frag} {mg : Str → Option Value} {base : Heap} (T : Txt K mg)
include T
theorem ok_is_whole : Def P w K mg base "is_whole" ["thing"] 1 1 F_is_whole := by
  exact def_ok (k := 0) T.a_is_whole sc_is_whole fun f cdv A outer s H E hr =>
    (dss_one (ds_ret (de_and (de_isi (pe_callB call_isi (by rfl) T.z_isinstance (by decide +kernel) (pa_cons (de_var (pv 0)) (pa_cons (pe_bltn (v := .ty "int") (by rfl) T.z_int (by decide +kernel) rfl) pa_nil)))) (de_one (de_not (de_isi (pe_callB call_isi (by rfl) T.z_isinstance (by decide +kernel) (pa_cons (de_var (pv 0)) (pa_cons (pe_bltn (v := .ty "bool") (by rfl) T.z_bool (by decide +kernel) rfl) pa_nil)))))))))
theorem ok_is_tuple_of : Def P w K mg base "is_tuple_of" ["thing", "many"] 1 2 F_is_tuple_of := by
  exact def_ok (k := 0) T.a_is_tuple_of sc_is_tuple_of fun f cdv A outer s H E hr =>
    (dss_one (ds_ret (de_and (de_isi (pe_callB call_isi (by rfl) T.z_isinstance (by decide +kernel) (pa_cons (de_var (pv 0)) (pa_cons (pe_bltn (v := .ty "tuple") (by rfl) T.z_tuple (by decide +kernel) rfl) pa_nil)))) (de_one (de_cmp (op_eqD hr.units) oEq_ok (de_callB (pe_callB call_len (by rfl) T.z_len (by decide +kernel) (da_cons (pa_cons (de_var (pv 0)) da_nil))) cLen_ok) (de_var (pv 1)))))))
theorem ok_is_less : Def P w K mg base "is_less" ["one", "other"] 1 2 F_is_less := by
  exact def_ok (k := 0) T.a_is_less sc_is_less fun f cdv A outer s H E hr =>
    (dss_one (ds_ret (de_cmp op_lt oLt_ok (de_op op_mulAll oMul_ok (de_ix (de_var (pv 0)) de_int) (de_ix (de_var (pv 1)) de_int)) (de_op op_mulAll oMul_ok (de_ix (de_var (pv 1)) de_int) (de_ix (de_var (pv 0)) de_int)))))
theorem ok_floor_of : Def P w K mg base "floor_of" ["one"] 1 1 F_floor_of := by
  exact def_ok (k := 0) T.a_floor_of sc_floor_of fun f cdv A outer s H E hr =>
    (dss_one (ds_ret (de_op op_fdivQ oDiv_ok (de_ix (de_var (pv 0)) de_int) (de_ix (de_var (pv 0)) de_int))))
theorem ok_in_lowest_terms : Def P w K mg base "_in_lowest_terms" ["top", "bottom"] 1 2 F_in_lowest_terms := by
  exact def_ok (k := 0) T.a_in_lowest_terms sc_in_lowest_terms fun f cdv A outer s H E hr =>
    (dss_cons (ds_asg (ps_asg (de_callB (pe_callBfun cr_gcd (by rfl) T.m_gcd (da_cons (pa_cons (de_var (pv 0)) (da_cons (pa_cons (de_var (pv 1)) da_nil))))) cGcd_ok) (dg_nm (pg_name (i := 2) sc_in_lowest_terms.nd rfl (Or.inl rfl)))))
    (dss_cons (ds_if (dt_cmp op_lt oLt_ok oLt_bl (de_var (pv 1)) de_int)
    (dss_one (ds_asg (ps_asg (de_neg (de_var (pv 2))) (dg_nm (pg_name (i := 2) sc_in_lowest_terms.nd rfl (Or.inl rfl))))))
    dss_nil)
    (dss_one (ds_ret (de_tup (pe_tup (da_cons (pa_cons (de_op op_fdivQ oDiv_ok (de_var (pv 0)) (de_var (pv 2))) (da_cons (pa_cons (de_op op_fdivQ oDiv_ok (de_var (pv 1)) (de_var (pv 2))) da_nil))))))))))
theorem ok_l_pen : Def P w K mg base "_law_pen" ["_law_script"] 1 1 F_l_pen := by
  exact def_ok (k := 0) T.a_l_pen sc_l_pen fun f cdv A outer s H E hr =>
    (dss_one (ds_ret (de_lst (pe_lst (da_cons (pa_cons (de_callB (pe_callTy call_list_of (by rfl) T.z_list (by decide +kernel) (da_cons (pa_cons (de_ro (de_var (pv 0)) do_no (do_at de_int)) da_nil))) cList_ok) (da_cons (pa_cons de_int (da_cons (pa_cons de_int da_nil))))))))))
theorem ok_l_draw : Def P w K mg base "_law_draw" ["_law_pen_here", "_law_many"] 1 2 F_l_draw := by
  exact def_ok (k := 0) T.a_l_draw sc_l_draw fun f cdv A outer s H E hr =>
    (dss_cons (ds_if (dt_cmp op_gt oGt_ok oGt_bl (de_ix (de_var (pv 0)) de_int) de_int)
    (dss_cons (ds_asg (ps_asg (de_op op_mod oMod_ok (de_ix (de_var (pv 0)) de_int) (de_var (pv 1))) (dg_nm (pg_name (i := 2) sc_l_draw.nd rfl (Or.inl rfl)))))
    (dss_cons (ds_sub (ps_asg (de_op op_fdivQ oDiv_ok (de_ix (de_var (pv 0)) de_int) (de_var (pv 1))) (pg_sub (de_var (pv 0)) de_int set_list)))
    (dss_one (ds_ret (de_var (pv 2))))))
    dss_nil)
    (dss_cons (ds_asg (ps_asg (de_ix (de_var (pv 0)) de_int) (dg_nm (pg_name (i := 3) sc_l_draw.nd rfl (Or.inl rfl)))))
    (dss_cons (ds_sub (ps_asg (de_op op_addAll oAdd_ok (de_var (pv 3)) de_int) (pg_sub (de_var (pv 0)) de_int set_list)))
    (dss_cons (ds_asg (ps_asg de_int (dg_nm (pg_name (i := 4) sc_l_draw.nd rfl (Or.inl rfl)))))
    (dss_cons (ds_if (dt_cmp op_gt oGt_ok oGt_bl (de_callB (pe_callB call_len (by rfl) T.z_len (by decide +kernel) (da_cons (pa_cons (de_ix (de_var (pv 0)) de_int) da_nil))) cLen_ok) de_int)
    (dss_one (ds_asg (ps_asg (de_ix (de_ix (de_var (pv 0)) de_int) (de_op op_mod oMod_ok (de_var (pv 3)) (de_callB (pe_callB call_len (by rfl) T.z_len (by decide +kernel) (da_cons (pa_cons (de_ix (de_var (pv 0)) de_int) da_nil))) cLen_ok))) (dg_nm (pg_name (i := 4) sc_l_draw.nd rfl (Or.inl rfl))))))
    dss_nil)
    (dss_cons (ds_if (dt_w (dw_and (dt_cmp op_lt oLt_ok oLt_bl (de_var (pv 3)) (de_callB (pe_callB call_len (by rfl) T.z_len (by decide +kernel) (da_cons (pa_cons (de_ix (de_var (pv 0)) de_int) da_nil))) cLen_ok)) (dw_and1 (dt_cmp op_ge oGe_ok oGe_bl (de_var (pv 4)) (de_op op_pow oPow_ok de_int de_int)))))
    (dss_cons (ds_sub (ps_asg (de_op op_fdivQ oDiv_ok (de_var (pv 4)) (de_var (pv 1))) (pg_sub (de_var (pv 0)) de_int set_list)))
    (dss_one (ds_ret (de_op op_mod oMod_ok (de_var (pv 4)) (de_var (pv 1))))))
    dss_nil)
    (dss_cons (ds_asg (ps_asg (de_op op_mod oMod_ok (de_op op_mulAll oMul_ok (de_op op_addAll oAdd_ok (de_op op_mod oMod_ok (de_var (pv 4)) de_int) de_int) (de_op op_addAll oAdd_ok (de_op op_addAll oAdd_ok (de_op op_mulAll oMul_ok (de_var (pv 3)) (de_var (pv 3))) (de_op op_mulAll oMul_ok de_int (de_var (pv 3)))) de_int)) de_int) (dg_nm (pg_name (i := 5) sc_l_draw.nd rfl (Or.inl rfl)))))
    (dss_cons (ds_asg (ps_asg (de_op op_mod oMod_ok (de_op op_mulAll oMul_ok (de_op op_mod oMod_ok (de_op op_addAll oAdd_ok (de_op op_pow oPow_ok (de_var (pv 5)) de_int) (de_op op_mulAll oMul_ok de_int (de_var (pv 3)))) de_int) de_int) de_int) (dg_nm (pg_name (i := 5) sc_l_draw.nd rfl (Or.inl rfl)))))
    (dss_cons (ds_if (dt_cmp op_gt oGt_ok oGt_bl (de_var (pv 1)) (de_op op_pow oPow_ok de_int de_int))
    (dss_one (ds_asg (ps_asg (de_op op_addAll oAdd_ok (de_op op_mulAll oMul_ok (de_var (pv 5)) de_int) (de_op op_mod oMod_ok (de_op op_mulAll oMul_ok (de_op op_mod oMod_ok (de_var (pv 5)) de_int) de_int) de_int)) (dg_nm (pg_name (i := 5) sc_l_draw.nd rfl (Or.inl rfl))))))
    dss_nil)
    (dss_one (ds_ret (de_op op_mod oMod_ok (de_op op_fdivQ oDiv_ok (de_var (pv 5)) de_int) (de_var (pv 1))))))))))))))
theorem ok_l_low : Def P w K mg base "_law_low" ["_law_top", "_law_bottom"] 1 2 F_l_low := by
  exact def_ok (k := 0) T.a_l_low sc_l_low fun f cdv A outer s H E hr =>
    (dss_cons (ds_par (ps_par (i := 2) (j := 3) rfl sc_l_low.nd rfl rfl (by decide) rfl rfl (da_cons (pa_cons (de_callB (pe_callB call_abs (by rfl) T.z_abs (by decide +kernel) (da_cons (pa_cons (de_var (pv 0)) da_nil))) cAbs_ok) (da_cons (pa_cons (de_callB (pe_callB call_abs (by rfl) T.z_abs (by decide +kernel) (da_cons (pa_cons (de_var (pv 1)) da_nil))) cAbs_ok) da_nil)))) (by rfl)))
    (dss_cons (ds_while (fuel := fu_l_low_0) (ps_while PassesOwn.never (dt_cmp op_gt oGt_ok oGt_bl (de_var (pv 3)) de_int)
    (dss_one (ds_par (ps_par (i := 2) (j := 3) rfl sc_l_low.nd rfl rfl (by decide) rfl rfl (da_cons (pa_cons (de_var (pv 3)) (da_cons (pa_cons (de_op op_mod oMod_ok (de_var (pv 2)) (de_var (pv 3))) da_nil)))) (by rfl))))))
    (dss_cons (ds_if (dt_cmp op_lt oLt_ok oLt_bl (de_var (pv 1)) de_int)
    (dss_one (ds_par (ps_par (i := 0) (j := 1) rfl sc_l_low.nd rfl rfl (by decide) rfl rfl (da_cons (pa_cons (de_op op_sub oSub_ok de_int (de_var (pv 0))) (da_cons (pa_cons (de_op op_sub oSub_ok de_int (de_var (pv 1))) da_nil)))) (by rfl))))
    dss_nil)
    (dss_one (ds_ret (de_tup (pe_tup (da_cons (pa_cons (de_op op_fdivQ oDiv_ok (de_var (pv 0)) (de_var (pv 2))) (da_cons (pa_cons (de_op op_fdivQ oDiv_ok (de_var (pv 1)) (de_var (pv 2))) da_nil)))))))))))
theorem ok_l_less : Def P w K mg base "_law_less" ["_law_one", "_law_other"] 1 2 F_l_less := by
  exact def_ok (k := 0) T.a_l_less sc_l_less fun f cdv A outer s H E hr =>
    (dss_one (ds_ret (de_cmp op_lt oLt_ok (de_op op_mulAll oMul_ok (de_ix (de_var (pv 0)) de_int) (de_ix (de_var (pv 1)) de_int)) (de_op op_mulAll oMul_ok (de_ix (de_var (pv 1)) de_int) (de_ix (de_var (pv 0)) de_int)))))
theorem rec_l_same : ∀ d : Nat, Def P w K mg base "_law_same" ["_law_found", "_law_due"] (1 + d) 2 (R_l_same d)
  | 0 => def_no T.a_l_same rfl
  | d + 1 => by
    have d_l_same := rec_l_same d
    exact def_ok (k := 1 + d) T.a_l_same sc_l_same fun f cdv A outer s H E hr =>
    (dss_cons (ds_if (dt_val (de_isi2 (pe_callB call_isiT (by rfl) T.z_isinstance (by decide +kernel) (pa_cons (de_var (pv 1)) (pa_cons (pe_tup (pa_cons (pe_bltn (v := .ty "tuple") (by rfl) T.z_tuple (by decide +kernel) rfl) (pa_cons (pe_bltn (v := .ty "list") (by rfl) T.z_list (by decide +kernel) rfl) pa_nil))) pa_nil)))))
    (dss_cons (ds_if (dt_w (dw_or (dt_not (dt_val (de_isi2 (pe_callB call_isiT (by rfl) T.z_isinstance (by decide +kernel) (pa_cons (de_var (pv 0)) (pa_cons (pe_tup (pa_cons (pe_bltn (v := .ty "tuple") (by rfl) T.z_tuple (by decide +kernel) rfl) (pa_cons (pe_bltn (v := .ty "list") (by rfl) T.z_list (by decide +kernel) rfl) pa_nil))) pa_nil)))))) (dw_or1 (dt_cmp (op_neD hr.units) oNe_ok oEqG_bl (de_isi (pe_callB call_isi (by rfl) T.z_isinstance (by decide +kernel) (pa_cons (de_var (pv 0)) (pa_cons (pe_bltn (v := .ty "list") (by rfl) T.z_list (by decide +kernel) rfl) pa_nil)))) (de_isi (pe_callB call_isi (by rfl) T.z_isinstance (by decide +kernel) (pa_cons (de_var (pv 1)) (pa_cons (pe_bltn (v := .ty "list") (by rfl) T.z_list (by decide +kernel) rfl) pa_nil))))))))
    (dss_one (ds_ret de_bl))
    dss_nil)
    (dss_cons (ds_if (dt_cmp (op_neD hr.units) oNe_ok oEqG_bl (de_callB (pe_callB call_len (by rfl) T.z_len (by decide +kernel) (da_cons (pa_cons (de_var (pv 0)) da_nil))) cLen_ok) (de_callB (pe_callB call_len (by rfl) T.z_len (by decide +kernel) (da_cons (pa_cons (de_var (pv 1)) da_nil))) cLen_ok))
    (dss_one (ds_ret de_bl))
    dss_nil)
    (dss_one (ds_ret (de_callB (pe_callB (cr_all rfl) (by rfl) T.z_all (by decide +kernel) (da_cons (pa_cons (de_lc (own' := [("_law_one", 2), ("_law_other", 3)]) (pe_lc (own := [("_law_one", 2), ("_law_other", 3)]) rfl sc_l_same.nd (di_zip (RZ.pi_zipA (by rfl) T.z_zip (da_cons (pa_cons (de_var (pv 0)) (da_cons (pa_cons (de_var (pv 1)) da_nil)))))) (blkOk_by (N := ["_law_found", "_law_due", "_law_one", "_law_other"]) (sc := defScope s_l_same) (by decide +kernel)) (fun _ _ _ _ _ => (dg_tp (ts := [(.nm 2), (.nm 3)]) (pg_tup rfl (dgs_cons (pgs_cons (dg_nm (pg_name (i := 2) sc_l_same.nd rfl (Or.inl rfl))) (dgs_cons (pgs_cons (dg_nm (pg_name (i := 3) sc_l_same.nd rfl (Or.inl rfl))) dgs_nil))))))) (fun _ _ _ _ _ => dts_nil) (fun _ _ _ _ _ => (de_callD d_l_same hr (by omega) (by rfl) (da_cons (pa_cons (de_var (pv 2)) (da_cons (pa_cons (de_var (pv 3)) da_nil)))) (aLen_cons (aLen_cons aLen_nil))))) (by decide)) da_nil))) cAll_ok)))))
    dss_nil)
    (dss_cons (ds_if (dt_w (dw_or (dt_cmp op_isAll oIs_ok oIsG_bl (de_var (pv 1)) de_non) (dw_or1 (dt_cmp op_isAll oIs_ok oIsG_bl (de_var (pv 0)) de_non))))
    (dss_one (ds_ret (de_and (de_cmp op_isAll oIs_ok (de_var (pv 0)) de_non) (de_one (de_cmp op_isAll oIs_ok (de_var (pv 1)) de_non)))))
    dss_nil)
    (dss_cons (ds_if (dt_w (dw_or (dt_cmp (op_neD hr.units) oNe_ok oEqG_bl (de_isi (pe_callB call_isi (by rfl) T.z_isinstance (by decide +kernel) (pa_cons (de_var (pv 0)) (pa_cons (pe_bltn (v := .ty "bool") (by rfl) T.z_bool (by decide +kernel) rfl) pa_nil)))) (de_isi (pe_callB call_isi (by rfl) T.z_isinstance (by decide +kernel) (pa_cons (de_var (pv 1)) (pa_cons (pe_bltn (v := .ty "bool") (by rfl) T.z_bool (by decide +kernel) rfl) pa_nil))))) (dw_or1 (dt_cmp (op_neD hr.units) oNe_ok oEqG_bl (de_isi (pe_callB call_isi (by rfl) T.z_isinstance (by decide +kernel) (pa_cons (de_var (pv 0)) (pa_cons (pe_bltn (v := .ty "str") (by rfl) T.z_str (by decide +kernel) rfl) pa_nil)))) (de_isi (pe_callB call_isi (by rfl) T.z_isinstance (by decide +kernel) (pa_cons (de_var (pv 1)) (pa_cons (pe_bltn (v := .ty "str") (by rfl) T.z_str (by decide +kernel) rfl) pa_nil))))))))
    (dss_one (ds_ret de_bl))
    dss_nil)
    (dss_cons (ds_if (dt_cmp (op_neD hr.units) oNe_ok oEqG_bl (de_isi (pe_callB call_isi (by rfl) T.z_isinstance (by decide +kernel) (pa_cons (de_var (pv 0)) (pa_cons (pe_bltn (v := .ty "int") (by rfl) T.z_int (by decide +kernel) rfl) pa_nil)))) (de_isi (pe_callB call_isi (by rfl) T.z_isinstance (by decide +kernel) (pa_cons (de_var (pv 1)) (pa_cons (pe_bltn (v := .ty "int") (by rfl) T.z_int (by decide +kernel) rfl) pa_nil)))))
    (dss_one (ds_ret de_bl))
    dss_nil)
    (dss_one (ds_ret (de_cmp (op_eqD hr.units) oEq_ok (de_var (pv 0)) (de_var (pv 1)))))))))
theorem ok_l_same : Def P w K mg base "_law_same" ["_law_found", "_law_due"] 13 2 F_l_same := rec_l_same T 12
theorem ok_l_edges : Def P w K mg base "_law_edges" ["_law_tempo_here"] 1 1 F_l_edges := by
  exact def_ok (k := 0) T.a_l_edges sc_l_edges fun f cdv A outer s H E hr =>
    (dss_cons (ds_asg (ps_asg (de_lst (pe_lst (da_cons (pa_cons de_int da_nil)))) (dg_nm (pg_name (i := 1) sc_l_edges.nd rfl (Or.inl rfl)))))
    (dss_cons (ds_for (ps_for PassesOwn.never rfl (di_tup (pi_tup (de_ix (de_var (pv 0)) de_int))) (dg_nm (pg_name (i := 2) sc_l_edges.nd rfl (Or.inl rfl)))
    (dss_one (ds_expr (ps_expr (de_app (pe_bm PySem.F.plainAttrs_list PySem.F.slot_list_append PySem.F.type_list_append mt_append (de_var (pv 1)) (pa_cons (de_op op_addAll oAdd_ok (de_ix (de_var (pv 1)) (de_neg de_int)) (de_ix (de_var (pv 2)) de_int)) pa_nil))))))))
    (dss_one (ds_ret (de_var (pv 1))))))
theorem ok_is_whole_within : Def P w K mg base "is_whole_within" ["thing", "least", "most"] 2 3 F_is_whole_within := by
  have d_is_whole := ok_is_whole T (P := P) (w := w) (base := base)
  exact def_ok (k := 1) T.a_is_whole_within sc_is_whole_within fun f cdv A outer s H E hr =>
    (dss_one (ds_ret (de_and (de_callD d_is_whole hr (by decide) (by rfl) (da_cons (pa_cons (de_var (pv 0)) da_nil)) (aLen_cons aLen_nil)) (de_one (de_chain op_le oLe_ok op_le oLe_ok (de_var (pv 1)) (de_var (pv 0)) (de_var (pv 2)) (pe_chain op_le op_le (de_var (pv 1)) (de_var (pv 0)) (de_var (pv 2))))))))
theorem ok_is_fraction : Def P w K mg base "is_fraction" ["thing"] 2 1 F_is_fraction := by
  have d_is_whole := ok_is_whole T (P := P) (w := w) (base := base)
  have d_is_tuple_of := ok_is_tuple_of T (P := P) (w := w) (base := base)
  exact def_ok (k := 1) T.a_is_fraction sc_is_fraction fun f cdv A outer s H E hr =>
    (dss_cons (ds_if (dt_not (dt_val (de_callD d_is_tuple_of hr (by decide) (by rfl) (da_cons (pa_cons (de_var (pv 0)) (da_cons (pa_cons de_int da_nil)))) (aLen_cons (aLen_cons aLen_nil)))))
    (dss_one (ds_ret de_bl))
    dss_nil)
    (dss_cons (ds_asg (ps_asg (de_var (pv 0)) (dg_tp (ts := [(.nm 1), (.nm 2)]) (pg_tup rfl (dgs_cons (pgs_cons (dg_nm (pg_name (i := 1) sc_is_fraction.nd rfl (Or.inl rfl))) (dgs_cons (pgs_cons (dg_nm (pg_name (i := 2) sc_is_fraction.nd rfl (Or.inl rfl))) dgs_nil))))))))
    (dss_cons (ds_if (dt_w (dw_or (dt_not (dt_val (de_callD d_is_whole hr (by decide) (by rfl) (da_cons (pa_cons (de_var (pv 1)) da_nil)) (aLen_cons aLen_nil)))) (dw_or1 (dt_not (dt_val (de_callD d_is_whole hr (by decide) (by rfl) (da_cons (pa_cons (de_var (pv 2)) da_nil)) (aLen_cons aLen_nil)))))))
    (dss_one (ds_ret de_bl))
    dss_nil)
    (dss_one (ds_ret (de_and (de_cmp op_ge oGe_ok (de_var (pv 2)) de_int) (de_one (de_cmp (op_eqD hr.units) oEq_ok (de_callB (pe_callBfun cr_gcd (by rfl) T.m_gcd (da_cons (pa_cons (de_var (pv 1)) (da_cons (pa_cons (de_var (pv 2)) da_nil))))) cGcd_ok) de_int))))))))
theorem ok_plus : Def P w K mg base "plus" ["one", "other"] 2 2 F_plus := by
  have d_in_lowest_terms := ok_in_lowest_terms T (P := P) (w := w) (base := base)
  exact def_ok (k := 1) T.a_plus sc_plus fun f cdv A outer s H E hr =>
    (dss_cons (ds_asg (ps_asg (de_var (pv 0)) (dg_tp (ts := [(.nm 2), (.nm 3)]) (pg_tup rfl (dgs_cons (pgs_cons (dg_nm (pg_name (i := 2) sc_plus.nd rfl (Or.inl rfl))) (dgs_cons (pgs_cons (dg_nm (pg_name (i := 3) sc_plus.nd rfl (Or.inl rfl))) dgs_nil))))))))
    (dss_cons (ds_asg (ps_asg (de_var (pv 1)) (dg_tp (ts := [(.nm 4), (.nm 5)]) (pg_tup rfl (dgs_cons (pgs_cons (dg_nm (pg_name (i := 4) sc_plus.nd rfl (Or.inl rfl))) (dgs_cons (pgs_cons (dg_nm (pg_name (i := 5) sc_plus.nd rfl (Or.inl rfl))) dgs_nil))))))))
    (dss_one (ds_ret (de_callD d_in_lowest_terms hr (by decide) (by rfl) (da_cons (pa_cons (de_op op_addAll oAdd_ok (de_op op_mulAll oMul_ok (de_var (pv 2)) (de_var (pv 5))) (de_op op_mulAll oMul_ok (de_var (pv 4)) (de_var (pv 3)))) (da_cons (pa_cons (de_op op_mulAll oMul_ok (de_var (pv 3)) (de_var (pv 5))) da_nil)))) (aLen_cons (aLen_cons aLen_nil)))))))
theorem ok_minus : Def P w K mg base "minus" ["one", "other"] 2 2 F_minus := by
  have d_in_lowest_terms := ok_in_lowest_terms T (P := P) (w := w) (base := base)
  exact def_ok (k := 1) T.a_minus sc_minus fun f cdv A outer s H E hr =>
    (dss_cons (ds_asg (ps_asg (de_var (pv 0)) (dg_tp (ts := [(.nm 2), (.nm 3)]) (pg_tup rfl (dgs_cons (pgs_cons (dg_nm (pg_name (i := 2) sc_minus.nd rfl (Or.inl rfl))) (dgs_cons (pgs_cons (dg_nm (pg_name (i := 3) sc_minus.nd rfl (Or.inl rfl))) dgs_nil))))))))
    (dss_cons (ds_asg (ps_asg (de_var (pv 1)) (dg_tp (ts := [(.nm 4), (.nm 5)]) (pg_tup rfl (dgs_cons (pgs_cons (dg_nm (pg_name (i := 4) sc_minus.nd rfl (Or.inl rfl))) (dgs_cons (pgs_cons (dg_nm (pg_name (i := 5) sc_minus.nd rfl (Or.inl rfl))) dgs_nil))))))))
    (dss_one (ds_ret (de_callD d_in_lowest_terms hr (by decide) (by rfl) (da_cons (pa_cons (de_op op_sub oSub_ok (de_op op_mulAll oMul_ok (de_var (pv 2)) (de_var (pv 5))) (de_op op_mulAll oMul_ok (de_var (pv 4)) (de_var (pv 3)))) (da_cons (pa_cons (de_op op_mulAll oMul_ok (de_var (pv 3)) (de_var (pv 5))) da_nil)))) (aLen_cons (aLen_cons aLen_nil)))))))
theorem ok_times : Def P w K mg base "times" ["one", "other"] 2 2 F_times := by
  have d_in_lowest_terms := ok_in_lowest_terms T (P := P) (w := w) (base := base)
  exact def_ok (k := 1) T.a_times sc_times fun f cdv A outer s H E hr =>
    (dss_one (ds_ret (de_callD d_in_lowest_terms hr (by decide) (by rfl) (da_cons (pa_cons (de_op op_mulAll oMul_ok (de_ix (de_var (pv 0)) de_int) (de_ix (de_var (pv 1)) de_int)) (da_cons (pa_cons (de_op op_mulAll oMul_ok (de_ix (de_var (pv 0)) de_int) (de_ix (de_var (pv 1)) de_int)) da_nil)))) (aLen_cons (aLen_cons aLen_nil)))))
theorem ok_over : Def P w K mg base "over" ["one", "other"] 2 2 F_over := by
  have d_in_lowest_terms := ok_in_lowest_terms T (P := P) (w := w) (base := base)
  exact def_ok (k := 1) T.a_over sc_over fun f cdv A outer s H E hr =>
    (dss_cons (ds_if (dt_cmp (op_eqD hr.units) oEq_ok oEqG_bl (de_var (pv 1)) (de_gtup T.g_NOUGHT (by rfl)))
    (dss_one ds_no)
    dss_nil)
    (dss_one (ds_ret (de_callD d_in_lowest_terms hr (by decide) (by rfl) (da_cons (pa_cons (de_op op_mulAll oMul_ok (de_ix (de_var (pv 0)) de_int) (de_ix (de_var (pv 1)) de_int)) (da_cons (pa_cons (de_op op_mulAll oMul_ok (de_ix (de_var (pv 0)) de_int) (de_ix (de_var (pv 1)) de_int)) da_nil)))) (aLen_cons (aLen_cons aLen_nil))))))
theorem ok_l_add : Def P w K mg base "_law_add" ["_law_one", "_law_other"] 2 2 F_l_add := by
  have d_l_low := ok_l_low T (P := P) (w := w) (base := base)
  exact def_ok (k := 1) T.a_l_add sc_l_add fun f cdv A outer s H E hr =>
    (dss_one (ds_ret (de_callD d_l_low hr (by decide) (by rfl) (da_cons (pa_cons (de_op op_addAll oAdd_ok (de_op op_mulAll oMul_ok (de_ix (de_var (pv 0)) de_int) (de_ix (de_var (pv 1)) de_int)) (de_op op_mulAll oMul_ok (de_ix (de_var (pv 1)) de_int) (de_ix (de_var (pv 0)) de_int))) (da_cons (pa_cons (de_op op_mulAll oMul_ok (de_ix (de_var (pv 0)) de_int) (de_ix (de_var (pv 1)) de_int)) da_nil)))) (aLen_cons (aLen_cons aLen_nil)))))
theorem ok_l_sub : Def P w K mg base "_law_sub" ["_law_one", "_law_other"] 2 2 F_l_sub := by
  have d_l_low := ok_l_low T (P := P) (w := w) (base := base)
  exact def_ok (k := 1) T.a_l_sub sc_l_sub fun f cdv A outer s H E hr =>
    (dss_one (ds_ret (de_callD d_l_low hr (by decide) (by rfl) (da_cons (pa_cons (de_op op_sub oSub_ok (de_op op_mulAll oMul_ok (de_ix (de_var (pv 0)) de_int) (de_ix (de_var (pv 1)) de_int)) (de_op op_mulAll oMul_ok (de_ix (de_var (pv 1)) de_int) (de_ix (de_var (pv 0)) de_int))) (da_cons (pa_cons (de_op op_mulAll oMul_ok (de_ix (de_var (pv 0)) de_int) (de_ix (de_var (pv 1)) de_int)) da_nil)))) (aLen_cons (aLen_cons aLen_nil)))))
theorem ok_l_mul : Def P w K mg base "_law_mul" ["_law_one", "_law_other"] 2 2 F_l_mul := by
  have d_l_low := ok_l_low T (P := P) (w := w) (base := base)
  exact def_ok (k := 1) T.a_l_mul sc_l_mul fun f cdv A outer s H E hr =>
    (dss_one (ds_ret (de_callD d_l_low hr (by decide) (by rfl) (da_cons (pa_cons (de_op op_mulAll oMul_ok (de_ix (de_var (pv 0)) de_int) (de_ix (de_var (pv 1)) de_int)) (da_cons (pa_cons (de_op op_mulAll oMul_ok (de_ix (de_var (pv 0)) de_int) (de_ix (de_var (pv 1)) de_int)) da_nil)))) (aLen_cons (aLen_cons aLen_nil)))))
theorem ok_l_div : Def P w K mg base "_law_div" ["_law_one", "_law_other"] 2 2 F_l_div := by
  have d_l_low := ok_l_low T (P := P) (w := w) (base := base)
  exact def_ok (k := 1) T.a_l_div sc_l_div fun f cdv A outer s H E hr =>
    (dss_one (ds_ret (de_callD d_l_low hr (by decide) (by rfl) (da_cons (pa_cons (de_op op_mulAll oMul_ok (de_ix (de_var (pv 0)) de_int) (de_ix (de_var (pv 1)) de_int)) (da_cons (pa_cons (de_op op_mulAll oMul_ok (de_ix (de_var (pv 0)) de_int) (de_ix (de_var (pv 1)) de_int)) da_nil)))) (aLen_cons (aLen_cons aLen_nil)))))
theorem ok_l_above : Def P w K mg base "_law_above" ["_law_pen_here"] 2 1 F_l_above := by
  have d_l_draw := ok_l_draw T (P := P) (w := w) (base := base)
  have d_l_low := ok_l_low T (P := P) (w := w) (base := base)
  exact def_ok (k := 1) T.a_l_above sc_l_above fun f cdv A outer s H E hr =>
    (dss_cons (ds_asg (ps_asg (de_ix (de_lst (pe_lst (da_cons (pa_cons de_int (da_cons (pa_cons de_int (da_cons (pa_cons de_int (da_cons (pa_cons de_int (da_cons (pa_cons (de_op op_sub oSub_ok (de_op op_pow oPow_ok de_int de_int) de_int) da_nil)))))))))))) (de_callD d_l_draw hr (by decide) (by rfl) (da_cons (pa_cons (de_var (pv 0)) (da_cons (pa_cons de_int da_nil)))) (aLen_cons (aLen_cons aLen_nil)))) (dg_nm (pg_name (i := 1) sc_l_above.nd rfl (Or.inl rfl)))))
    (dss_one (ds_ret (de_callD d_l_low hr (by decide) (by rfl) (da_cons (pa_cons (de_op op_addAll oAdd_ok de_int (de_callD d_l_draw hr (by decide) (by rfl) (da_cons (pa_cons (de_var (pv 0)) (da_cons (pa_cons (de_var (pv 1)) da_nil)))) (aLen_cons (aLen_cons aLen_nil)))) (da_cons (pa_cons (de_op op_addAll oAdd_ok de_int (de_callD d_l_draw hr (by decide) (by rfl) (da_cons (pa_cons (de_var (pv 0)) (da_cons (pa_cons (de_var (pv 1)) da_nil)))) (aLen_cons (aLen_cons aLen_nil)))) da_nil)))) (aLen_cons (aLen_cons aLen_nil))))))
theorem ok_is_from_nought : Def P w K mg base "is_from_nought" ["thing"] 3 1 F_is_from_nought := by
  have d_is_fraction := ok_is_fraction T (P := P) (w := w) (base := base)
  exact def_ok (k := 2) T.a_is_from_nought sc_is_from_nought fun f cdv A outer s H E hr =>
    (dss_one (ds_ret (de_and (de_callD d_is_fraction hr (by decide) (by rfl) (da_cons (pa_cons (de_var (pv 0)) da_nil)) (aLen_cons aLen_nil)) (de_one (de_cmp op_ge oGe_ok (de_ix (de_var (pv 0)) de_int) de_int)))))
theorem ok_is_above_nought : Def P w K mg base "is_above_nought" ["thing"] 3 1 F_is_above_nought := by
  have d_is_fraction := ok_is_fraction T (P := P) (w := w) (base := base)
  exact def_ok (k := 2) T.a_is_above_nought sc_is_above_nought fun f cdv A outer s H E hr =>
    (dss_one (ds_ret (de_and (de_callD d_is_fraction hr (by decide) (by rfl) (da_cons (pa_cons (de_var (pv 0)) da_nil)) (aLen_cons aLen_nil)) (de_one (de_cmp op_gt oGt_ok (de_ix (de_var (pv 0)) de_int) de_int)))))
theorem ok_rise_of : Def P w K mg base "_rise_of" ["stretch"] 3 1 F_rise_of := by
  have d_minus := ok_minus T (P := P) (w := w) (base := base)
  have d_over := ok_over T (P := P) (w := w) (base := base)
  exact def_ok (k := 2) T.a_rise_of sc_rise_of fun f cdv A outer s H E hr =>
    (dss_cons (ds_asg (ps_asg (de_var (pv 0)) (dg_tp (ts := [(.nm 1), (.nm 2), (.nm 3)]) (pg_tup rfl (dgs_cons (pgs_cons (dg_nm (pg_name (i := 1) sc_rise_of.nd rfl (Or.inl rfl))) (dgs_cons (pgs_cons (dg_nm (pg_name (i := 2) sc_rise_of.nd rfl (Or.inl rfl))) (dgs_cons (pgs_cons (dg_nm (pg_name (i := 3) sc_rise_of.nd rfl (Or.inl rfl))) dgs_nil))))))))))
    (dss_one (ds_ret (de_callD d_over hr (by decide) (by rfl) (da_cons (pa_cons (de_callD d_minus hr (by decide) (by rfl) (da_cons (pa_cons (de_var (pv 3)) (da_cons (pa_cons (de_var (pv 2)) da_nil)))) (aLen_cons (aLen_cons aLen_nil))) (da_cons (pa_cons (de_tup (pe_tup (da_cons (pa_cons (de_var (pv 1)) (da_cons (pa_cons de_int da_nil)))))) da_nil)))) (aLen_cons (aLen_cons aLen_nil))))))
theorem ok_step_at : Def P w K mg base "_step_at" ["stretch", "moment"] 3 2 F_step_at := by
  have d_floor_of := ok_floor_of T (P := P) (w := w) (base := base)
  have d_times := ok_times T (P := P) (w := w) (base := base)
  exact def_ok (k := 2) T.a_step_at sc_step_at fun f cdv A outer s H E hr =>
    (dss_cons (ds_asg (ps_asg (de_var (pv 0)) (dg_tp (ts := [(.nm 2), (.tp [(.nm 3), (.nm 4)]), (.tp [(.nm 5), (.nm 6)])]) (pg_tup rfl (dgs_cons (pgs_cons (dg_nm (pg_name (i := 2) sc_step_at.nd rfl (Or.inl rfl))) (dgs_cons (pgs_cons (dg_tp (ts := [(.nm 3), (.nm 4)]) (pg_tup rfl (dgs_cons (pgs_cons (dg_nm (pg_name (i := 3) sc_step_at.nd rfl (Or.inl rfl))) (dgs_cons (pgs_cons (dg_nm (pg_name (i := 4) sc_step_at.nd rfl (Or.inl rfl))) dgs_nil)))))) (dgs_cons (pgs_cons (dg_tp (ts := [(.nm 5), (.nm 6)]) (pg_tup rfl (dgs_cons (pgs_cons (dg_nm (pg_name (i := 5) sc_step_at.nd rfl (Or.inl rfl))) (dgs_cons (pgs_cons (dg_nm (pg_name (i := 6) sc_step_at.nd rfl (Or.inl rfl))) dgs_nil)))))) dgs_nil))))))))))
    (dss_cons (ds_asg (ps_asg (de_op op_mulAll oMul_ok (de_op op_mulAll oMul_ok (de_op op_mulAll oMul_ok de_int (de_var (pv 2))) (de_var (pv 3))) (de_var (pv 6))) (dg_nm (pg_name (i := 7) sc_step_at.nd rfl (Or.inl rfl)))))
    (dss_cons (ds_asg (ps_asg (de_op op_sub oSub_ok (de_op op_mulAll oMul_ok (de_var (pv 5)) (de_var (pv 4))) (de_op op_mulAll oMul_ok (de_var (pv 3)) (de_var (pv 6)))) (dg_nm (pg_name (i := 8) sc_step_at.nd rfl (Or.inl rfl)))))
    (dss_cons (ds_asg (ps_asg (de_callD d_floor_of hr (by decide) (by rfl) (da_cons (pa_cons (de_callD d_times hr (by decide) (by rfl) (da_cons (pa_cons (de_var (pv 1)) (da_cons (pa_cons (de_tup (pe_tup (da_cons (pa_cons (de_op op_mulAll oMul_ok (de_op op_mulAll oMul_ok (de_op op_mulAll oMul_ok de_int (de_var (pv 2))) (de_var (pv 4))) (de_var (pv 6))) (da_cons (pa_cons de_int da_nil)))))) da_nil)))) (aLen_cons (aLen_cons aLen_nil))) da_nil)) (aLen_cons aLen_nil)) (dg_nm (pg_name (i := 9) sc_step_at.nd rfl (Or.inl rfl)))))
    (dss_cons (ds_asg (ps_asg de_int (dg_nm (pg_name (i := 10) sc_step_at.nd rfl (Or.inl rfl)))))
    (dss_cons (ds_asg (ps_asg (de_op op_sub oSub_ok (de_var (pv 2)) de_int) (dg_nm (pg_name (i := 11) sc_step_at.nd rfl (Or.inl rfl)))))
    (dss_cons (ds_while (fuel := fu_step_at_0) (ps_while PassesOwn.never (dt_cmp op_lt oLt_ok oLt_bl (de_var (pv 10)) (de_var (pv 11)))
    (dss_cons (ds_asg (ps_asg (de_op op_fdivQ oDiv_ok (de_op op_addAll oAdd_ok (de_op op_addAll oAdd_ok (de_var (pv 10)) (de_var (pv 11))) de_int) de_int) (dg_nm (pg_name (i := 12) sc_step_at.nd rfl (Or.inl rfl)))))
    (dss_one (ds_if (dt_cmp op_le oLe_ok oLe_bl (de_op op_addAll oAdd_ok (de_op op_mulAll oMul_ok (de_var (pv 12)) (de_var (pv 7))) (de_op op_mulAll oMul_ok (de_op op_mulAll oMul_ok (de_var (pv 12)) (de_var (pv 12))) (de_var (pv 8)))) (de_var (pv 9)))
    (dss_one (ds_asg (ps_asg (de_var (pv 12)) (dg_nm (pg_name (i := 10) sc_step_at.nd rfl (Or.inl rfl))))))
    (dss_one (ds_asg (ps_asg (de_op op_sub oSub_ok (de_var (pv 12)) de_int) (dg_nm (pg_name (i := 11) sc_step_at.nd rfl (Or.inl rfl)))))))))))
    (dss_one (ds_ret (de_var (pv 10)))))))))))
theorem ok_l_goes_on : Def P w K mg base "_law_goes_on" ["_law_one", "_law_other"] 3 2 F_l_goes_on := by
  have d_l_sub := ok_l_sub T (P := P) (w := w) (base := base)
  have d_l_mul := ok_l_mul T (P := P) (w := w) (base := base)
  exact def_ok (k := 2) T.a_l_goes_on sc_l_goes_on fun f cdv A outer s H E hr =>
    (dss_cons (ds_asg (ps_asg (de_callD d_l_mul hr (by decide) (by rfl) (da_cons (pa_cons (de_callD d_l_sub hr (by decide) (by rfl) (da_cons (pa_cons (de_ix (de_var (pv 0)) de_int) (da_cons (pa_cons (de_ix (de_var (pv 0)) de_int) da_nil)))) (aLen_cons (aLen_cons aLen_nil))) (da_cons (pa_cons (de_tup (pe_tup (da_cons (pa_cons de_int (da_cons (pa_cons (de_ix (de_var (pv 0)) de_int) da_nil)))))) da_nil)))) (aLen_cons (aLen_cons aLen_nil))) (dg_nm (pg_name (i := 2) sc_l_goes_on.nd rfl (Or.inl rfl)))))
    (dss_one (ds_ret (de_and (de_cmp (op_eqD hr.units) oEq_ok (de_ix (de_var (pv 0)) de_int) (de_ix (de_var (pv 1)) de_int)) (de_one (de_cmp (op_eqD hr.units) oEq_ok (de_var (pv 2)) (de_callD d_l_mul hr (by decide) (by rfl) (da_cons (pa_cons (de_callD d_l_sub hr (by decide) (by rfl) (da_cons (pa_cons (de_ix (de_var (pv 1)) de_int) (da_cons (pa_cons (de_ix (de_var (pv 1)) de_int) da_nil)))) (aLen_cons (aLen_cons aLen_nil))) (da_cons (pa_cons (de_tup (pe_tup (da_cons (pa_cons de_int (da_cons (pa_cons (de_ix (de_var (pv 1)) de_int) da_nil)))))) da_nil)))) (aLen_cons (aLen_cons aLen_nil)))))))))
theorem ok_l_line : Def P w K mg base "_law_line" ["_law_span", "_law_twice"] 3 2 F_l_line := by
  have d_l_low := ok_l_low T (P := P) (w := w) (base := base)
  have d_l_add := ok_l_add T (P := P) (w := w) (base := base)
  have d_l_sub := ok_l_sub T (P := P) (w := w) (base := base)
  have d_l_mul := ok_l_mul T (P := P) (w := w) (base := base)
  exact def_ok (k := 2) T.a_l_line sc_l_line fun f cdv A outer s H E hr =>
    (dss_one (ds_ret (de_callD d_l_add hr (by decide) (by rfl) (da_cons (pa_cons (de_ix (de_var (pv 0)) de_int) (da_cons (pa_cons (de_callD d_l_mul hr (by decide) (by rfl) (da_cons (pa_cons (de_callD d_l_sub hr (by decide) (by rfl) (da_cons (pa_cons (de_ix (de_var (pv 0)) de_int) (da_cons (pa_cons (de_ix (de_var (pv 0)) de_int) da_nil)))) (aLen_cons (aLen_cons aLen_nil))) (da_cons (pa_cons (de_callD d_l_low hr (by decide) (by rfl) (da_cons (pa_cons (de_var (pv 1)) (da_cons (pa_cons (de_op op_mulAll oMul_ok de_int (de_ix (de_var (pv 0)) de_int)) da_nil)))) (aLen_cons (aLen_cons aLen_nil))) da_nil)))) (aLen_cons (aLen_cons aLen_nil))) da_nil)))) (aLen_cons (aLen_cons aLen_nil)))))
theorem ok_l_places : Def P w K mg base "_law_places" ["_law_pen_here", "_law_tempo_here"] 3 2 F_l_places := by
  have d_l_draw := ok_l_draw T (P := P) (w := w) (base := base)
  have d_l_low := ok_l_low T (P := P) (w := w) (base := base)
  have d_l_edges := ok_l_edges T (P := P) (w := w) (base := base)
  have d_l_add := ok_l_add T (P := P) (w := w) (base := base)
  exact def_ok (k := 2) T.a_l_places sc_l_places fun f cdv A outer s H E hr =>
    (dss_cons (ds_asg (ps_asg (de_callD d_l_edges hr (by decide) (by rfl) (da_cons (pa_cons (de_var (pv 1)) da_nil)) (aLen_cons aLen_nil)) (dg_nm (pg_name (i := 2) sc_l_places.nd rfl (Or.inl rfl)))))
    (dss_cons (ds_asg (ps_asg (de_lst (pe_lst (da_cons (pa_cons (de_tup (pe_tup (da_cons (pa_cons de_int (da_cons (pa_cons de_int da_nil)))))) (da_cons (pa_cons (de_tup (pe_tup (da_cons (pa_cons (de_ix (de_var (pv 2)) (de_callD d_l_draw hr (by decide) (by rfl) (da_cons (pa_cons (de_var (pv 0)) (da_cons (pa_cons (de_callB (pe_callB call_len (by rfl) T.z_len (by decide +kernel) (da_cons (pa_cons (de_var (pv 2)) da_nil))) cLen_ok) da_nil)))) (aLen_cons (aLen_cons aLen_nil)))) (da_cons (pa_cons de_int da_nil)))))) (da_cons (pa_cons (de_tup (pe_tup (da_cons (pa_cons (de_op op_addAll oAdd_ok (de_ix (de_var (pv 2)) (de_neg de_int)) (de_callD d_l_draw hr (by decide) (by rfl) (da_cons (pa_cons (de_var (pv 0)) (da_cons (pa_cons de_int da_nil)))) (aLen_cons (aLen_cons aLen_nil)))) (da_cons (pa_cons de_int da_nil)))))) da_nil)))))))) (dg_nm (pg_name (i := 3) sc_l_places.nd rfl (Or.inl rfl)))))
    (dss_cons (ds_for (ps_for PassesOwn.never rfl (di_tup (pi_tup (de_tup (pe_tup (da_cons (pa_cons (de_ix (de_var (pv 2)) (de_callD d_l_draw hr (by decide) (by rfl) (da_cons (pa_cons (de_var (pv 0)) (da_cons (pa_cons (de_callB (pe_callB call_len (by rfl) T.z_len (by decide +kernel) (da_cons (pa_cons (de_var (pv 2)) da_nil))) cLen_ok) da_nil)))) (aLen_cons (aLen_cons aLen_nil)))) (da_cons (pa_cons (de_callD d_l_draw hr (by decide) (by rfl) (da_cons (pa_cons (de_var (pv 0)) (da_cons (pa_cons (de_op op_addAll oAdd_ok de_int (de_ix (de_var (pv 2)) (de_neg de_int))) da_nil)))) (aLen_cons (aLen_cons aLen_nil))) da_nil)))))))) (dg_nm (pg_name (i := 4) sc_l_places.nd rfl (Or.inl rfl)))
    (dss_cons (ds_asg (ps_asg (de_op op_addAll oAdd_ok de_int (de_callD d_l_draw hr (by decide) (by rfl) (da_cons (pa_cons (de_var (pv 0)) (da_cons (pa_cons de_int da_nil)))) (aLen_cons (aLen_cons aLen_nil)))) (dg_nm (pg_name (i := 5) sc_l_places.nd rfl (Or.inl rfl)))))
    (dss_one (ds_expr (ps_expr (de_app (pe_bm PySem.F.plainAttrs_list PySem.F.slot_list_append PySem.F.type_list_append mt_append (de_var (pv 3)) (pa_cons (de_callD d_l_add hr (by decide) (by rfl) (da_cons (pa_cons (de_tup (pe_tup (da_cons (pa_cons (de_var (pv 4)) (da_cons (pa_cons de_int da_nil)))))) (da_cons (pa_cons (de_callD d_l_low hr (by decide) (by rfl) (da_cons (pa_cons (de_op op_addAll oAdd_ok de_int (de_callD d_l_draw hr (by decide) (by rfl) (da_cons (pa_cons (de_var (pv 0)) (da_cons (pa_cons (de_op op_sub oSub_ok (de_var (pv 5)) de_int) da_nil)))) (aLen_cons (aLen_cons aLen_nil)))) (da_cons (pa_cons (de_var (pv 5)) da_nil)))) (aLen_cons (aLen_cons aLen_nil))) da_nil)))) (aLen_cons (aLen_cons aLen_nil))) pa_nil)))))))))
    (dss_one (ds_ret (de_var (pv 3)))))))
theorem ok_l_far : Def P w K mg base "_law_far" ["_law_pen_here"] 3 1 F_l_far := by
  have d_l_draw := ok_l_draw T (P := P) (w := w) (base := base)
  have d_l_add := ok_l_add T (P := P) (w := w) (base := base)
  have d_l_above := ok_l_above T (P := P) (w := w) (base := base)
  exact def_ok (k := 2) T.a_l_far sc_l_far fun f cdv A outer s H E hr =>
    (dss_cons (ds_par (ps_par (i := 1) (j := 2) rfl sc_l_far.nd rfl rfl (by decide) rfl rfl (da_cons (pa_cons (de_callD d_l_above hr (by decide) (by rfl) (da_cons (pa_cons (de_var (pv 0)) da_nil)) (aLen_cons aLen_nil)) (da_cons (pa_cons (de_callD d_l_above hr (by decide) (by rfl) (da_cons (pa_cons (de_var (pv 0)) da_nil)) (aLen_cons aLen_nil)) da_nil)))) (by rfl)))
    (dss_cons (ds_asg (ps_asg (de_op op_sub oSub_ok de_int (de_ix (de_lst (pe_lst (da_cons (pa_cons de_int (da_cons (pa_cons (de_callD d_l_draw hr (by decide) (by rfl) (da_cons (pa_cons (de_var (pv 0)) (da_cons (pa_cons de_int da_nil)))) (aLen_cons (aLen_cons aLen_nil))) da_nil)))))) (de_callD d_l_draw hr (by decide) (by rfl) (da_cons (pa_cons (de_var (pv 0)) (da_cons (pa_cons de_int da_nil)))) (aLen_cons (aLen_cons aLen_nil))))) (dg_nm (pg_name (i := 3) sc_l_far.nd rfl (Or.inl rfl)))))
    (dss_cons (ds_asg (ps_asg (de_callD d_l_add hr (by decide) (by rfl) (da_cons (pa_cons (de_var (pv 2)) (da_cons (pa_cons (de_tup (pe_tup (da_cons (pa_cons (de_op op_addAll oAdd_ok de_int (de_callD d_l_draw hr (by decide) (by rfl) (da_cons (pa_cons (de_var (pv 0)) (da_cons (pa_cons (de_ix (de_lst (pe_lst (da_cons (pa_cons de_int (da_cons (pa_cons de_int da_nil)))))) (de_callD d_l_draw hr (by decide) (by rfl) (da_cons (pa_cons (de_var (pv 0)) (da_cons (pa_cons de_int da_nil)))) (aLen_cons (aLen_cons aLen_nil)))) da_nil)))) (aLen_cons (aLen_cons aLen_nil)))) (da_cons (pa_cons de_int da_nil)))))) da_nil)))) (aLen_cons (aLen_cons aLen_nil))) (dg_nm (pg_name (i := 4) sc_l_far.nd rfl (Or.inl rfl)))))
    (dss_cons (ds_if (dt_cmp (op_eqD hr.units) oEq_ok oEqG_bl (de_callD d_l_draw hr (by decide) (by rfl) (da_cons (pa_cons (de_var (pv 0)) (da_cons (pa_cons de_int da_nil)))) (aLen_cons (aLen_cons aLen_nil))) de_int)
    (dss_one (ds_ret (de_tup (pe_tup (da_cons (pa_cons (de_tup (pe_tup (da_cons (pa_cons (de_tup (pe_tup (da_cons (pa_cons (de_var (pv 3)) (da_cons (pa_cons (de_var (pv 2)) (da_cons (pa_cons (de_var (pv 4)) da_nil)))))))) da_nil)))) (da_cons (pa_cons (de_var (pv 1)) da_nil))))))))
    dss_nil)
    (dss_cons (ds_asg (ps_asg (de_op op_addAll oAdd_ok de_int (de_callD d_l_draw hr (by decide) (by rfl) (da_cons (pa_cons (de_var (pv 0)) (da_cons (pa_cons (de_op op_sub oSub_ok (de_var (pv 3)) de_int) da_nil)))) (aLen_cons (aLen_cons aLen_nil)))) (dg_nm (pg_name (i := 5) sc_l_far.nd rfl (Or.inl rfl)))))
    (dss_one (ds_ret (de_tup (pe_tup (da_cons (pa_cons (de_tup (pe_tup (da_cons (pa_cons (de_tup (pe_tup (da_cons (pa_cons (de_var (pv 5)) (da_cons (pa_cons (de_var (pv 2)) (da_cons (pa_cons (de_var (pv 4)) da_nil)))))))) (da_cons (pa_cons (de_tup (pe_tup (da_cons (pa_cons (de_op op_sub oSub_ok (de_var (pv 3)) (de_var (pv 5))) (da_cons (pa_cons (de_callD d_l_add hr (by decide) (by rfl) (da_cons (pa_cons (de_var (pv 4)) (da_cons (pa_cons (de_tup (pe_tup (da_cons (pa_cons de_int (da_cons (pa_cons de_int da_nil)))))) da_nil)))) (aLen_cons (aLen_cons aLen_nil))) (da_cons (pa_cons (de_var (pv 2)) da_nil)))))))) da_nil)))))) (da_cons (pa_cons (de_var (pv 1)) da_nil)))))))))))))
theorem ok_l_wide : Def P w K mg base "_law_wide" ["_law_pen_here"] 3 1 F_l_wide := by
  have d_l_draw := ok_l_draw T (P := P) (w := w) (base := base)
  have d_l_add := ok_l_add T (P := P) (w := w) (base := base)
  have d_l_above := ok_l_above T (P := P) (w := w) (base := base)
  exact def_ok (k := 2) T.a_l_wide sc_l_wide fun f cdv A outer s H E hr =>
    (dss_cons (ds_par (ps_par (i := 1) (j := 2) rfl sc_l_wide.nd rfl rfl (by decide) rfl rfl (da_cons (pa_cons (de_callD d_l_above hr (by decide) (by rfl) (da_cons (pa_cons (de_var (pv 0)) da_nil)) (aLen_cons aLen_nil)) (da_cons (pa_cons (de_lst (pe_lst da_nil)) da_nil)))) (by rfl)))
    (dss_cons (ds_for (ps_for PassesOwn.never rfl (di_rng1 (pi_range1 (by rfl) T.z_range (da_cons (pa_cons (de_op op_addAll oAdd_ok de_int (de_callD d_l_draw hr (by decide) (by rfl) (da_cons (pa_cons (de_var (pv 0)) (da_cons (pa_cons de_int da_nil)))) (aLen_cons (aLen_cons aLen_nil)))) da_nil))) (aLen_cons aLen_nil)) (dg_nm (pg_name (i := 3) sc_l_wide.nd rfl (Or.inl rfl)))
    (dss_cons (ds_asg (ps_asg (de_op op_addAll oAdd_ok de_int (de_callD d_l_draw hr (by decide) (by rfl) (da_cons (pa_cons (de_var (pv 0)) (da_cons (pa_cons (de_ix (de_lst (pe_lst (da_cons (pa_cons de_int (da_cons (pa_cons de_int da_nil)))))) (de_callD d_l_draw hr (by decide) (by rfl) (da_cons (pa_cons (de_var (pv 0)) (da_cons (pa_cons de_int da_nil)))) (aLen_cons (aLen_cons aLen_nil)))) da_nil)))) (aLen_cons (aLen_cons aLen_nil)))) (dg_nm (pg_name (i := 4) sc_l_wide.nd rfl (Or.inl rfl)))))
    (dss_one (ds_expr (ps_expr (de_app (pe_bm PySem.F.plainAttrs_list PySem.F.slot_list_append PySem.F.type_list_append mt_append (de_var (pv 2)) (pa_cons (de_tup (pe_tup (da_cons (pa_cons (de_var (pv 4)) (da_cons (pa_cons (de_callD d_l_add hr (by decide) (by rfl) (da_cons (pa_cons (de_var (pv 1)) (da_cons (pa_cons (de_tup (pe_tup (da_cons (pa_cons (de_var (pv 3)) (da_cons (pa_cons de_int da_nil)))))) da_nil)))) (aLen_cons (aLen_cons aLen_nil))) (da_cons (pa_cons (de_callD d_l_add hr (by decide) (by rfl) (da_cons (pa_cons (de_var (pv 1)) (da_cons (pa_cons (de_tup (pe_tup (da_cons (pa_cons (de_op op_addAll oAdd_ok (de_var (pv 3)) de_int) (da_cons (pa_cons de_int da_nil)))))) da_nil)))) (aLen_cons (aLen_cons aLen_nil))) da_nil)))))))) pa_nil)))))))))
    (dss_one (ds_ret (de_tup (pe_tup (da_cons (pa_cons (de_callB (pe_callTy call_tuple_of (by rfl) T.z_tuple (by decide +kernel) (da_cons (pa_cons (de_var (pv 2)) da_nil))) cTuple_ok) (da_cons (pa_cons (de_var (pv 1)) da_nil))))))))))
theorem ok_is_stretch : Def P w K mg base "is_stretch" ["thing"] 4 1 F_is_stretch := by
  have d_is_tuple_of := ok_is_tuple_of T (P := P) (w := w) (base := base)
  have d_is_whole_within := ok_is_whole_within T (P := P) (w := w) (base := base)
  have d_is_above_nought := ok_is_above_nought T (P := P) (w := w) (base := base)
  exact def_ok (k := 3) T.a_is_stretch sc_is_stretch fun f cdv A outer s H E hr =>
    (dss_cons (ds_if (dt_not (dt_val (de_callD d_is_tuple_of hr (by decide) (by rfl) (da_cons (pa_cons (de_var (pv 0)) (da_cons (pa_cons de_int da_nil)))) (aLen_cons (aLen_cons aLen_nil)))))
    (dss_one (ds_ret de_bl))
    dss_nil)
    (dss_cons (ds_asg (ps_asg (de_var (pv 0)) (dg_tp (ts := [(.nm 1), (.nm 2), (.nm 3)]) (pg_tup rfl (dgs_cons (pgs_cons (dg_nm (pg_name (i := 1) sc_is_stretch.nd rfl (Or.inl rfl))) (dgs_cons (pgs_cons (dg_nm (pg_name (i := 2) sc_is_stretch.nd rfl (Or.inl rfl))) (dgs_cons (pgs_cons (dg_nm (pg_name (i := 3) sc_is_stretch.nd rfl (Or.inl rfl))) dgs_nil))))))))))
    (dss_one (ds_ret (de_and (de_callD d_is_whole_within hr (by decide) (by rfl) (da_cons (pa_cons (de_var (pv 1)) (da_cons (pa_cons de_int (da_cons (pa_cons (de_gint T.g_MOST_STEPS (by rfl)) da_nil)))))) (aLen_cons (aLen_cons (aLen_cons aLen_nil)))) (de_and (de_callD d_is_above_nought hr (by decide) (by rfl) (da_cons (pa_cons (de_var (pv 2)) da_nil)) (aLen_cons aLen_nil)) (de_one (de_callD d_is_above_nought hr (by decide) (by rfl) (da_cons (pa_cons (de_var (pv 3)) da_nil)) (aLen_cons aLen_nil)))))))))
theorem ok_goes_on : Def P w K mg base "_goes_on" ["stretch", "behind"] 4 2 F_goes_on := by
  have d_rise_of := ok_rise_of T (P := P) (w := w) (base := base)
  exact def_ok (k := 3) T.a_goes_on sc_goes_on fun f cdv A outer s H E hr =>
    (dss_one (ds_ret (de_and (de_cmp (op_eqD hr.units) oEq_ok (de_ix (de_var (pv 0)) de_int) (de_ix (de_var (pv 1)) de_int)) (de_one (de_cmp (op_eqD hr.units) oEq_ok (de_callD d_rise_of hr (by decide) (by rfl) (da_cons (pa_cons (de_var (pv 0)) da_nil)) (aLen_cons aLen_nil)) (de_callD d_rise_of hr (by decide) (by rfl) (da_cons (pa_cons (de_var (pv 1)) da_nil)) (aLen_cons aLen_nil)))))))
theorem ok_length_within : Def P w K mg base "_length_within" ["stretch", "step"] 4 2 F_length_within := by
  have d_plus := ok_plus T (P := P) (w := w) (base := base)
  have d_times := ok_times T (P := P) (w := w) (base := base)
  have d_rise_of := ok_rise_of T (P := P) (w := w) (base := base)
  exact def_ok (k := 3) T.a_length_within sc_length_within fun f cdv A outer s H E hr =>
    (dss_cons (ds_asg (ps_asg (de_callD d_times hr (by decide) (by rfl) (da_cons (pa_cons (de_callD d_rise_of hr (by decide) (by rfl) (da_cons (pa_cons (de_var (pv 0)) da_nil)) (aLen_cons aLen_nil)) (da_cons (pa_cons (de_tup (pe_tup (da_cons (pa_cons (de_op op_addAll oAdd_ok (de_op op_mulAll oMul_ok de_int (de_var (pv 1))) de_int) (da_cons (pa_cons de_int da_nil)))))) da_nil)))) (aLen_cons (aLen_cons aLen_nil))) (dg_nm (pg_name (i := 2) sc_length_within.nd rfl (Or.inl rfl)))))
    (dss_one (ds_ret (de_callD d_plus hr (by decide) (by rfl) (da_cons (pa_cons (de_ix (de_var (pv 0)) de_int) (da_cons (pa_cons (de_var (pv 2)) da_nil)))) (aLen_cons (aLen_cons aLen_nil))))))
theorem ok_length_of_steps : Def P w K mg base "_length_of_steps" ["stretch", "many"] 4 2 F_length_of_steps := by
  have d_plus := ok_plus T (P := P) (w := w) (base := base)
  have d_times := ok_times T (P := P) (w := w) (base := base)
  have d_rise_of := ok_rise_of T (P := P) (w := w) (base := base)
  exact def_ok (k := 3) T.a_length_of_steps sc_length_of_steps fun f cdv A outer s H E hr =>
    (dss_cons (ds_asg (ps_asg (de_callD d_times hr (by decide) (by rfl) (da_cons (pa_cons (de_callD d_rise_of hr (by decide) (by rfl) (da_cons (pa_cons (de_var (pv 0)) da_nil)) (aLen_cons aLen_nil)) (da_cons (pa_cons (de_tup (pe_tup (da_cons (pa_cons (de_op op_mulAll oMul_ok (de_var (pv 1)) (de_var (pv 1))) (da_cons (pa_cons de_int da_nil)))))) da_nil)))) (aLen_cons (aLen_cons aLen_nil))) (dg_nm (pg_name (i := 2) sc_length_of_steps.nd rfl (Or.inl rfl)))))
    (dss_one (ds_ret (de_callD d_plus hr (by decide) (by rfl) (da_cons (pa_cons (de_callD d_times hr (by decide) (by rfl) (da_cons (pa_cons (de_ix (de_var (pv 0)) de_int) (da_cons (pa_cons (de_tup (pe_tup (da_cons (pa_cons (de_var (pv 1)) (da_cons (pa_cons de_int da_nil)))))) da_nil)))) (aLen_cons (aLen_cons aLen_nil))) (da_cons (pa_cons (de_var (pv 2)) da_nil)))) (aLen_cons (aLen_cons aLen_nil))))))
theorem ok_l_tempo : Def P w K mg base "_law_tempo" ["_law_pen_here", "_law_most"] 4 2 F_l_tempo := by
  have d_l_draw := ok_l_draw T (P := P) (w := w) (base := base)
  have d_l_above := ok_l_above T (P := P) (w := w) (base := base)
  have d_l_goes_on := ok_l_goes_on T (P := P) (w := w) (base := base)
  exact def_ok (k := 3) T.a_l_tempo sc_l_tempo fun f cdv A outer s H E hr =>
    (dss_cons (ds_asg (ps_asg (de_callD d_l_above hr (by decide) (by rfl) (da_cons (pa_cons (de_var (pv 0)) da_nil)) (aLen_cons aLen_nil)) (dg_nm (pg_name (i := 2) sc_l_tempo.nd rfl (Or.inl rfl)))))
    (dss_cons (ds_asg (ps_asg (de_lst (pe_lst da_nil)) (dg_nm (pg_name (i := 3) sc_l_tempo.nd rfl (Or.inl rfl)))))
    (dss_cons (ds_for (ps_for PassesOwn.never rfl (di_rng1 (pi_range1 (by rfl) T.z_range (da_cons (pa_cons (de_callD d_l_draw hr (by decide) (by rfl) (da_cons (pa_cons (de_var (pv 0)) (da_cons (pa_cons (de_op op_addAll oAdd_ok (de_var (pv 1)) de_int) da_nil)))) (aLen_cons (aLen_cons aLen_nil))) da_nil))) (aLen_cons aLen_nil)) (dg_nm (pg_name (i := 4) sc_l_tempo.nd rfl (Or.inl rfl)))
    (dss_cons (ds_asg (ps_asg (de_callD d_l_above hr (by decide) (by rfl) (da_cons (pa_cons (de_var (pv 0)) da_nil)) (aLen_cons aLen_nil)) (dg_nm (pg_name (i := 5) sc_l_tempo.nd rfl (Or.inl rfl)))))
    (dss_cons (ds_if (dt_w (dw_and (dt_cmp (op_neD hr.units) oNe_ok oEqG_bl (de_var (pv 3)) (de_lst (pe_lst da_nil))) (dw_and1 (dt_cmp (op_eqD hr.units) oEq_ok oEqG_bl (de_callD d_l_draw hr (by decide) (by rfl) (da_cons (pa_cons (de_var (pv 0)) (da_cons (pa_cons de_int da_nil)))) (aLen_cons (aLen_cons aLen_nil))) de_int))))
    (dss_one (ds_asg (ps_asg (de_ix (de_ix (de_var (pv 3)) (de_neg de_int)) de_int) (dg_nm (pg_name (i := 5) sc_l_tempo.nd rfl (Or.inl rfl))))))
    dss_nil)
    (dss_cons (ds_asg (ps_asg (de_ix (de_lst (pe_lst (da_cons (pa_cons (de_var (pv 5)) (da_cons (pa_cons (de_callD d_l_above hr (by decide) (by rfl) (da_cons (pa_cons (de_var (pv 0)) da_nil)) (aLen_cons aLen_nil)) (da_cons (pa_cons (de_var (pv 2)) da_nil)))))))) (de_callD d_l_draw hr (by decide) (by rfl) (da_cons (pa_cons (de_var (pv 0)) (da_cons (pa_cons de_int da_nil)))) (aLen_cons (aLen_cons aLen_nil)))) (dg_nm (pg_name (i := 6) sc_l_tempo.nd rfl (Or.inl rfl)))))
    (dss_cons (ds_asg (ps_asg (de_tup (pe_tup (da_cons (pa_cons (de_op op_addAll oAdd_ok de_int (de_callD d_l_draw hr (by decide) (by rfl) (da_cons (pa_cons (de_var (pv 0)) (da_cons (pa_cons (de_ix (de_lst (pe_lst (da_cons (pa_cons de_int (da_cons (pa_cons de_int (da_cons (pa_cons de_int da_nil)))))))) (de_callD d_l_draw hr (by decide) (by rfl) (da_cons (pa_cons (de_var (pv 0)) (da_cons (pa_cons de_int da_nil)))) (aLen_cons (aLen_cons aLen_nil)))) da_nil)))) (aLen_cons (aLen_cons aLen_nil)))) (da_cons (pa_cons (de_var (pv 5)) (da_cons (pa_cons (de_var (pv 6)) da_nil)))))))) (dg_nm (pg_name (i := 7) sc_l_tempo.nd rfl (Or.inl rfl)))))
    (dss_one (ds_if (dt_w (dw_or (dt_cmp (op_eqD hr.units) oEq_ok oEqG_bl (de_var (pv 3)) (de_lst (pe_lst da_nil))) (dw_or1 (dt_not (dt_val (de_callD d_l_goes_on hr (by decide) (by rfl) (da_cons (pa_cons (de_ix (de_var (pv 3)) (de_neg de_int)) (da_cons (pa_cons (de_var (pv 7)) da_nil)))) (aLen_cons (aLen_cons aLen_nil))))))))
    (dss_one (ds_expr (ps_expr (de_app (pe_bm PySem.F.plainAttrs_list PySem.F.slot_list_append PySem.F.type_list_append mt_append (de_var (pv 3)) (pa_cons (de_var (pv 7)) pa_nil))))))
    dss_nil))))))))
    (dss_cons (ds_while (fuel := fu_l_tempo_0) (ps_while PassesOwn.never (dt_w (dw_and (dt_cmp (op_neD hr.units) oNe_ok oEqG_bl (de_var (pv 3)) (de_lst (pe_lst da_nil))) (dw_and1 (dt_cmp (op_eqD hr.units) oEq_ok oEqG_bl (de_sl (de_ix (de_var (pv 3)) (de_neg de_int)) (do_at de_int) do_no) (de_tup (pe_tup (da_cons (pa_cons (de_var (pv 2)) (da_cons (pa_cons (de_var (pv 2)) da_nil))))))))))
    (dss_one (ds_expr (ps_expr (de_pop (pe_bm0 PySem.F.plainAttrs_list PySem.F.slot_list_pop PySem.F.type_list_pop mt_pop (de_var (pv 3)))))))))
    (dss_one (ds_ret (de_tup (pe_tup (da_cons (pa_cons (de_callB (pe_callTy call_tuple_of (by rfl) T.z_tuple (by decide +kernel) (da_cons (pa_cons (de_var (pv 3)) da_nil))) cTuple_ok) (da_cons (pa_cons (de_var (pv 2)) da_nil))))))))))))
theorem ok_l_moment : Def P w K mg base "_law_moment" ["_law_tempo_here", "_law_place_here"] 4 2 F_l_moment := by
  have d_l_low := ok_l_low T (P := P) (w := w) (base := base)
  have d_l_add := ok_l_add T (P := P) (w := w) (base := base)
  have d_l_mul := ok_l_mul T (P := P) (w := w) (base := base)
  have d_l_line := ok_l_line T (P := P) (w := w) (base := base)
  exact def_ok (k := 3) T.a_l_moment sc_l_moment fun f cdv A outer s H E hr =>
    (dss_cons (ds_par (ps_par (i := 2) (j := 3) rfl sc_l_moment.nd rfl rfl (by decide) rfl rfl (da_cons (pa_cons (de_op op_fdivQ oDiv_ok (de_ix (de_var (pv 1)) de_int) (de_ix (de_var (pv 1)) de_int)) (da_cons (pa_cons (de_tup (pe_tup (da_cons (pa_cons de_int (da_cons (pa_cons de_int da_nil)))))) da_nil)))) (by rfl)))
    (dss_cons (ds_asg (ps_asg (de_callD d_l_low hr (by decide) (by rfl) (da_cons (pa_cons (de_op op_mod oMod_ok (de_ix (de_var (pv 1)) de_int) (de_ix (de_var (pv 1)) de_int)) (da_cons (pa_cons (de_ix (de_var (pv 1)) de_int) da_nil)))) (aLen_cons (aLen_cons aLen_nil))) (dg_nm (pg_name (i := 4) sc_l_moment.nd rfl (Or.inl rfl)))))
    (dss_cons (ds_for (ps_for PassesOwn.never rfl (di_tup (pi_tup (de_ix (de_var (pv 0)) de_int))) (dg_nm (pg_name (i := 5) sc_l_moment.nd rfl (Or.inl rfl)))
    (dss_cons (ds_asg (ps_asg (de_callB (pe_callB (call_min2 rfl) (by rfl) T.z_min (by decide +kernel) (da_cons (pa_cons (de_var (pv 2)) (da_cons (pa_cons (de_ix (de_var (pv 5)) de_int) da_nil))))) cMin_ok) (dg_nm (pg_name (i := 6) sc_l_moment.nd rfl (Or.inl rfl)))))
    (dss_cons (ds_asg (ps_asg (de_callD d_l_add hr (by decide) (by rfl) (da_cons (pa_cons (de_var (pv 3)) (da_cons (pa_cons (de_callD d_l_mul hr (by decide) (by rfl) (da_cons (pa_cons (de_tup (pe_tup (da_cons (pa_cons (de_var (pv 6)) (da_cons (pa_cons de_int da_nil)))))) (da_cons (pa_cons (de_callD d_l_line hr (by decide) (by rfl) (da_cons (pa_cons (de_var (pv 5)) (da_cons (pa_cons (de_var (pv 6)) da_nil)))) (aLen_cons (aLen_cons aLen_nil))) da_nil)))) (aLen_cons (aLen_cons aLen_nil))) da_nil)))) (aLen_cons (aLen_cons aLen_nil))) (dg_nm (pg_name (i := 3) sc_l_moment.nd rfl (Or.inl rfl)))))
    (dss_cons (ds_if (dt_cmp op_lt oLt_ok oLt_bl (de_var (pv 2)) (de_ix (de_var (pv 5)) de_int))
    (dss_one (ds_ret (de_callD d_l_add hr (by decide) (by rfl) (da_cons (pa_cons (de_var (pv 3)) (da_cons (pa_cons (de_callD d_l_mul hr (by decide) (by rfl) (da_cons (pa_cons (de_var (pv 4)) (da_cons (pa_cons (de_callD d_l_line hr (by decide) (by rfl) (da_cons (pa_cons (de_var (pv 5)) (da_cons (pa_cons (de_op op_addAll oAdd_ok (de_op op_mulAll oMul_ok de_int (de_var (pv 2))) de_int) da_nil)))) (aLen_cons (aLen_cons aLen_nil))) da_nil)))) (aLen_cons (aLen_cons aLen_nil))) da_nil)))) (aLen_cons (aLen_cons aLen_nil)))))
    dss_nil)
    (dss_one (ds_asg (ps_asg (de_op op_sub oSub_ok (de_var (pv 2)) (de_ix (de_var (pv 5)) de_int)) (dg_nm (pg_name (i := 2) sc_l_moment.nd rfl (Or.inl rfl)))))))))))
    (dss_one (ds_ret (de_callD d_l_add hr (by decide) (by rfl) (da_cons (pa_cons (de_var (pv 3)) (da_cons (pa_cons (de_callD d_l_mul hr (by decide) (by rfl) (da_cons (pa_cons (de_callD d_l_add hr (by decide) (by rfl) (da_cons (pa_cons (de_tup (pe_tup (da_cons (pa_cons (de_var (pv 2)) (da_cons (pa_cons de_int da_nil)))))) (da_cons (pa_cons (de_var (pv 4)) da_nil)))) (aLen_cons (aLen_cons aLen_nil))) (da_cons (pa_cons (de_ix (de_var (pv 0)) de_int) da_nil)))) (aLen_cons (aLen_cons aLen_nil))) da_nil)))) (aLen_cons (aLen_cons aLen_nil))))))))
theorem ok_is_plain : Def P w K mg base "_is_plain" ["stretches", "rest"] 5 2 F_is_plain := by
  have d_goes_on := ok_goes_on T (P := P) (w := w) (base := base)
  exact def_ok (k := 4) T.a_is_plain sc_is_plain fun f cdv A outer s H E hr =>
    (dss_cons (ds_for (ps_for PassesOwn.never rfl (di_rng2 (pi_range2 (by rfl) T.z_range (da_cons (pa_cons de_int (da_cons (pa_cons (de_callB (pe_callB call_len (by rfl) T.z_len (by decide +kernel) (da_cons (pa_cons (de_var (pv 0)) da_nil))) cLen_ok) da_nil))))) (aLen_cons (aLen_cons aLen_nil))) (dg_nm (pg_name (i := 2) sc_is_plain.nd rfl (Or.inl rfl)))
    (dss_one (ds_if (dt_val (de_callD d_goes_on hr (by decide) (by rfl) (da_cons (pa_cons (de_ix (de_var (pv 0)) (de_op op_sub oSub_ok (de_var (pv 2)) de_int)) (da_cons (pa_cons (de_ix (de_var (pv 0)) (de_var (pv 2))) da_nil)))) (aLen_cons (aLen_cons aLen_nil))))
    (dss_one (ds_ret de_bl))
    dss_nil))))
    (dss_one (ds_ret (de_or (de_not (de_var (pv 0))) (de_one (de_cmp (op_neD hr.units) oNe_ok (de_sl (de_ix (de_var (pv 0)) (de_neg de_int)) (do_at de_int) do_no) (de_tup (pe_tup (da_cons (pa_cons (de_var (pv 1)) (da_cons (pa_cons (de_var (pv 1)) da_nil))))))))))))
theorem ok_moment_within : Def P w K mg base "_moment_within" ["stretch", "place"] 5 2 F_moment_within := by
  have d_floor_of := ok_floor_of T (P := P) (w := w) (base := base)
  have d_plus := ok_plus T (P := P) (w := w) (base := base)
  have d_minus := ok_minus T (P := P) (w := w) (base := base)
  have d_times := ok_times T (P := P) (w := w) (base := base)
  have d_length_within := ok_length_within T (P := P) (w := w) (base := base)
  have d_length_of_steps := ok_length_of_steps T (P := P) (w := w) (base := base)
  exact def_ok (k := 4) T.a_moment_within sc_moment_within fun f cdv A outer s H E hr =>
    (dss_cons (ds_asg (ps_asg (de_callD d_floor_of hr (by decide) (by rfl) (da_cons (pa_cons (de_var (pv 1)) da_nil)) (aLen_cons aLen_nil)) (dg_nm (pg_name (i := 2) sc_moment_within.nd rfl (Or.inl rfl)))))
    (dss_cons (ds_asg (ps_asg (de_callD d_minus hr (by decide) (by rfl) (da_cons (pa_cons (de_var (pv 1)) (da_cons (pa_cons (de_tup (pe_tup (da_cons (pa_cons (de_var (pv 2)) (da_cons (pa_cons de_int da_nil)))))) da_nil)))) (aLen_cons (aLen_cons aLen_nil))) (dg_nm (pg_name (i := 3) sc_moment_within.nd rfl (Or.inl rfl)))))
    (dss_one (ds_ret (de_callD d_plus hr (by decide) (by rfl) (da_cons (pa_cons (de_callD d_length_of_steps hr (by decide) (by rfl) (da_cons (pa_cons (de_var (pv 0)) (da_cons (pa_cons (de_var (pv 2)) da_nil)))) (aLen_cons (aLen_cons aLen_nil))) (da_cons (pa_cons (de_callD d_times hr (by decide) (by rfl) (da_cons (pa_cons (de_var (pv 3)) (da_cons (pa_cons (de_callD d_length_within hr (by decide) (by rfl) (da_cons (pa_cons (de_var (pv 0)) (da_cons (pa_cons (de_var (pv 2)) da_nil)))) (aLen_cons (aLen_cons aLen_nil))) da_nil)))) (aLen_cons (aLen_cons aLen_nil))) da_nil)))) (aLen_cons (aLen_cons aLen_nil)))))))
theorem ok_place_within : Def P w K mg base "_place_within" ["stretch", "moment"] 5 2 F_place_within := by
  have d_plus := ok_plus T (P := P) (w := w) (base := base)
  have d_minus := ok_minus T (P := P) (w := w) (base := base)
  have d_over := ok_over T (P := P) (w := w) (base := base)
  have d_step_at := ok_step_at T (P := P) (w := w) (base := base)
  have d_length_within := ok_length_within T (P := P) (w := w) (base := base)
  have d_length_of_steps := ok_length_of_steps T (P := P) (w := w) (base := base)
  exact def_ok (k := 4) T.a_place_within sc_place_within fun f cdv A outer s H E hr =>
    (dss_cons (ds_asg (ps_asg (de_callD d_step_at hr (by decide) (by rfl) (da_cons (pa_cons (de_var (pv 0)) (da_cons (pa_cons (de_var (pv 1)) da_nil)))) (aLen_cons (aLen_cons aLen_nil))) (dg_nm (pg_name (i := 2) sc_place_within.nd rfl (Or.inl rfl)))))
    (dss_cons (ds_asg (ps_asg (de_callD d_minus hr (by decide) (by rfl) (da_cons (pa_cons (de_var (pv 1)) (da_cons (pa_cons (de_callD d_length_of_steps hr (by decide) (by rfl) (da_cons (pa_cons (de_var (pv 0)) (da_cons (pa_cons (de_var (pv 2)) da_nil)))) (aLen_cons (aLen_cons aLen_nil))) da_nil)))) (aLen_cons (aLen_cons aLen_nil))) (dg_nm (pg_name (i := 3) sc_place_within.nd rfl (Or.inl rfl)))))
    (dss_one (ds_ret (de_callD d_plus hr (by decide) (by rfl) (da_cons (pa_cons (de_tup (pe_tup (da_cons (pa_cons (de_var (pv 2)) (da_cons (pa_cons de_int da_nil)))))) (da_cons (pa_cons (de_callD d_over hr (by decide) (by rfl) (da_cons (pa_cons (de_var (pv 3)) (da_cons (pa_cons (de_callD d_length_within hr (by decide) (by rfl) (da_cons (pa_cons (de_var (pv 0)) (da_cons (pa_cons (de_var (pv 2)) da_nil)))) (aLen_cons (aLen_cons aLen_nil))) da_nil)))) (aLen_cons (aLen_cons aLen_nil))) da_nil)))) (aLen_cons (aLen_cons aLen_nil)))))))
theorem ok_l_place : Def P w K mg base "_law_place" ["_law_tempo_here", "_law_moment_here"] 5 2 F_l_place := by
  have d_l_less := ok_l_less T (P := P) (w := w) (base := base)
  have d_l_add := ok_l_add T (P := P) (w := w) (base := base)
  have d_l_sub := ok_l_sub T (P := P) (w := w) (base := base)
  have d_l_div := ok_l_div T (P := P) (w := w) (base := base)
  have d_l_moment := ok_l_moment T (P := P) (w := w) (base := base)
  exact def_ok (k := 4) T.a_l_place sc_l_place fun f cdv A outer s H E hr =>
    (dss_cons (ds_asg (ps_asg (de_tup (pe_tup (da_cons (pa_cons de_int (da_cons (pa_cons de_int da_nil)))))) (dg_tp (ts := [(.nm 2), (.nm 3)]) (pg_tup rfl (dgs_cons (pgs_cons (dg_nm (pg_name (i := 2) sc_l_place.nd rfl (Or.inl rfl))) (dgs_cons (pgs_cons (dg_nm (pg_name (i := 3) sc_l_place.nd rfl (Or.inl rfl))) dgs_nil))))))))
    (dss_cons (ds_while (fuel := fu_l_place_0) (ps_while PassesOwn.never (dt_not (dt_val (de_callD d_l_less hr (by decide) (by rfl) (da_cons (pa_cons (de_var (pv 1)) (da_cons (pa_cons (de_callD d_l_moment hr (by decide) (by rfl) (da_cons (pa_cons (de_var (pv 0)) (da_cons (pa_cons (de_tup (pe_tup (da_cons (pa_cons (de_var (pv 3)) (da_cons (pa_cons de_int da_nil)))))) da_nil)))) (aLen_cons (aLen_cons aLen_nil))) da_nil)))) (aLen_cons (aLen_cons aLen_nil)))))
    (dss_one (ds_par (ps_par (i := 2) (j := 3) rfl sc_l_place.nd rfl rfl (by decide) rfl rfl (da_cons (pa_cons (de_var (pv 3)) (da_cons (pa_cons (de_op op_mulAll oMul_ok de_int (de_var (pv 3))) da_nil)))) (by rfl))))))
    (dss_cons (ds_while (fuel := fu_l_place_1) (ps_while PassesOwn.never (dt_cmp op_gt oGt_ok oGt_bl (de_op op_sub oSub_ok (de_var (pv 3)) (de_var (pv 2))) de_int)
    (dss_cons (ds_asg (ps_asg (de_op op_fdivQ oDiv_ok (de_op op_addAll oAdd_ok (de_var (pv 2)) (de_var (pv 3))) de_int) (dg_nm (pg_name (i := 4) sc_l_place.nd rfl (Or.inl rfl)))))
    (dss_one (ds_if (dt_val (de_callD d_l_less hr (by decide) (by rfl) (da_cons (pa_cons (de_var (pv 1)) (da_cons (pa_cons (de_callD d_l_moment hr (by decide) (by rfl) (da_cons (pa_cons (de_var (pv 0)) (da_cons (pa_cons (de_tup (pe_tup (da_cons (pa_cons (de_var (pv 4)) (da_cons (pa_cons de_int da_nil)))))) da_nil)))) (aLen_cons (aLen_cons aLen_nil))) da_nil)))) (aLen_cons (aLen_cons aLen_nil))))
    (dss_one (ds_asg (ps_asg (de_var (pv 4)) (dg_nm (pg_name (i := 3) sc_l_place.nd rfl (Or.inl rfl))))))
    (dss_one (ds_asg (ps_asg (de_var (pv 4)) (dg_nm (pg_name (i := 2) sc_l_place.nd rfl (Or.inl rfl)))))))))))
    (dss_cons (ds_par (ps_par (i := 5) (j := 6) rfl sc_l_place.nd rfl rfl (by decide) rfl rfl (da_cons (pa_cons (de_callD d_l_moment hr (by decide) (by rfl) (da_cons (pa_cons (de_var (pv 0)) (da_cons (pa_cons (de_tup (pe_tup (da_cons (pa_cons (de_var (pv 2)) (da_cons (pa_cons de_int da_nil)))))) da_nil)))) (aLen_cons (aLen_cons aLen_nil))) (da_cons (pa_cons (de_callD d_l_moment hr (by decide) (by rfl) (da_cons (pa_cons (de_var (pv 0)) (da_cons (pa_cons (de_tup (pe_tup (da_cons (pa_cons (de_op op_addAll oAdd_ok (de_var (pv 2)) de_int) (da_cons (pa_cons de_int da_nil)))))) da_nil)))) (aLen_cons (aLen_cons aLen_nil))) da_nil)))) (by rfl)))
    (dss_one (ds_ret (de_callD d_l_add hr (by decide) (by rfl) (da_cons (pa_cons (de_tup (pe_tup (da_cons (pa_cons (de_var (pv 2)) (da_cons (pa_cons de_int da_nil)))))) (da_cons (pa_cons (de_callD d_l_div hr (by decide) (by rfl) (da_cons (pa_cons (de_callD d_l_sub hr (by decide) (by rfl) (da_cons (pa_cons (de_var (pv 1)) (da_cons (pa_cons (de_var (pv 5)) da_nil)))) (aLen_cons (aLen_cons aLen_nil))) (da_cons (pa_cons (de_callD d_l_sub hr (by decide) (by rfl) (da_cons (pa_cons (de_var (pv 6)) (da_cons (pa_cons (de_var (pv 5)) da_nil)))) (aLen_cons (aLen_cons aLen_nil))) da_nil)))) (aLen_cons (aLen_cons aLen_nil))) da_nil)))) (aLen_cons (aLen_cons aLen_nil)))))))))
theorem ok_l_near : Def P w K mg base "_law_near" ["_law_pen_here", "_law_tempo_here"] 5 2 F_l_near := by
  have d_l_draw := ok_l_draw T (P := P) (w := w) (base := base)
  have d_l_add := ok_l_add T (P := P) (w := w) (base := base)
  have d_l_tempo := ok_l_tempo T (P := P) (w := w) (base := base)
  exact def_ok (k := 4) T.a_l_near sc_l_near fun f cdv A outer s H E hr =>
    (dss_cons (ds_asg (ps_asg (de_callD d_l_add hr (by decide) (by rfl) (da_cons (pa_cons (de_ix (de_var (pv 1)) de_int) (da_cons (pa_cons (de_tup (pe_tup (da_cons (pa_cons de_int (da_cons (pa_cons de_int da_nil)))))) da_nil)))) (aLen_cons (aLen_cons aLen_nil))) (dg_nm (pg_name (i := 2) sc_l_near.nd rfl (Or.inl rfl)))))
    (dss_cons (ds_if (dt_w (dw_or (dt_cmp (op_eqD hr.units) oEq_ok oEqG_bl (de_callD d_l_draw hr (by decide) (by rfl) (da_cons (pa_cons (de_var (pv 0)) (da_cons (pa_cons de_int da_nil)))) (aLen_cons (aLen_cons aLen_nil))) de_int) (dw_or1 (dt_w (dw_and (dt_cmp (op_neD hr.units) oNe_ok oEqG_bl (de_ix (de_var (pv 1)) de_int) (de_tup (pe_tup da_nil))) (dw_and1 (dt_cmp (op_eqD hr.units) oEq_ok oEqG_bl (de_sl (de_ix (de_ix (de_var (pv 1)) de_int) (de_neg de_int)) (do_at de_int) do_no) (de_tup (pe_tup (da_cons (pa_cons (de_var (pv 2)) (da_cons (pa_cons (de_var (pv 2)) da_nil)))))))))))))
    (dss_one (ds_ret (de_callD d_l_tempo hr (by decide) (by rfl) (da_cons (pa_cons (de_var (pv 0)) (da_cons (pa_cons de_int da_nil)))) (aLen_cons (aLen_cons aLen_nil)))))
    dss_nil)
    (dss_one (ds_ret (de_tup (pe_tup (da_cons (pa_cons (de_ix (de_var (pv 1)) de_int) (da_cons (pa_cons (de_var (pv 2)) da_nil))))))))))
theorem ok_is_tempo : Def P w K mg base "is_tempo" ["thing"] 6 1 F_is_tempo := by
  have d_is_tuple_of := ok_is_tuple_of T (P := P) (w := w) (base := base)
  have d_is_above_nought := ok_is_above_nought T (P := P) (w := w) (base := base)
  have d_is_stretch := ok_is_stretch T (P := P) (w := w) (base := base)
  have d_is_plain := ok_is_plain T (P := P) (w := w) (base := base)
  exact def_ok (k := 5) T.a_is_tempo sc_is_tempo fun f cdv A outer s H E hr =>
    (dss_cons (ds_if (dt_not (dt_val (de_callD d_is_tuple_of hr (by decide) (by rfl) (da_cons (pa_cons (de_var (pv 0)) (da_cons (pa_cons de_int da_nil)))) (aLen_cons (aLen_cons aLen_nil)))))
    (dss_one (ds_ret de_bl))
    dss_nil)
    (dss_cons (ds_asg (ps_asg (de_var (pv 0)) (dg_tp (ts := [(.nm 1), (.nm 2)]) (pg_tup rfl (dgs_cons (pgs_cons (dg_nm (pg_name (i := 1) sc_is_tempo.nd rfl (Or.inl rfl))) (dgs_cons (pgs_cons (dg_nm (pg_name (i := 2) sc_is_tempo.nd rfl (Or.inl rfl))) dgs_nil))))))))
    (dss_cons (ds_if (dt_w (dw_or (dt_not (dt_val (de_isi (pe_callB call_isi (by rfl) T.z_isinstance (by decide +kernel) (pa_cons (de_var (pv 1)) (pa_cons (pe_bltn (v := .ty "tuple") (by rfl) T.z_tuple (by decide +kernel) rfl) pa_nil)))))) (dw_or1 (dt_cmp op_gt oGt_ok oGt_bl (de_callB (pe_callB call_len (by rfl) T.z_len (by decide +kernel) (da_cons (pa_cons (de_var (pv 1)) da_nil))) cLen_ok) (de_gint T.g_MOST_STRETCHES (by rfl))))))
    (dss_one (ds_ret de_bl))
    dss_nil)
    (dss_cons (ds_if (dt_w (dw_or (dt_not (dt_val (de_callD d_is_above_nought hr (by decide) (by rfl) (da_cons (pa_cons (de_var (pv 2)) da_nil)) (aLen_cons aLen_nil)))) (dw_or1 (dt_not (dt_val (de_callB (pe_callB (cr_all rfl) (by rfl) T.z_all (by decide +kernel) (da_cons (pa_cons (de_lc (own' := [("part", 3)]) (pe_lc (own := [("part", 3)]) rfl sc_is_tempo.nd (di_tup (pi_tup (de_var (pv 1)))) (blkOk_by (N := ["thing", "stretches", "rest", "part"]) (sc := defScope s_is_tempo) (by decide +kernel)) (fun _ _ _ _ _ => (dg_nm (pg_name (i := 3) sc_is_tempo.nd rfl (Or.inl rfl)))) (fun _ _ _ _ _ => dts_nil) (fun _ _ _ _ _ => (de_callD d_is_stretch hr (by decide) (by rfl) (da_cons (pa_cons (de_var (pv 3)) da_nil)) (aLen_cons aLen_nil)))) (by decide)) da_nil))) cAll_ok))))))
    (dss_one (ds_ret de_bl))
    dss_nil)
    (dss_one (ds_ret (de_and (de_cmp op_le oLe_ok (de_callB (pe_callB (cr_sum rfl) (by rfl) T.z_sum (by decide +kernel) (da_cons (pa_cons (de_lc (own' := [("part", 3)]) (pe_lc (own := [("part", 3)]) rfl sc_is_tempo.nd (di_tup (pi_tup (de_var (pv 1)))) (blkOk_by (N := ["thing", "stretches", "rest", "part"]) (sc := defScope s_is_tempo) (by decide +kernel)) (fun _ _ _ _ _ => (dg_nm (pg_name (i := 3) sc_is_tempo.nd rfl (Or.inl rfl)))) (fun _ _ _ _ _ => dts_nil) (fun _ _ _ _ _ => (de_ix (de_var (pv 3)) de_int))) (by decide)) da_nil))) cSum_ok) (de_gint T.g_MOST_STEPS (by rfl))) (de_one (de_callD d_is_plain hr (by decide) (by rfl) (da_cons (pa_cons (de_var (pv 1)) (da_cons (pa_cons (de_var (pv 2)) da_nil)))) (aLen_cons (aLen_cons aLen_nil)))))))))))
theorem ok_refuse_no_tempo : Def P w K mg base "_refuse_no_tempo" ["thing"] 7 1 F_refuse_no_tempo := by
  have d_is_tempo := ok_is_tempo T (P := P) (w := w) (base := base)
  exact def_ok (k := 6) T.a_refuse_no_tempo sc_refuse_no_tempo fun f cdv A outer s H E hr =>
    (dss_one (ds_if (dt_not (dt_val (de_callD d_is_tempo hr (by decide) (by rfl) (da_cons (pa_cons (de_var (pv 0)) da_nil)) (aLen_cons aLen_nil))))
    (dss_one ds_no)
    dss_nil))
theorem ok_moment_of : Def P w K mg base "moment_of" ["tempo", "place"] 8 2 F_moment_of := by
  have d_is_less := ok_is_less T (P := P) (w := w) (base := base)
  have d_plus := ok_plus T (P := P) (w := w) (base := base)
  have d_minus := ok_minus T (P := P) (w := w) (base := base)
  have d_times := ok_times T (P := P) (w := w) (base := base)
  have d_is_from_nought := ok_is_from_nought T (P := P) (w := w) (base := base)
  have d_length_of_steps := ok_length_of_steps T (P := P) (w := w) (base := base)
  have d_moment_within := ok_moment_within T (P := P) (w := w) (base := base)
  have d_refuse_no_tempo := ok_refuse_no_tempo T (P := P) (w := w) (base := base)
  exact def_ok (k := 7) T.a_moment_of sc_moment_of fun f cdv A outer s H E hr =>
    (dss_cons (ds_expr (ps_expr (de_callD d_refuse_no_tempo hr (by decide) (by rfl) (da_cons (pa_cons (de_var (pv 0)) da_nil)) (aLen_cons aLen_nil))))
    (dss_cons (ds_if (dt_not (dt_val (de_callD d_is_from_nought hr (by decide) (by rfl) (da_cons (pa_cons (de_var (pv 1)) da_nil)) (aLen_cons aLen_nil))))
    (dss_one ds_no)
    dss_nil)
    (dss_cons (ds_asg (ps_asg (de_var (pv 0)) (dg_tp (ts := [(.nm 2), (.nm 3)]) (pg_tup rfl (dgs_cons (pgs_cons (dg_nm (pg_name (i := 2) sc_moment_of.nd rfl (Or.inl rfl))) (dgs_cons (pgs_cons (dg_nm (pg_name (i := 3) sc_moment_of.nd rfl (Or.inl rfl))) dgs_nil))))))))
    (dss_cons (ds_asg (ps_asg (de_gtup T.g_NOUGHT (by rfl)) (dg_nm (pg_name (i := 4) sc_moment_of.nd rfl (Or.inl rfl)))))
    (dss_cons (ds_asg (ps_asg (de_var (pv 1)) (dg_nm (pg_name (i := 5) sc_moment_of.nd rfl (Or.inl rfl)))))
    (dss_cons (ds_for (ps_for PassesOwn.never rfl (di_tup (pi_tup (de_var (pv 2)))) (dg_nm (pg_name (i := 6) sc_moment_of.nd rfl (Or.inl rfl)))
    (dss_cons (ds_asg (ps_asg (de_tup (pe_tup (da_cons (pa_cons (de_ix (de_var (pv 6)) de_int) (da_cons (pa_cons de_int da_nil)))))) (dg_nm (pg_name (i := 7) sc_moment_of.nd rfl (Or.inl rfl)))))
    (dss_cons (ds_if (dt_val (de_callD d_is_less hr (by decide) (by rfl) (da_cons (pa_cons (de_var (pv 5)) (da_cons (pa_cons (de_var (pv 7)) da_nil)))) (aLen_cons (aLen_cons aLen_nil))))
    (dss_one (ds_ret (de_callD d_plus hr (by decide) (by rfl) (da_cons (pa_cons (de_var (pv 4)) (da_cons (pa_cons (de_callD d_moment_within hr (by decide) (by rfl) (da_cons (pa_cons (de_var (pv 6)) (da_cons (pa_cons (de_var (pv 5)) da_nil)))) (aLen_cons (aLen_cons aLen_nil))) da_nil)))) (aLen_cons (aLen_cons aLen_nil)))))
    dss_nil)
    (dss_cons (ds_asg (ps_asg (de_callD d_plus hr (by decide) (by rfl) (da_cons (pa_cons (de_var (pv 4)) (da_cons (pa_cons (de_callD d_length_of_steps hr (by decide) (by rfl) (da_cons (pa_cons (de_var (pv 6)) (da_cons (pa_cons (de_ix (de_var (pv 6)) de_int) da_nil)))) (aLen_cons (aLen_cons aLen_nil))) da_nil)))) (aLen_cons (aLen_cons aLen_nil))) (dg_nm (pg_name (i := 4) sc_moment_of.nd rfl (Or.inl rfl)))))
    (dss_one (ds_asg (ps_asg (de_callD d_minus hr (by decide) (by rfl) (da_cons (pa_cons (de_var (pv 5)) (da_cons (pa_cons (de_var (pv 7)) da_nil)))) (aLen_cons (aLen_cons aLen_nil))) (dg_nm (pg_name (i := 5) sc_moment_of.nd rfl (Or.inl rfl)))))))))))
    (dss_one (ds_ret (de_callD d_plus hr (by decide) (by rfl) (da_cons (pa_cons (de_var (pv 4)) (da_cons (pa_cons (de_callD d_times hr (by decide) (by rfl) (da_cons (pa_cons (de_var (pv 5)) (da_cons (pa_cons (de_var (pv 3)) da_nil)))) (aLen_cons (aLen_cons aLen_nil))) da_nil)))) (aLen_cons (aLen_cons aLen_nil)))))))))))
theorem ok_place_of : Def P w K mg base "place_of" ["tempo", "moment"] 8 2 F_place_of := by
  have d_is_less := ok_is_less T (P := P) (w := w) (base := base)
  have d_plus := ok_plus T (P := P) (w := w) (base := base)
  have d_minus := ok_minus T (P := P) (w := w) (base := base)
  have d_over := ok_over T (P := P) (w := w) (base := base)
  have d_is_from_nought := ok_is_from_nought T (P := P) (w := w) (base := base)
  have d_length_of_steps := ok_length_of_steps T (P := P) (w := w) (base := base)
  have d_place_within := ok_place_within T (P := P) (w := w) (base := base)
  have d_refuse_no_tempo := ok_refuse_no_tempo T (P := P) (w := w) (base := base)
  exact def_ok (k := 7) T.a_place_of sc_place_of fun f cdv A outer s H E hr =>
    (dss_cons (ds_expr (ps_expr (de_callD d_refuse_no_tempo hr (by decide) (by rfl) (da_cons (pa_cons (de_var (pv 0)) da_nil)) (aLen_cons aLen_nil))))
    (dss_cons (ds_if (dt_not (dt_val (de_callD d_is_from_nought hr (by decide) (by rfl) (da_cons (pa_cons (de_var (pv 1)) da_nil)) (aLen_cons aLen_nil))))
    (dss_one ds_no)
    dss_nil)
    (dss_cons (ds_asg (ps_asg (de_var (pv 0)) (dg_tp (ts := [(.nm 2), (.nm 3)]) (pg_tup rfl (dgs_cons (pgs_cons (dg_nm (pg_name (i := 2) sc_place_of.nd rfl (Or.inl rfl))) (dgs_cons (pgs_cons (dg_nm (pg_name (i := 3) sc_place_of.nd rfl (Or.inl rfl))) dgs_nil))))))))
    (dss_cons (ds_asg (ps_asg de_int (dg_nm (pg_name (i := 4) sc_place_of.nd rfl (Or.inl rfl)))))
    (dss_cons (ds_asg (ps_asg (de_var (pv 1)) (dg_nm (pg_name (i := 5) sc_place_of.nd rfl (Or.inl rfl)))))
    (dss_cons (ds_for (ps_for PassesOwn.never rfl (di_tup (pi_tup (de_var (pv 2)))) (dg_nm (pg_name (i := 6) sc_place_of.nd rfl (Or.inl rfl)))
    (dss_cons (ds_asg (ps_asg (de_callD d_length_of_steps hr (by decide) (by rfl) (da_cons (pa_cons (de_var (pv 6)) (da_cons (pa_cons (de_ix (de_var (pv 6)) de_int) da_nil)))) (aLen_cons (aLen_cons aLen_nil))) (dg_nm (pg_name (i := 7) sc_place_of.nd rfl (Or.inl rfl)))))
    (dss_cons (ds_if (dt_val (de_callD d_is_less hr (by decide) (by rfl) (da_cons (pa_cons (de_var (pv 5)) (da_cons (pa_cons (de_var (pv 7)) da_nil)))) (aLen_cons (aLen_cons aLen_nil))))
    (dss_one (ds_ret (de_callD d_plus hr (by decide) (by rfl) (da_cons (pa_cons (de_tup (pe_tup (da_cons (pa_cons (de_var (pv 4)) (da_cons (pa_cons de_int da_nil)))))) (da_cons (pa_cons (de_callD d_place_within hr (by decide) (by rfl) (da_cons (pa_cons (de_var (pv 6)) (da_cons (pa_cons (de_var (pv 5)) da_nil)))) (aLen_cons (aLen_cons aLen_nil))) da_nil)))) (aLen_cons (aLen_cons aLen_nil)))))
    dss_nil)
    (dss_cons (ds_aug (ps_aug (i := 4) sc_place_of.nd rfl (Or.inl rfl) (de_ix (de_var (pv 6)) de_int) ip_add))
    (dss_one (ds_asg (ps_asg (de_callD d_minus hr (by decide) (by rfl) (da_cons (pa_cons (de_var (pv 5)) (da_cons (pa_cons (de_var (pv 7)) da_nil)))) (aLen_cons (aLen_cons aLen_nil))) (dg_nm (pg_name (i := 5) sc_place_of.nd rfl (Or.inl rfl)))))))))))
    (dss_one (ds_ret (de_callD d_plus hr (by decide) (by rfl) (da_cons (pa_cons (de_tup (pe_tup (da_cons (pa_cons (de_var (pv 4)) (da_cons (pa_cons de_int da_nil)))))) (da_cons (pa_cons (de_callD d_over hr (by decide) (by rfl) (da_cons (pa_cons (de_var (pv 5)) (da_cons (pa_cons (de_var (pv 3)) da_nil)))) (aLen_cons (aLen_cons aLen_nil))) da_nil)))) (aLen_cons (aLen_cons aLen_nil)))))))))))
theorem ok_l_far_right : Def P w K mg base "_law_far_right" ["_law_pen_here"] 14 1 F_l_far_right := by
  have d_l_draw := ok_l_draw T (P := P) (w := w) (base := base)
  have d_l_same := ok_l_same T (P := P) (w := w) (base := base)
  have d_l_far := ok_l_far T (P := P) (w := w) (base := base)
  have d_l_wide := ok_l_wide T (P := P) (w := w) (base := base)
  have d_l_moment := ok_l_moment T (P := P) (w := w) (base := base)
  have d_moment_of := ok_moment_of T (P := P) (w := w) (base := base)
  have d_place_of := ok_place_of T (P := P) (w := w) (base := base)
  exact def_ok (k := 13) T.a_l_far_right sc_l_far_right fun f cdv A outer s H E hr =>
    (dss_cons (ds_asg (ps_asg (de_if (dt_cmp (op_eqD hr.units) oEq_ok oEqG_bl (de_callD d_l_draw hr (by decide) (by rfl) (da_cons (pa_cons (de_var (pv 0)) (da_cons (pa_cons de_int da_nil)))) (aLen_cons (aLen_cons aLen_nil))) de_int) (de_callD d_l_far hr (by decide) (by rfl) (da_cons (pa_cons (de_var (pv 0)) da_nil)) (aLen_cons aLen_nil)) (de_callD d_l_wide hr (by decide) (by rfl) (da_cons (pa_cons (de_var (pv 0)) da_nil)) (aLen_cons aLen_nil))) (dg_nm (pg_name (i := 1) sc_l_far_right.nd rfl (Or.inl rfl)))))
    (dss_cons (ds_asg (ps_asg (de_callB (pe_callB (cr_sum rfl) (by rfl) T.z_sum (by decide +kernel) (da_cons (pa_cons (de_lc (own' := [("_law_span", 3)]) (pe_lc (own := [("_law_span", 3)]) rfl sc_l_far_right.nd (di_tup (pi_tup (de_ix (de_var (pv 1)) de_int))) (blkOk_by (N := ["_law_pen_here", "_law_tempo_here", "_law_steps", "_law_span", "_law_step", "_law_place_here", "_law_moment_here"]) (sc := defScope s_l_far_right) (by decide +kernel)) (fun _ _ _ _ _ => (dg_nm (pg_name (i := 3) sc_l_far_right.nd rfl (Or.inl rfl)))) (fun _ _ _ _ _ => dts_nil) (fun _ _ _ _ _ => (de_ix (de_var (pv 3)) de_int))) (by decide)) da_nil))) cSum_ok) (dg_nm (pg_name (i := 2) sc_l_far_right.nd rfl (Or.inl rfl)))))
    (dss_cons (ds_for (ps_for PassesOwn.never rfl (di_tup (pi_tup (de_tup (pe_tup (da_cons (pa_cons (de_callD d_l_draw hr (by decide) (by rfl) (da_cons (pa_cons (de_var (pv 0)) (da_cons (pa_cons (de_var (pv 2)) da_nil)))) (aLen_cons (aLen_cons aLen_nil))) (da_cons (pa_cons (de_op op_sub oSub_ok (de_op op_sub oSub_ok (de_var (pv 2)) de_int) (de_callD d_l_draw hr (by decide) (by rfl) (da_cons (pa_cons (de_var (pv 0)) (da_cons (pa_cons de_int da_nil)))) (aLen_cons (aLen_cons aLen_nil)))) (da_cons (pa_cons (de_callD d_l_draw hr (by decide) (by rfl) (da_cons (pa_cons (de_var (pv 0)) (da_cons (pa_cons de_int da_nil)))) (aLen_cons (aLen_cons aLen_nil))) (da_cons (pa_cons (de_callD d_l_draw hr (by decide) (by rfl) (da_cons (pa_cons (de_var (pv 0)) (da_cons (pa_cons (de_var (pv 2)) da_nil)))) (aLen_cons (aLen_cons aLen_nil))) da_nil)))))))))))) (dg_nm (pg_name (i := 4) sc_l_far_right.nd rfl (Or.inl rfl)))
    (dss_one (ds_for (ps_for PassesOwn.never rfl (di_tup (pi_tup (de_tup (pe_tup (da_cons (pa_cons (de_tup (pe_tup (da_cons (pa_cons (de_var (pv 4)) (da_cons (pa_cons de_int da_nil)))))) (da_cons (pa_cons (de_tup (pe_tup (da_cons (pa_cons (de_op op_addAll oAdd_ok (de_op op_mulAll oMul_ok de_int (de_var (pv 4))) de_int) (da_cons (pa_cons de_int da_nil)))))) da_nil)))))))) (dg_nm (pg_name (i := 5) sc_l_far_right.nd rfl (Or.inl rfl)))
    (dss_cons (ds_asg (ps_asg (de_callD d_moment_of hr (by decide) (by rfl) (da_cons (pa_cons (de_var (pv 1)) (da_cons (pa_cons (de_var (pv 5)) da_nil)))) (aLen_cons (aLen_cons aLen_nil))) (dg_nm (pg_name (i := 6) sc_l_far_right.nd rfl (Or.inl rfl)))))
    (dss_one (ds_if (dt_w (dw_or (dt_not (dt_val (de_callD d_l_same hr (by decide) (by rfl) (da_cons (pa_cons (de_var (pv 6)) (da_cons (pa_cons (de_callD d_l_moment hr (by decide) (by rfl) (da_cons (pa_cons (de_var (pv 1)) (da_cons (pa_cons (de_var (pv 5)) da_nil)))) (aLen_cons (aLen_cons aLen_nil))) da_nil)))) (aLen_cons (aLen_cons aLen_nil))))) (dw_or1 (dt_not (dt_val (de_callD d_l_same hr (by decide) (by rfl) (da_cons (pa_cons (de_callD d_place_of hr (by decide) (by rfl) (da_cons (pa_cons (de_var (pv 1)) (da_cons (pa_cons (de_var (pv 6)) da_nil)))) (aLen_cons (aLen_cons aLen_nil))) (da_cons (pa_cons (de_var (pv 5)) da_nil)))) (aLen_cons (aLen_cons aLen_nil))))))))
    (dss_one (ds_ret de_bl))
    dss_nil))))))))
    (dss_one (ds_ret de_bl)))))
theorem ok_l_fine_right : Def P w K mg base "_law_fine_right" ["_law_pen_here"] 14 1 F_l_fine_right := by
  have d_l_draw := ok_l_draw T (P := P) (w := w) (base := base)
  have d_l_low := ok_l_low T (P := P) (w := w) (base := base)
  have d_l_same := ok_l_same T (P := P) (w := w) (base := base)
  have d_l_moment := ok_l_moment T (P := P) (w := w) (base := base)
  have d_l_place := ok_l_place T (P := P) (w := w) (base := base)
  have d_moment_of := ok_moment_of T (P := P) (w := w) (base := base)
  have d_place_of := ok_place_of T (P := P) (w := w) (base := base)
  exact def_ok (k := 13) T.a_l_fine_right sc_l_fine_right fun f cdv A outer s H E hr =>
    (dss_cons (ds_setLc (own' := [("_law_k", 2)]) (ps_setLc (own := [("_law_k", 2)]) (i := 1) rfl sc_l_fine_right.nd rfl rfl (sw_true rfl rfl rfl (by decide +kernel)) (di_rng1 (pi_range1 (by rfl) T.z_range (da_cons (pa_cons de_int da_nil))) (aLen_cons aLen_nil)) (blkOk_by (N := ["_law_pen_here", "_law_some", "_law_k", "_law_great", "_law_tempo_here", "_law_place_here", "_law_moment_here"]) (sc := defScope s_l_fine_right) (by decide +kernel)) (fun _ _ _ _ _ => (dg_nm (pg_name (i := 2) sc_l_fine_right.nd rfl (Or.inl rfl)))) (fun _ _ _ _ _ => dts_nil) (fun _ _ _ _ _ => (de_callD d_l_low hr (by decide) (by rfl) (da_cons (pa_cons (de_op op_addAll oAdd_ok de_int (de_callD d_l_draw hr (by decide) (by rfl) (da_cons (pa_cons (de_var (pv 0)) (da_cons (pa_cons (de_op op_sub oSub_ok (de_op op_pow oPow_ok de_int de_int) de_int) da_nil)))) (aLen_cons (aLen_cons aLen_nil)))) (da_cons (pa_cons (de_op op_sub oSub_ok (de_op op_sub oSub_ok (de_op op_pow oPow_ok de_int de_int) de_int) (de_callD d_l_draw hr (by decide) (by rfl) (da_cons (pa_cons (de_var (pv 0)) (da_cons (pa_cons de_int da_nil)))) (aLen_cons (aLen_cons aLen_nil)))) da_nil)))) (aLen_cons (aLen_cons aLen_nil))))) (by decide))
    (dss_cons (ds_setLc (own' := [("_law_k", 2)]) (ps_setLc (own := [("_law_k", 2)]) (i := 3) rfl sc_l_fine_right.nd rfl rfl (sw_true rfl rfl rfl (by decide +kernel)) (di_rng1 (pi_range1 (by rfl) T.z_range (da_cons (pa_cons de_int da_nil))) (aLen_cons aLen_nil)) (blkOk_by (N := ["_law_pen_here", "_law_some", "_law_k", "_law_great", "_law_tempo_here", "_law_place_here", "_law_moment_here"]) (sc := defScope s_l_fine_right) (by decide +kernel)) (fun _ _ _ _ _ => (dg_nm (pg_name (i := 2) sc_l_fine_right.nd rfl (Or.inl rfl)))) (fun _ _ _ _ _ => dts_nil) (fun _ _ _ _ _ => (de_callD d_l_low hr (by decide) (by rfl) (da_cons (pa_cons (de_op op_addAll oAdd_ok de_int (de_callD d_l_draw hr (by decide) (by rfl) (da_cons (pa_cons (de_var (pv 0)) (da_cons (pa_cons (de_op op_sub oSub_ok (de_op op_pow oPow_ok de_int de_int) de_int) da_nil)))) (aLen_cons (aLen_cons aLen_nil)))) (da_cons (pa_cons (de_op op_addAll oAdd_ok de_int (de_callD d_l_draw hr (by decide) (by rfl) (da_cons (pa_cons (de_var (pv 0)) (da_cons (pa_cons de_int da_nil)))) (aLen_cons (aLen_cons aLen_nil)))) da_nil)))) (aLen_cons (aLen_cons aLen_nil))))) (by decide))
    (dss_cons (ds_asg (ps_asg (de_tup (pe_tup (da_cons (pa_cons (de_tup (pe_tup (da_cons (pa_cons (de_tup (pe_tup (da_cons (pa_cons (de_op op_addAll oAdd_ok de_int (de_callD d_l_draw hr (by decide) (by rfl) (da_cons (pa_cons (de_var (pv 0)) (da_cons (pa_cons de_int da_nil)))) (aLen_cons (aLen_cons aLen_nil)))) (da_cons (pa_cons (de_ix (de_var (pv 1)) de_int) (da_cons (pa_cons (de_ix (de_var (pv 1)) de_int) da_nil)))))))) da_nil)))) (da_cons (pa_cons (de_ix (de_var (pv 1)) de_int) da_nil)))))) (dg_nm (pg_name (i := 4) sc_l_fine_right.nd rfl (Or.inl rfl)))))
    (dss_cons (ds_if (dt_cmp (op_eqD hr.units) oEq_ok oEqG_bl (de_sl (de_var (pv 1)) do_no (do_at de_int)) (de_lst (pe_lst (da_cons (pa_cons (de_ix (de_var (pv 1)) de_int) (da_cons (pa_cons (de_ix (de_var (pv 1)) de_int) da_nil)))))))
    (dss_one (ds_asg (ps_asg (de_tup (pe_tup (da_cons (pa_cons (de_tup (pe_tup da_nil)) (da_cons (pa_cons (de_ix (de_var (pv 1)) de_int) da_nil)))))) (dg_nm (pg_name (i := 4) sc_l_fine_right.nd rfl (Or.inl rfl))))))
    dss_nil)
    (dss_cons (ds_for (ps_for PassesOwn.never rfl (di_tup (pi_tup (de_tup (pe_tup (da_cons (pa_cons (de_ix (de_var (pv 1)) de_int) (da_cons (pa_cons (de_ix (de_var (pv 3)) de_int) da_nil)))))))) (dg_nm (pg_name (i := 5) sc_l_fine_right.nd rfl (Or.inl rfl)))
    (dss_cons (ds_asg (ps_asg (de_callD d_moment_of hr (by decide) (by rfl) (da_cons (pa_cons (de_var (pv 4)) (da_cons (pa_cons (de_var (pv 5)) da_nil)))) (aLen_cons (aLen_cons aLen_nil))) (dg_nm (pg_name (i := 6) sc_l_fine_right.nd rfl (Or.inl rfl)))))
    (dss_one (ds_if (dt_w (dw_or (dt_not (dt_val (de_callD d_l_same hr (by decide) (by rfl) (da_cons (pa_cons (de_var (pv 6)) (da_cons (pa_cons (de_callD d_l_moment hr (by decide) (by rfl) (da_cons (pa_cons (de_var (pv 4)) (da_cons (pa_cons (de_var (pv 5)) da_nil)))) (aLen_cons (aLen_cons aLen_nil))) da_nil)))) (aLen_cons (aLen_cons aLen_nil))))) (dw_or1 (dt_not (dt_val (de_callD d_l_same hr (by decide) (by rfl) (da_cons (pa_cons (de_callD d_place_of hr (by decide) (by rfl) (da_cons (pa_cons (de_var (pv 4)) (da_cons (pa_cons (de_var (pv 6)) da_nil)))) (aLen_cons (aLen_cons aLen_nil))) (da_cons (pa_cons (de_var (pv 5)) da_nil)))) (aLen_cons (aLen_cons aLen_nil))))))))
    (dss_one (ds_ret de_bl))
    dss_nil)))))
    (dss_cons (ds_for (ps_for PassesOwn.never rfl (di_tup (pi_tup (de_tup (pe_tup (da_cons (pa_cons (de_ix (de_var (pv 1)) de_int) (da_cons (pa_cons (de_ix (de_var (pv 3)) de_int) da_nil)))))))) (dg_nm (pg_name (i := 6) sc_l_fine_right.nd rfl (Or.inl rfl)))
    (dss_one (ds_if (dt_not (dt_val (de_callD d_l_same hr (by decide) (by rfl) (da_cons (pa_cons (de_callD d_place_of hr (by decide) (by rfl) (da_cons (pa_cons (de_var (pv 4)) (da_cons (pa_cons (de_var (pv 6)) da_nil)))) (aLen_cons (aLen_cons aLen_nil))) (da_cons (pa_cons (de_callD d_l_place hr (by decide) (by rfl) (da_cons (pa_cons (de_var (pv 4)) (da_cons (pa_cons (de_var (pv 6)) da_nil)))) (aLen_cons (aLen_cons aLen_nil))) da_nil)))) (aLen_cons (aLen_cons aLen_nil)))))
    (dss_one (ds_ret de_bl))
    dss_nil))))
    (dss_one (ds_ret de_bl))))))))
theorem ok_law {a : Addr} {fd : FuncData} (A : Fun K "law" "law" s_law a fd) : FnOk P w K mg base CX0 15 a fd ["_law_script"] (spF K 1 F_law) := by
  have d_l_pen := ok_l_pen T (P := P) (w := w) (base := base)
  have d_l_draw := ok_l_draw T (P := P) (w := w) (base := base)
  have d_l_low := ok_l_low T (P := P) (w := w) (base := base)
  have d_l_same := ok_l_same T (P := P) (w := w) (base := base)
  have d_l_places := ok_l_places T (P := P) (w := w) (base := base)
  have d_l_tempo := ok_l_tempo T (P := P) (w := w) (base := base)
  have d_l_moment := ok_l_moment T (P := P) (w := w) (base := base)
  have d_l_place := ok_l_place T (P := P) (w := w) (base := base)
  have d_l_near := ok_l_near T (P := P) (w := w) (base := base)
  have d_moment_of := ok_moment_of T (P := P) (w := w) (base := base)
  have d_place_of := ok_place_of T (P := P) (w := w) (base := base)
  have d_l_far_right := ok_l_far_right T (P := P) (w := w) (base := base)
  have d_l_fine_right := ok_l_fine_right T (P := P) (w := w) (base := base)
  exact fn_ok (k := 14) A sc_law fun cdv A outer s H E hr =>
    (dss_cons (ds_asg (ps_asg (de_callD d_l_pen hr (by decide) (by rfl) (da_cons (pa_cons (de_var (pv 0)) da_nil)) (aLen_cons aLen_nil)) (dg_nm (pg_name (i := 1) sc_law.nd rfl (Or.inl rfl)))))
    (dss_cons (ds_asg (ps_asg (de_callD d_l_tempo hr (by decide) (by rfl) (da_cons (pa_cons (de_var (pv 1)) (da_cons (pa_cons de_int da_nil)))) (aLen_cons (aLen_cons aLen_nil))) (dg_nm (pg_name (i := 2) sc_law.nd rfl (Or.inl rfl)))))
    (dss_cons (ds_asg (ps_asg (de_callD d_l_near hr (by decide) (by rfl) (da_cons (pa_cons (de_var (pv 1)) (da_cons (pa_cons (de_var (pv 2)) da_nil)))) (aLen_cons (aLen_cons aLen_nil))) (dg_nm (pg_name (i := 3) sc_law.nd rfl (Or.inl rfl)))))
    (dss_cons (ds_for (ps_for PassesOwn.never rfl (di_tup (pi_tup (de_tup (pe_tup (da_cons (pa_cons (de_var (pv 2)) (da_cons (pa_cons (de_var (pv 3)) (da_cons (pa_cons (de_var (pv 2)) da_nil)))))))))) (dg_nm (pg_name (i := 4) sc_law.nd rfl (Or.inl rfl)))
    (dss_one (ds_for (ps_for PassesOwn.never rfl (di_lst (pi_list (de_callD d_l_places hr (by decide) (by rfl) (da_cons (pa_cons (de_var (pv 1)) (da_cons (pa_cons (de_var (pv 4)) da_nil)))) (aLen_cons (aLen_cons aLen_nil))))) (dg_nm (pg_name (i := 5) sc_law.nd rfl (Or.inl rfl)))
    (dss_cons (ds_asg (ps_asg (de_callD d_moment_of hr (by decide) (by rfl) (da_cons (pa_cons (de_var (pv 4)) (da_cons (pa_cons (de_var (pv 5)) da_nil)))) (aLen_cons (aLen_cons aLen_nil))) (dg_nm (pg_name (i := 6) sc_law.nd rfl (Or.inr rfl)))))
    (dss_one (ds_if (dt_w (dw_or (dt_not (dt_val (de_callD d_l_same hr (by decide) (by rfl) (da_cons (pa_cons (de_var (pv 6)) (da_cons (pa_cons (de_callD d_l_moment hr (by decide) (by rfl) (da_cons (pa_cons (de_var (pv 4)) (da_cons (pa_cons (de_var (pv 5)) da_nil)))) (aLen_cons (aLen_cons aLen_nil))) da_nil)))) (aLen_cons (aLen_cons aLen_nil))))) (dw_or1 (dt_not (dt_val (de_callD d_l_same hr (by decide) (by rfl) (da_cons (pa_cons (de_callD d_place_of hr (by decide) (by rfl) (da_cons (pa_cons (de_var (pv 4)) (da_cons (pa_cons (de_var (pv 6)) da_nil)))) (aLen_cons (aLen_cons aLen_nil))) (da_cons (pa_cons (de_var (pv 5)) da_nil)))) (aLen_cons (aLen_cons aLen_nil))))))))
    (dss_one (ds_ret de_bl))
    dss_nil))))))))
    (dss_cons (ds_asg (ps_asg (de_lst (pe_lst (da_cons (pa_cons (de_tup (pe_tup (da_cons (pa_cons de_int (da_cons (pa_cons de_int da_nil)))))) (da_cons (pa_cons (de_callD d_l_low hr (by decide) (by rfl) (da_cons (pa_cons (de_op op_addAll oAdd_ok de_int (de_callD d_l_draw hr (by decide) (by rfl) (da_cons (pa_cons (de_var (pv 1)) (da_cons (pa_cons de_int da_nil)))) (aLen_cons (aLen_cons aLen_nil)))) (da_cons (pa_cons (de_op op_addAll oAdd_ok de_int (de_callD d_l_draw hr (by decide) (by rfl) (da_cons (pa_cons (de_var (pv 1)) (da_cons (pa_cons de_int da_nil)))) (aLen_cons (aLen_cons aLen_nil)))) da_nil)))) (aLen_cons (aLen_cons aLen_nil))) (da_cons (pa_cons (de_callD d_l_low hr (by decide) (by rfl) (da_cons (pa_cons (de_callD d_l_draw hr (by decide) (by rfl) (da_cons (pa_cons (de_var (pv 1)) (da_cons (pa_cons (de_op op_pow oPow_ok de_int de_int) da_nil)))) (aLen_cons (aLen_cons aLen_nil))) (da_cons (pa_cons de_int da_nil)))) (aLen_cons (aLen_cons aLen_nil))) da_nil)))))))) (dg_nm (pg_name (i := 7) sc_law.nd rfl (Or.inl rfl)))))
    (dss_cons (ds_for (ps_for PassesOwn.never rfl (di_lst (pi_list (de_var (pv 7)))) (dg_nm (pg_name (i := 6) sc_law.nd rfl (Or.inr rfl)))
    (dss_cons (ds_setLc (own' := [("_law_here", 4)]) (ps_setLc (own := [("_law_here", 4)]) (i := 8) rfl sc_law.nd rfl rfl (sw_true rfl rfl rfl (by decide +kernel)) (di_tup (pi_tup (de_tup (pe_tup (da_cons (pa_cons (de_var (pv 2)) (da_cons (pa_cons (de_var (pv 3)) da_nil)))))))) (blkOk_by (N := ["_law_script", "_law_pen_here", "_law_tempo_here", "_law_other", "_law_here", "_law_place_here", "_law_moment_here", "_law_some", "_law_due"]) (sc := defScope s_law) (by decide +kernel)) (fun _ _ _ _ _ => (dg_nm (pg_name (i := 4) sc_law.nd rfl (Or.inl rfl)))) (fun _ _ _ _ _ => dts_nil) (fun _ _ _ _ _ => (de_callD d_l_place hr (by decide) (by rfl) (da_cons (pa_cons (de_var (pv 4)) (da_cons (pa_cons (de_var (pv 6)) da_nil)))) (aLen_cons (aLen_cons aLen_nil))))) (by decide))
    (dss_one (ds_if (dt_not (dt_val (de_callD d_l_same hr (by decide) (by rfl) (da_cons (pa_cons (de_lc (own' := [("_law_here", 4)]) (pe_lc (own := [("_law_here", 4)]) rfl sc_law.nd (di_tup (pi_tup (de_tup (pe_tup (da_cons (pa_cons (de_var (pv 2)) (da_cons (pa_cons (de_var (pv 3)) (da_cons (pa_cons (de_var (pv 2)) da_nil)))))))))) (blkOk_by (N := ["_law_script", "_law_pen_here", "_law_tempo_here", "_law_other", "_law_here", "_law_place_here", "_law_moment_here", "_law_some", "_law_due"]) (sc := defScope s_law) (by decide +kernel)) (fun _ _ _ _ _ => (dg_nm (pg_name (i := 4) sc_law.nd rfl (Or.inl rfl)))) (fun _ _ _ _ _ => dts_nil) (fun _ _ _ _ _ => (de_callD d_place_of hr (by decide) (by rfl) (da_cons (pa_cons (de_var (pv 4)) (da_cons (pa_cons (de_var (pv 6)) da_nil)))) (aLen_cons (aLen_cons aLen_nil))))) (by decide)) (da_cons (pa_cons (de_op op_addAll oAdd_ok (de_var (pv 8)) (de_sl (de_var (pv 8)) do_no (do_at de_int))) da_nil)))) (aLen_cons (aLen_cons aLen_nil)))))
    (dss_one (ds_ret de_bl))
    dss_nil)))))
    (dss_one (ds_ret (de_and (de_callD d_l_far_right hr (by decide) (by rfl) (da_cons (pa_cons (de_var (pv 1)) da_nil)) (aLen_cons aLen_nil)) (de_one (de_callD d_l_fine_right hr (by decide) (by rfl) (da_cons (pa_cons (de_var (pv 1)) da_nil)) (aLen_cons aLen_nil))))))))))))
end
end Lk10
set_option Elab.async false
set_option linter.all false
set_option maxRecDepth 100000
set_option maxHeartbeats 20000000
namespace Lk10
open PySem PySem.Spec PyProof.Rows L2 DL
theorem txt_mk {K : PySem.W.Frag} {h : Heap} {mg : Str → Option Value} (X : K.In h) (G : h.Ns mainGlobals mg)
    {f_is_whole : Addr} {od_is_whole an_is_whole : Option Addr} {sl_is_whole : Array (Option Value)} {oc_is_whole kV_is_whole dc_is_whole pm_is_whole cd_is_whole ct_is_whole : Value}
    (a_is_whole : PySem.W.nsIn K mainGlobals "is_whole" = some (some (.ref f_is_whole))) (l_is_whole : K.lookup f_is_whole = some ⟨oc_is_whole, od_is_whole, .func (PySem.W.fnOf "is_whole" "is_whole" (defArgs s_is_whole) (defBody s_is_whole) (defScope s_is_whole) .none kV_is_whole dc_is_whole pm_is_whole an_is_whole cd_is_whole ct_is_whole), sl_is_whole⟩) (c_is_whole : PySem.W.codeIn K cd_is_whole "is_whole" = true) (k_is_whole : PySem.W.keepIn K (.ref f_is_whole) = true)
    {f_is_tuple_of : Addr} {od_is_tuple_of an_is_tuple_of : Option Addr} {sl_is_tuple_of : Array (Option Value)} {oc_is_tuple_of kV_is_tuple_of dc_is_tuple_of pm_is_tuple_of cd_is_tuple_of ct_is_tuple_of : Value}
    (a_is_tuple_of : PySem.W.nsIn K mainGlobals "is_tuple_of" = some (some (.ref f_is_tuple_of))) (l_is_tuple_of : K.lookup f_is_tuple_of = some ⟨oc_is_tuple_of, od_is_tuple_of, .func (PySem.W.fnOf "is_tuple_of" "is_tuple_of" (defArgs s_is_tuple_of) (defBody s_is_tuple_of) (defScope s_is_tuple_of) .none kV_is_tuple_of dc_is_tuple_of pm_is_tuple_of an_is_tuple_of cd_is_tuple_of ct_is_tuple_of), sl_is_tuple_of⟩) (c_is_tuple_of : PySem.W.codeIn K cd_is_tuple_of "is_tuple_of" = true) (k_is_tuple_of : PySem.W.keepIn K (.ref f_is_tuple_of) = true)
    {f_is_less : Addr} {od_is_less an_is_less : Option Addr} {sl_is_less : Array (Option Value)} {oc_is_less kV_is_less dc_is_less pm_is_less cd_is_less ct_is_less : Value}
    (a_is_less : PySem.W.nsIn K mainGlobals "is_less" = some (some (.ref f_is_less))) (l_is_less : K.lookup f_is_less = some ⟨oc_is_less, od_is_less, .func (PySem.W.fnOf "is_less" "is_less" (defArgs s_is_less) (defBody s_is_less) (defScope s_is_less) .none kV_is_less dc_is_less pm_is_less an_is_less cd_is_less ct_is_less), sl_is_less⟩) (c_is_less : PySem.W.codeIn K cd_is_less "is_less" = true) (k_is_less : PySem.W.keepIn K (.ref f_is_less) = true)
    {f_floor_of : Addr} {od_floor_of an_floor_of : Option Addr} {sl_floor_of : Array (Option Value)} {oc_floor_of kV_floor_of dc_floor_of pm_floor_of cd_floor_of ct_floor_of : Value}
    (a_floor_of : PySem.W.nsIn K mainGlobals "floor_of" = some (some (.ref f_floor_of))) (l_floor_of : K.lookup f_floor_of = some ⟨oc_floor_of, od_floor_of, .func (PySem.W.fnOf "floor_of" "floor_of" (defArgs s_floor_of) (defBody s_floor_of) (defScope s_floor_of) .none kV_floor_of dc_floor_of pm_floor_of an_floor_of cd_floor_of ct_floor_of), sl_floor_of⟩) (c_floor_of : PySem.W.codeIn K cd_floor_of "floor_of" = true) (k_floor_of : PySem.W.keepIn K (.ref f_floor_of) = true)
    {f_in_lowest_terms : Addr} {od_in_lowest_terms an_in_lowest_terms : Option Addr} {sl_in_lowest_terms : Array (Option Value)} {oc_in_lowest_terms kV_in_lowest_terms dc_in_lowest_terms pm_in_lowest_terms cd_in_lowest_terms ct_in_lowest_terms : Value}
    (a_in_lowest_terms : PySem.W.nsIn K mainGlobals "_in_lowest_terms" = some (some (.ref f_in_lowest_terms))) (l_in_lowest_terms : K.lookup f_in_lowest_terms = some ⟨oc_in_lowest_terms, od_in_lowest_terms, .func (PySem.W.fnOf "_in_lowest_terms" "_in_lowest_terms" (defArgs s_in_lowest_terms) (defBody s_in_lowest_terms) (defScope s_in_lowest_terms) .none kV_in_lowest_terms dc_in_lowest_terms pm_in_lowest_terms an_in_lowest_terms cd_in_lowest_terms ct_in_lowest_terms), sl_in_lowest_terms⟩) (c_in_lowest_terms : PySem.W.codeIn K cd_in_lowest_terms "_in_lowest_terms" = true) (k_in_lowest_terms : PySem.W.keepIn K (.ref f_in_lowest_terms) = true)
    {f_l_pen : Addr} {od_l_pen an_l_pen : Option Addr} {sl_l_pen : Array (Option Value)} {oc_l_pen kV_l_pen dc_l_pen pm_l_pen cd_l_pen ct_l_pen : Value}
    (a_l_pen : PySem.W.nsIn K mainGlobals "_law_pen" = some (some (.ref f_l_pen))) (l_l_pen : K.lookup f_l_pen = some ⟨oc_l_pen, od_l_pen, .func (PySem.W.fnOf "_law_pen" "_law_pen" (defArgs s_l_pen) (defBody s_l_pen) (defScope s_l_pen) .none kV_l_pen dc_l_pen pm_l_pen an_l_pen cd_l_pen ct_l_pen), sl_l_pen⟩) (c_l_pen : PySem.W.codeIn K cd_l_pen "_law_pen" = true) (k_l_pen : PySem.W.keepIn K (.ref f_l_pen) = true)
    {f_l_draw : Addr} {od_l_draw an_l_draw : Option Addr} {sl_l_draw : Array (Option Value)} {oc_l_draw kV_l_draw dc_l_draw pm_l_draw cd_l_draw ct_l_draw : Value}
    (a_l_draw : PySem.W.nsIn K mainGlobals "_law_draw" = some (some (.ref f_l_draw))) (l_l_draw : K.lookup f_l_draw = some ⟨oc_l_draw, od_l_draw, .func (PySem.W.fnOf "_law_draw" "_law_draw" (defArgs s_l_draw) (defBody s_l_draw) (defScope s_l_draw) .none kV_l_draw dc_l_draw pm_l_draw an_l_draw cd_l_draw ct_l_draw), sl_l_draw⟩) (c_l_draw : PySem.W.codeIn K cd_l_draw "_law_draw" = true) (k_l_draw : PySem.W.keepIn K (.ref f_l_draw) = true)
    {f_l_low : Addr} {od_l_low an_l_low : Option Addr} {sl_l_low : Array (Option Value)} {oc_l_low kV_l_low dc_l_low pm_l_low cd_l_low ct_l_low : Value}
    (a_l_low : PySem.W.nsIn K mainGlobals "_law_low" = some (some (.ref f_l_low))) (l_l_low : K.lookup f_l_low = some ⟨oc_l_low, od_l_low, .func (PySem.W.fnOf "_law_low" "_law_low" (defArgs s_l_low) (defBody s_l_low) (defScope s_l_low) .none kV_l_low dc_l_low pm_l_low an_l_low cd_l_low ct_l_low), sl_l_low⟩) (c_l_low : PySem.W.codeIn K cd_l_low "_law_low" = true) (k_l_low : PySem.W.keepIn K (.ref f_l_low) = true)
    {f_l_less : Addr} {od_l_less an_l_less : Option Addr} {sl_l_less : Array (Option Value)} {oc_l_less kV_l_less dc_l_less pm_l_less cd_l_less ct_l_less : Value}
    (a_l_less : PySem.W.nsIn K mainGlobals "_law_less" = some (some (.ref f_l_less))) (l_l_less : K.lookup f_l_less = some ⟨oc_l_less, od_l_less, .func (PySem.W.fnOf "_law_less" "_law_less" (defArgs s_l_less) (defBody s_l_less) (defScope s_l_less) .none kV_l_less dc_l_less pm_l_less an_l_less cd_l_less ct_l_less), sl_l_less⟩) (c_l_less : PySem.W.codeIn K cd_l_less "_law_less" = true) (k_l_less : PySem.W.keepIn K (.ref f_l_less) = true)
    {f_l_same : Addr} {od_l_same an_l_same : Option Addr} {sl_l_same : Array (Option Value)} {oc_l_same kV_l_same dc_l_same pm_l_same cd_l_same ct_l_same : Value}
    (a_l_same : PySem.W.nsIn K mainGlobals "_law_same" = some (some (.ref f_l_same))) (l_l_same : K.lookup f_l_same = some ⟨oc_l_same, od_l_same, .func (PySem.W.fnOf "_law_same" "_law_same" (defArgs s_l_same) (defBody s_l_same) (defScope s_l_same) .none kV_l_same dc_l_same pm_l_same an_l_same cd_l_same ct_l_same), sl_l_same⟩) (c_l_same : PySem.W.codeIn K cd_l_same "_law_same" = true) (k_l_same : PySem.W.keepIn K (.ref f_l_same) = true)
    {f_l_edges : Addr} {od_l_edges an_l_edges : Option Addr} {sl_l_edges : Array (Option Value)} {oc_l_edges kV_l_edges dc_l_edges pm_l_edges cd_l_edges ct_l_edges : Value}
    (a_l_edges : PySem.W.nsIn K mainGlobals "_law_edges" = some (some (.ref f_l_edges))) (l_l_edges : K.lookup f_l_edges = some ⟨oc_l_edges, od_l_edges, .func (PySem.W.fnOf "_law_edges" "_law_edges" (defArgs s_l_edges) (defBody s_l_edges) (defScope s_l_edges) .none kV_l_edges dc_l_edges pm_l_edges an_l_edges cd_l_edges ct_l_edges), sl_l_edges⟩) (c_l_edges : PySem.W.codeIn K cd_l_edges "_law_edges" = true) (k_l_edges : PySem.W.keepIn K (.ref f_l_edges) = true)
    {f_is_whole_within : Addr} {od_is_whole_within an_is_whole_within : Option Addr} {sl_is_whole_within : Array (Option Value)} {oc_is_whole_within kV_is_whole_within dc_is_whole_within pm_is_whole_within cd_is_whole_within ct_is_whole_within : Value}
    (a_is_whole_within : PySem.W.nsIn K mainGlobals "is_whole_within" = some (some (.ref f_is_whole_within))) (l_is_whole_within : K.lookup f_is_whole_within = some ⟨oc_is_whole_within, od_is_whole_within, .func (PySem.W.fnOf "is_whole_within" "is_whole_within" (defArgs s_is_whole_within) (defBody s_is_whole_within) (defScope s_is_whole_within) .none kV_is_whole_within dc_is_whole_within pm_is_whole_within an_is_whole_within cd_is_whole_within ct_is_whole_within), sl_is_whole_within⟩) (c_is_whole_within : PySem.W.codeIn K cd_is_whole_within "is_whole_within" = true) (k_is_whole_within : PySem.W.keepIn K (.ref f_is_whole_within) = true)
    {f_is_fraction : Addr} {od_is_fraction an_is_fraction : Option Addr} {sl_is_fraction : Array (Option Value)} {oc_is_fraction kV_is_fraction dc_is_fraction pm_is_fraction cd_is_fraction ct_is_fraction : Value}
    (a_is_fraction : PySem.W.nsIn K mainGlobals "is_fraction" = some (some (.ref f_is_fraction))) (l_is_fraction : K.lookup f_is_fraction = some ⟨oc_is_fraction, od_is_fraction, .func (PySem.W.fnOf "is_fraction" "is_fraction" (defArgs s_is_fraction) (defBody s_is_fraction) (defScope s_is_fraction) .none kV_is_fraction dc_is_fraction pm_is_fraction an_is_fraction cd_is_fraction ct_is_fraction), sl_is_fraction⟩) (c_is_fraction : PySem.W.codeIn K cd_is_fraction "is_fraction" = true) (k_is_fraction : PySem.W.keepIn K (.ref f_is_fraction) = true)
    {f_plus : Addr} {od_plus an_plus : Option Addr} {sl_plus : Array (Option Value)} {oc_plus kV_plus dc_plus pm_plus cd_plus ct_plus : Value}
    (a_plus : PySem.W.nsIn K mainGlobals "plus" = some (some (.ref f_plus))) (l_plus : K.lookup f_plus = some ⟨oc_plus, od_plus, .func (PySem.W.fnOf "plus" "plus" (defArgs s_plus) (defBody s_plus) (defScope s_plus) .none kV_plus dc_plus pm_plus an_plus cd_plus ct_plus), sl_plus⟩) (c_plus : PySem.W.codeIn K cd_plus "plus" = true) (k_plus : PySem.W.keepIn K (.ref f_plus) = true)
    {f_minus : Addr} {od_minus an_minus : Option Addr} {sl_minus : Array (Option Value)} {oc_minus kV_minus dc_minus pm_minus cd_minus ct_minus : Value}
    (a_minus : PySem.W.nsIn K mainGlobals "minus" = some (some (.ref f_minus))) (l_minus : K.lookup f_minus = some ⟨oc_minus, od_minus, .func (PySem.W.fnOf "minus" "minus" (defArgs s_minus) (defBody s_minus) (defScope s_minus) .none kV_minus dc_minus pm_minus an_minus cd_minus ct_minus), sl_minus⟩) (c_minus : PySem.W.codeIn K cd_minus "minus" = true) (k_minus : PySem.W.keepIn K (.ref f_minus) = true)
    {f_times : Addr} {od_times an_times : Option Addr} {sl_times : Array (Option Value)} {oc_times kV_times dc_times pm_times cd_times ct_times : Value}
    (a_times : PySem.W.nsIn K mainGlobals "times" = some (some (.ref f_times))) (l_times : K.lookup f_times = some ⟨oc_times, od_times, .func (PySem.W.fnOf "times" "times" (defArgs s_times) (defBody s_times) (defScope s_times) .none kV_times dc_times pm_times an_times cd_times ct_times), sl_times⟩) (c_times : PySem.W.codeIn K cd_times "times" = true) (k_times : PySem.W.keepIn K (.ref f_times) = true)
    {f_over : Addr} {od_over an_over : Option Addr} {sl_over : Array (Option Value)} {oc_over kV_over dc_over pm_over cd_over ct_over : Value}
    (a_over : PySem.W.nsIn K mainGlobals "over" = some (some (.ref f_over))) (l_over : K.lookup f_over = some ⟨oc_over, od_over, .func (PySem.W.fnOf "over" "over" (defArgs s_over) (defBody s_over) (defScope s_over) .none kV_over dc_over pm_over an_over cd_over ct_over), sl_over⟩) (c_over : PySem.W.codeIn K cd_over "over" = true) (k_over : PySem.W.keepIn K (.ref f_over) = true)
    {f_l_add : Addr} {od_l_add an_l_add : Option Addr} {sl_l_add : Array (Option Value)} {oc_l_add kV_l_add dc_l_add pm_l_add cd_l_add ct_l_add : Value}
    (a_l_add : PySem.W.nsIn K mainGlobals "_law_add" = some (some (.ref f_l_add))) (l_l_add : K.lookup f_l_add = some ⟨oc_l_add, od_l_add, .func (PySem.W.fnOf "_law_add" "_law_add" (defArgs s_l_add) (defBody s_l_add) (defScope s_l_add) .none kV_l_add dc_l_add pm_l_add an_l_add cd_l_add ct_l_add), sl_l_add⟩) (c_l_add : PySem.W.codeIn K cd_l_add "_law_add" = true) (k_l_add : PySem.W.keepIn K (.ref f_l_add) = true)
    {f_l_sub : Addr} {od_l_sub an_l_sub : Option Addr} {sl_l_sub : Array (Option Value)} {oc_l_sub kV_l_sub dc_l_sub pm_l_sub cd_l_sub ct_l_sub : Value}
    (a_l_sub : PySem.W.nsIn K mainGlobals "_law_sub" = some (some (.ref f_l_sub))) (l_l_sub : K.lookup f_l_sub = some ⟨oc_l_sub, od_l_sub, .func (PySem.W.fnOf "_law_sub" "_law_sub" (defArgs s_l_sub) (defBody s_l_sub) (defScope s_l_sub) .none kV_l_sub dc_l_sub pm_l_sub an_l_sub cd_l_sub ct_l_sub), sl_l_sub⟩) (c_l_sub : PySem.W.codeIn K cd_l_sub "_law_sub" = true) (k_l_sub : PySem.W.keepIn K (.ref f_l_sub) = true)
    {f_l_mul : Addr} {od_l_mul an_l_mul : Option Addr} {sl_l_mul : Array (Option Value)} {oc_l_mul kV_l_mul dc_l_mul pm_l_mul cd_l_mul ct_l_mul : Value}
    (a_l_mul : PySem.W.nsIn K mainGlobals "_law_mul" = some (some (.ref f_l_mul))) (l_l_mul : K.lookup f_l_mul = some ⟨oc_l_mul, od_l_mul, .func (PySem.W.fnOf "_law_mul" "_law_mul" (defArgs s_l_mul) (defBody s_l_mul) (defScope s_l_mul) .none kV_l_mul dc_l_mul pm_l_mul an_l_mul cd_l_mul ct_l_mul), sl_l_mul⟩) (c_l_mul : PySem.W.codeIn K cd_l_mul "_law_mul" = true) (k_l_mul : PySem.W.keepIn K (.ref f_l_mul) = true)
    {f_l_div : Addr} {od_l_div an_l_div : Option Addr} {sl_l_div : Array (Option Value)} {oc_l_div kV_l_div dc_l_div pm_l_div cd_l_div ct_l_div : Value}
    (a_l_div : PySem.W.nsIn K mainGlobals "_law_div" = some (some (.ref f_l_div))) (l_l_div : K.lookup f_l_div = some ⟨oc_l_div, od_l_div, .func (PySem.W.fnOf "_law_div" "_law_div" (defArgs s_l_div) (defBody s_l_div) (defScope s_l_div) .none kV_l_div dc_l_div pm_l_div an_l_div cd_l_div ct_l_div), sl_l_div⟩) (c_l_div : PySem.W.codeIn K cd_l_div "_law_div" = true) (k_l_div : PySem.W.keepIn K (.ref f_l_div) = true)
    {f_l_above : Addr} {od_l_above an_l_above : Option Addr} {sl_l_above : Array (Option Value)} {oc_l_above kV_l_above dc_l_above pm_l_above cd_l_above ct_l_above : Value}
    (a_l_above : PySem.W.nsIn K mainGlobals "_law_above" = some (some (.ref f_l_above))) (l_l_above : K.lookup f_l_above = some ⟨oc_l_above, od_l_above, .func (PySem.W.fnOf "_law_above" "_law_above" (defArgs s_l_above) (defBody s_l_above) (defScope s_l_above) .none kV_l_above dc_l_above pm_l_above an_l_above cd_l_above ct_l_above), sl_l_above⟩) (c_l_above : PySem.W.codeIn K cd_l_above "_law_above" = true) (k_l_above : PySem.W.keepIn K (.ref f_l_above) = true)
    {f_is_from_nought : Addr} {od_is_from_nought an_is_from_nought : Option Addr} {sl_is_from_nought : Array (Option Value)} {oc_is_from_nought kV_is_from_nought dc_is_from_nought pm_is_from_nought cd_is_from_nought ct_is_from_nought : Value}
    (a_is_from_nought : PySem.W.nsIn K mainGlobals "is_from_nought" = some (some (.ref f_is_from_nought))) (l_is_from_nought : K.lookup f_is_from_nought = some ⟨oc_is_from_nought, od_is_from_nought, .func (PySem.W.fnOf "is_from_nought" "is_from_nought" (defArgs s_is_from_nought) (defBody s_is_from_nought) (defScope s_is_from_nought) .none kV_is_from_nought dc_is_from_nought pm_is_from_nought an_is_from_nought cd_is_from_nought ct_is_from_nought), sl_is_from_nought⟩) (c_is_from_nought : PySem.W.codeIn K cd_is_from_nought "is_from_nought" = true) (k_is_from_nought : PySem.W.keepIn K (.ref f_is_from_nought) = true)
    {f_is_above_nought : Addr} {od_is_above_nought an_is_above_nought : Option Addr} {sl_is_above_nought : Array (Option Value)} {oc_is_above_nought kV_is_above_nought dc_is_above_nought pm_is_above_nought cd_is_above_nought ct_is_above_nought : Value}
    (a_is_above_nought : PySem.W.nsIn K mainGlobals "is_above_nought" = some (some (.ref f_is_above_nought))) (l_is_above_nought : K.lookup f_is_above_nought = some ⟨oc_is_above_nought, od_is_above_nought, .func (PySem.W.fnOf "is_above_nought" "is_above_nought" (defArgs s_is_above_nought) (defBody s_is_above_nought) (defScope s_is_above_nought) .none kV_is_above_nought dc_is_above_nought pm_is_above_nought an_is_above_nought cd_is_above_nought ct_is_above_nought), sl_is_above_nought⟩) (c_is_above_nought : PySem.W.codeIn K cd_is_above_nought "is_above_nought" = true) (k_is_above_nought : PySem.W.keepIn K (.ref f_is_above_nought) = true)
    {f_rise_of : Addr} {od_rise_of an_rise_of : Option Addr} {sl_rise_of : Array (Option Value)} {oc_rise_of kV_rise_of dc_rise_of pm_rise_of cd_rise_of ct_rise_of : Value}
    (a_rise_of : PySem.W.nsIn K mainGlobals "_rise_of" = some (some (.ref f_rise_of))) (l_rise_of : K.lookup f_rise_of = some ⟨oc_rise_of, od_rise_of, .func (PySem.W.fnOf "_rise_of" "_rise_of" (defArgs s_rise_of) (defBody s_rise_of) (defScope s_rise_of) .none kV_rise_of dc_rise_of pm_rise_of an_rise_of cd_rise_of ct_rise_of), sl_rise_of⟩) (c_rise_of : PySem.W.codeIn K cd_rise_of "_rise_of" = true) (k_rise_of : PySem.W.keepIn K (.ref f_rise_of) = true)
    {f_step_at : Addr} {od_step_at an_step_at : Option Addr} {sl_step_at : Array (Option Value)} {oc_step_at kV_step_at dc_step_at pm_step_at cd_step_at ct_step_at : Value}
    (a_step_at : PySem.W.nsIn K mainGlobals "_step_at" = some (some (.ref f_step_at))) (l_step_at : K.lookup f_step_at = some ⟨oc_step_at, od_step_at, .func (PySem.W.fnOf "_step_at" "_step_at" (defArgs s_step_at) (defBody s_step_at) (defScope s_step_at) .none kV_step_at dc_step_at pm_step_at an_step_at cd_step_at ct_step_at), sl_step_at⟩) (c_step_at : PySem.W.codeIn K cd_step_at "_step_at" = true) (k_step_at : PySem.W.keepIn K (.ref f_step_at) = true)
    {f_l_goes_on : Addr} {od_l_goes_on an_l_goes_on : Option Addr} {sl_l_goes_on : Array (Option Value)} {oc_l_goes_on kV_l_goes_on dc_l_goes_on pm_l_goes_on cd_l_goes_on ct_l_goes_on : Value}
    (a_l_goes_on : PySem.W.nsIn K mainGlobals "_law_goes_on" = some (some (.ref f_l_goes_on))) (l_l_goes_on : K.lookup f_l_goes_on = some ⟨oc_l_goes_on, od_l_goes_on, .func (PySem.W.fnOf "_law_goes_on" "_law_goes_on" (defArgs s_l_goes_on) (defBody s_l_goes_on) (defScope s_l_goes_on) .none kV_l_goes_on dc_l_goes_on pm_l_goes_on an_l_goes_on cd_l_goes_on ct_l_goes_on), sl_l_goes_on⟩) (c_l_goes_on : PySem.W.codeIn K cd_l_goes_on "_law_goes_on" = true) (k_l_goes_on : PySem.W.keepIn K (.ref f_l_goes_on) = true)
    {f_l_line : Addr} {od_l_line an_l_line : Option Addr} {sl_l_line : Array (Option Value)} {oc_l_line kV_l_line dc_l_line pm_l_line cd_l_line ct_l_line : Value}
    (a_l_line : PySem.W.nsIn K mainGlobals "_law_line" = some (some (.ref f_l_line))) (l_l_line : K.lookup f_l_line = some ⟨oc_l_line, od_l_line, .func (PySem.W.fnOf "_law_line" "_law_line" (defArgs s_l_line) (defBody s_l_line) (defScope s_l_line) .none kV_l_line dc_l_line pm_l_line an_l_line cd_l_line ct_l_line), sl_l_line⟩) (c_l_line : PySem.W.codeIn K cd_l_line "_law_line" = true) (k_l_line : PySem.W.keepIn K (.ref f_l_line) = true)
    {f_l_places : Addr} {od_l_places an_l_places : Option Addr} {sl_l_places : Array (Option Value)} {oc_l_places kV_l_places dc_l_places pm_l_places cd_l_places ct_l_places : Value}
    (a_l_places : PySem.W.nsIn K mainGlobals "_law_places" = some (some (.ref f_l_places))) (l_l_places : K.lookup f_l_places = some ⟨oc_l_places, od_l_places, .func (PySem.W.fnOf "_law_places" "_law_places" (defArgs s_l_places) (defBody s_l_places) (defScope s_l_places) .none kV_l_places dc_l_places pm_l_places an_l_places cd_l_places ct_l_places), sl_l_places⟩) (c_l_places : PySem.W.codeIn K cd_l_places "_law_places" = true) (k_l_places : PySem.W.keepIn K (.ref f_l_places) = true)
    {f_l_far : Addr} {od_l_far an_l_far : Option Addr} {sl_l_far : Array (Option Value)} {oc_l_far kV_l_far dc_l_far pm_l_far cd_l_far ct_l_far : Value}
    (a_l_far : PySem.W.nsIn K mainGlobals "_law_far" = some (some (.ref f_l_far))) (l_l_far : K.lookup f_l_far = some ⟨oc_l_far, od_l_far, .func (PySem.W.fnOf "_law_far" "_law_far" (defArgs s_l_far) (defBody s_l_far) (defScope s_l_far) .none kV_l_far dc_l_far pm_l_far an_l_far cd_l_far ct_l_far), sl_l_far⟩) (c_l_far : PySem.W.codeIn K cd_l_far "_law_far" = true) (k_l_far : PySem.W.keepIn K (.ref f_l_far) = true)
    {f_l_wide : Addr} {od_l_wide an_l_wide : Option Addr} {sl_l_wide : Array (Option Value)} {oc_l_wide kV_l_wide dc_l_wide pm_l_wide cd_l_wide ct_l_wide : Value}
    (a_l_wide : PySem.W.nsIn K mainGlobals "_law_wide" = some (some (.ref f_l_wide))) (l_l_wide : K.lookup f_l_wide = some ⟨oc_l_wide, od_l_wide, .func (PySem.W.fnOf "_law_wide" "_law_wide" (defArgs s_l_wide) (defBody s_l_wide) (defScope s_l_wide) .none kV_l_wide dc_l_wide pm_l_wide an_l_wide cd_l_wide ct_l_wide), sl_l_wide⟩) (c_l_wide : PySem.W.codeIn K cd_l_wide "_law_wide" = true) (k_l_wide : PySem.W.keepIn K (.ref f_l_wide) = true)
    {f_is_stretch : Addr} {od_is_stretch an_is_stretch : Option Addr} {sl_is_stretch : Array (Option Value)} {oc_is_stretch kV_is_stretch dc_is_stretch pm_is_stretch cd_is_stretch ct_is_stretch : Value}
    (a_is_stretch : PySem.W.nsIn K mainGlobals "is_stretch" = some (some (.ref f_is_stretch))) (l_is_stretch : K.lookup f_is_stretch = some ⟨oc_is_stretch, od_is_stretch, .func (PySem.W.fnOf "is_stretch" "is_stretch" (defArgs s_is_stretch) (defBody s_is_stretch) (defScope s_is_stretch) .none kV_is_stretch dc_is_stretch pm_is_stretch an_is_stretch cd_is_stretch ct_is_stretch), sl_is_stretch⟩) (c_is_stretch : PySem.W.codeIn K cd_is_stretch "is_stretch" = true) (k_is_stretch : PySem.W.keepIn K (.ref f_is_stretch) = true)
    {f_goes_on : Addr} {od_goes_on an_goes_on : Option Addr} {sl_goes_on : Array (Option Value)} {oc_goes_on kV_goes_on dc_goes_on pm_goes_on cd_goes_on ct_goes_on : Value}
    (a_goes_on : PySem.W.nsIn K mainGlobals "_goes_on" = some (some (.ref f_goes_on))) (l_goes_on : K.lookup f_goes_on = some ⟨oc_goes_on, od_goes_on, .func (PySem.W.fnOf "_goes_on" "_goes_on" (defArgs s_goes_on) (defBody s_goes_on) (defScope s_goes_on) .none kV_goes_on dc_goes_on pm_goes_on an_goes_on cd_goes_on ct_goes_on), sl_goes_on⟩) (c_goes_on : PySem.W.codeIn K cd_goes_on "_goes_on" = true) (k_goes_on : PySem.W.keepIn K (.ref f_goes_on) = true)
    {f_length_within : Addr} {od_length_within an_length_within : Option Addr} {sl_length_within : Array (Option Value)} {oc_length_within kV_length_within dc_length_within pm_length_within cd_length_within ct_length_within : Value}
    (a_length_within : PySem.W.nsIn K mainGlobals "_length_within" = some (some (.ref f_length_within))) (l_length_within : K.lookup f_length_within = some ⟨oc_length_within, od_length_within, .func (PySem.W.fnOf "_length_within" "_length_within" (defArgs s_length_within) (defBody s_length_within) (defScope s_length_within) .none kV_length_within dc_length_within pm_length_within an_length_within cd_length_within ct_length_within), sl_length_within⟩) (c_length_within : PySem.W.codeIn K cd_length_within "_length_within" = true) (k_length_within : PySem.W.keepIn K (.ref f_length_within) = true)
    {f_length_of_steps : Addr} {od_length_of_steps an_length_of_steps : Option Addr} {sl_length_of_steps : Array (Option Value)} {oc_length_of_steps kV_length_of_steps dc_length_of_steps pm_length_of_steps cd_length_of_steps ct_length_of_steps : Value}
    (a_length_of_steps : PySem.W.nsIn K mainGlobals "_length_of_steps" = some (some (.ref f_length_of_steps))) (l_length_of_steps : K.lookup f_length_of_steps = some ⟨oc_length_of_steps, od_length_of_steps, .func (PySem.W.fnOf "_length_of_steps" "_length_of_steps" (defArgs s_length_of_steps) (defBody s_length_of_steps) (defScope s_length_of_steps) .none kV_length_of_steps dc_length_of_steps pm_length_of_steps an_length_of_steps cd_length_of_steps ct_length_of_steps), sl_length_of_steps⟩) (c_length_of_steps : PySem.W.codeIn K cd_length_of_steps "_length_of_steps" = true) (k_length_of_steps : PySem.W.keepIn K (.ref f_length_of_steps) = true)
    {f_l_tempo : Addr} {od_l_tempo an_l_tempo : Option Addr} {sl_l_tempo : Array (Option Value)} {oc_l_tempo kV_l_tempo dc_l_tempo pm_l_tempo cd_l_tempo ct_l_tempo : Value}
    (a_l_tempo : PySem.W.nsIn K mainGlobals "_law_tempo" = some (some (.ref f_l_tempo))) (l_l_tempo : K.lookup f_l_tempo = some ⟨oc_l_tempo, od_l_tempo, .func (PySem.W.fnOf "_law_tempo" "_law_tempo" (defArgs s_l_tempo) (defBody s_l_tempo) (defScope s_l_tempo) .none kV_l_tempo dc_l_tempo pm_l_tempo an_l_tempo cd_l_tempo ct_l_tempo), sl_l_tempo⟩) (c_l_tempo : PySem.W.codeIn K cd_l_tempo "_law_tempo" = true) (k_l_tempo : PySem.W.keepIn K (.ref f_l_tempo) = true)
    {f_l_moment : Addr} {od_l_moment an_l_moment : Option Addr} {sl_l_moment : Array (Option Value)} {oc_l_moment kV_l_moment dc_l_moment pm_l_moment cd_l_moment ct_l_moment : Value}
    (a_l_moment : PySem.W.nsIn K mainGlobals "_law_moment" = some (some (.ref f_l_moment))) (l_l_moment : K.lookup f_l_moment = some ⟨oc_l_moment, od_l_moment, .func (PySem.W.fnOf "_law_moment" "_law_moment" (defArgs s_l_moment) (defBody s_l_moment) (defScope s_l_moment) .none kV_l_moment dc_l_moment pm_l_moment an_l_moment cd_l_moment ct_l_moment), sl_l_moment⟩) (c_l_moment : PySem.W.codeIn K cd_l_moment "_law_moment" = true) (k_l_moment : PySem.W.keepIn K (.ref f_l_moment) = true)
    {f_is_plain : Addr} {od_is_plain an_is_plain : Option Addr} {sl_is_plain : Array (Option Value)} {oc_is_plain kV_is_plain dc_is_plain pm_is_plain cd_is_plain ct_is_plain : Value}
    (a_is_plain : PySem.W.nsIn K mainGlobals "_is_plain" = some (some (.ref f_is_plain))) (l_is_plain : K.lookup f_is_plain = some ⟨oc_is_plain, od_is_plain, .func (PySem.W.fnOf "_is_plain" "_is_plain" (defArgs s_is_plain) (defBody s_is_plain) (defScope s_is_plain) .none kV_is_plain dc_is_plain pm_is_plain an_is_plain cd_is_plain ct_is_plain), sl_is_plain⟩) (c_is_plain : PySem.W.codeIn K cd_is_plain "_is_plain" = true) (k_is_plain : PySem.W.keepIn K (.ref f_is_plain) = true)
    {f_moment_within : Addr} {od_moment_within an_moment_within : Option Addr} {sl_moment_within : Array (Option Value)} {oc_moment_within kV_moment_within dc_moment_within pm_moment_within cd_moment_within ct_moment_within : Value}
    (a_moment_within : PySem.W.nsIn K mainGlobals "_moment_within" = some (some (.ref f_moment_within))) (l_moment_within : K.lookup f_moment_within = some ⟨oc_moment_within, od_moment_within, .func (PySem.W.fnOf "_moment_within" "_moment_within" (defArgs s_moment_within) (defBody s_moment_within) (defScope s_moment_within) .none kV_moment_within dc_moment_within pm_moment_within an_moment_within cd_moment_within ct_moment_within), sl_moment_within⟩) (c_moment_within : PySem.W.codeIn K cd_moment_within "_moment_within" = true) (k_moment_within : PySem.W.keepIn K (.ref f_moment_within) = true)
    {f_place_within : Addr} {od_place_within an_place_within : Option Addr} {sl_place_within : Array (Option Value)} {oc_place_within kV_place_within dc_place_within pm_place_within cd_place_within ct_place_within : Value}
    (a_place_within : PySem.W.nsIn K mainGlobals "_place_within" = some (some (.ref f_place_within))) (l_place_within : K.lookup f_place_within = some ⟨oc_place_within, od_place_within, .func (PySem.W.fnOf "_place_within" "_place_within" (defArgs s_place_within) (defBody s_place_within) (defScope s_place_within) .none kV_place_within dc_place_within pm_place_within an_place_within cd_place_within ct_place_within), sl_place_within⟩) (c_place_within : PySem.W.codeIn K cd_place_within "_place_within" = true) (k_place_within : PySem.W.keepIn K (.ref f_place_within) = true)
    {f_l_place : Addr} {od_l_place an_l_place : Option Addr} {sl_l_place : Array (Option Value)} {oc_l_place kV_l_place dc_l_place pm_l_place cd_l_place ct_l_place : Value}
    (a_l_place : PySem.W.nsIn K mainGlobals "_law_place" = some (some (.ref f_l_place))) (l_l_place : K.lookup f_l_place = some ⟨oc_l_place, od_l_place, .func (PySem.W.fnOf "_law_place" "_law_place" (defArgs s_l_place) (defBody s_l_place) (defScope s_l_place) .none kV_l_place dc_l_place pm_l_place an_l_place cd_l_place ct_l_place), sl_l_place⟩) (c_l_place : PySem.W.codeIn K cd_l_place "_law_place" = true) (k_l_place : PySem.W.keepIn K (.ref f_l_place) = true)
    {f_l_near : Addr} {od_l_near an_l_near : Option Addr} {sl_l_near : Array (Option Value)} {oc_l_near kV_l_near dc_l_near pm_l_near cd_l_near ct_l_near : Value}
    (a_l_near : PySem.W.nsIn K mainGlobals "_law_near" = some (some (.ref f_l_near))) (l_l_near : K.lookup f_l_near = some ⟨oc_l_near, od_l_near, .func (PySem.W.fnOf "_law_near" "_law_near" (defArgs s_l_near) (defBody s_l_near) (defScope s_l_near) .none kV_l_near dc_l_near pm_l_near an_l_near cd_l_near ct_l_near), sl_l_near⟩) (c_l_near : PySem.W.codeIn K cd_l_near "_law_near" = true) (k_l_near : PySem.W.keepIn K (.ref f_l_near) = true)
    {f_is_tempo : Addr} {od_is_tempo an_is_tempo : Option Addr} {sl_is_tempo : Array (Option Value)} {oc_is_tempo kV_is_tempo dc_is_tempo pm_is_tempo cd_is_tempo ct_is_tempo : Value}
    (a_is_tempo : PySem.W.nsIn K mainGlobals "is_tempo" = some (some (.ref f_is_tempo))) (l_is_tempo : K.lookup f_is_tempo = some ⟨oc_is_tempo, od_is_tempo, .func (PySem.W.fnOf "is_tempo" "is_tempo" (defArgs s_is_tempo) (defBody s_is_tempo) (defScope s_is_tempo) .none kV_is_tempo dc_is_tempo pm_is_tempo an_is_tempo cd_is_tempo ct_is_tempo), sl_is_tempo⟩) (c_is_tempo : PySem.W.codeIn K cd_is_tempo "is_tempo" = true) (k_is_tempo : PySem.W.keepIn K (.ref f_is_tempo) = true)
    {f_refuse_no_tempo : Addr} {od_refuse_no_tempo an_refuse_no_tempo : Option Addr} {sl_refuse_no_tempo : Array (Option Value)} {oc_refuse_no_tempo kV_refuse_no_tempo dc_refuse_no_tempo pm_refuse_no_tempo cd_refuse_no_tempo ct_refuse_no_tempo : Value}
    (a_refuse_no_tempo : PySem.W.nsIn K mainGlobals "_refuse_no_tempo" = some (some (.ref f_refuse_no_tempo))) (l_refuse_no_tempo : K.lookup f_refuse_no_tempo = some ⟨oc_refuse_no_tempo, od_refuse_no_tempo, .func (PySem.W.fnOf "_refuse_no_tempo" "_refuse_no_tempo" (defArgs s_refuse_no_tempo) (defBody s_refuse_no_tempo) (defScope s_refuse_no_tempo) .none kV_refuse_no_tempo dc_refuse_no_tempo pm_refuse_no_tempo an_refuse_no_tempo cd_refuse_no_tempo ct_refuse_no_tempo), sl_refuse_no_tempo⟩) (c_refuse_no_tempo : PySem.W.codeIn K cd_refuse_no_tempo "_refuse_no_tempo" = true) (k_refuse_no_tempo : PySem.W.keepIn K (.ref f_refuse_no_tempo) = true)
    {f_moment_of : Addr} {od_moment_of an_moment_of : Option Addr} {sl_moment_of : Array (Option Value)} {oc_moment_of kV_moment_of dc_moment_of pm_moment_of cd_moment_of ct_moment_of : Value}
    (a_moment_of : PySem.W.nsIn K mainGlobals "moment_of" = some (some (.ref f_moment_of))) (l_moment_of : K.lookup f_moment_of = some ⟨oc_moment_of, od_moment_of, .func (PySem.W.fnOf "moment_of" "moment_of" (defArgs s_moment_of) (defBody s_moment_of) (defScope s_moment_of) .none kV_moment_of dc_moment_of pm_moment_of an_moment_of cd_moment_of ct_moment_of), sl_moment_of⟩) (c_moment_of : PySem.W.codeIn K cd_moment_of "moment_of" = true) (k_moment_of : PySem.W.keepIn K (.ref f_moment_of) = true)
    {f_place_of : Addr} {od_place_of an_place_of : Option Addr} {sl_place_of : Array (Option Value)} {oc_place_of kV_place_of dc_place_of pm_place_of cd_place_of ct_place_of : Value}
    (a_place_of : PySem.W.nsIn K mainGlobals "place_of" = some (some (.ref f_place_of))) (l_place_of : K.lookup f_place_of = some ⟨oc_place_of, od_place_of, .func (PySem.W.fnOf "place_of" "place_of" (defArgs s_place_of) (defBody s_place_of) (defScope s_place_of) .none kV_place_of dc_place_of pm_place_of an_place_of cd_place_of ct_place_of), sl_place_of⟩) (c_place_of : PySem.W.codeIn K cd_place_of "place_of" = true) (k_place_of : PySem.W.keepIn K (.ref f_place_of) = true)
    {f_l_far_right : Addr} {od_l_far_right an_l_far_right : Option Addr} {sl_l_far_right : Array (Option Value)} {oc_l_far_right kV_l_far_right dc_l_far_right pm_l_far_right cd_l_far_right ct_l_far_right : Value}
    (a_l_far_right : PySem.W.nsIn K mainGlobals "_law_far_right" = some (some (.ref f_l_far_right))) (l_l_far_right : K.lookup f_l_far_right = some ⟨oc_l_far_right, od_l_far_right, .func (PySem.W.fnOf "_law_far_right" "_law_far_right" (defArgs s_l_far_right) (defBody s_l_far_right) (defScope s_l_far_right) .none kV_l_far_right dc_l_far_right pm_l_far_right an_l_far_right cd_l_far_right ct_l_far_right), sl_l_far_right⟩) (c_l_far_right : PySem.W.codeIn K cd_l_far_right "_law_far_right" = true) (k_l_far_right : PySem.W.keepIn K (.ref f_l_far_right) = true)
    {f_l_fine_right : Addr} {od_l_fine_right an_l_fine_right : Option Addr} {sl_l_fine_right : Array (Option Value)} {oc_l_fine_right kV_l_fine_right dc_l_fine_right pm_l_fine_right cd_l_fine_right ct_l_fine_right : Value}
    (a_l_fine_right : PySem.W.nsIn K mainGlobals "_law_fine_right" = some (some (.ref f_l_fine_right))) (l_l_fine_right : K.lookup f_l_fine_right = some ⟨oc_l_fine_right, od_l_fine_right, .func (PySem.W.fnOf "_law_fine_right" "_law_fine_right" (defArgs s_l_fine_right) (defBody s_l_fine_right) (defScope s_l_fine_right) .none kV_l_fine_right dc_l_fine_right pm_l_fine_right an_l_fine_right cd_l_fine_right ct_l_fine_right), sl_l_fine_right⟩) (c_l_fine_right : PySem.W.codeIn K cd_l_fine_right "_law_fine_right" = true) (k_l_fine_right : PySem.W.keepIn K (.ref f_l_fine_right) = true)
    {f_law : Addr} {od_law an_law : Option Addr} {sl_law : Array (Option Value)} {oc_law kV_law dc_law pm_law cd_law ct_law : Value}
    (a_law : PySem.W.nsIn K mainGlobals "law" = some (some (.ref f_law))) (l_law : K.lookup f_law = some ⟨oc_law, od_law, .func (PySem.W.fnOf "law" "law" (defArgs s_law) (defBody s_law) (defScope s_law) .none kV_law dc_law pm_law an_law cd_law ct_law), sl_law⟩) (c_law : PySem.W.codeIn K cd_law "law" = true) (k_law : PySem.W.keepIn K (.ref f_law) = true)
    (z_abs : PySem.W.nsIn K mainGlobals "abs" = some none)
    (z_all : PySem.W.nsIn K mainGlobals "all" = some none)
    (z_bool : PySem.W.nsIn K mainGlobals "bool" = some none)
    (z_int : PySem.W.nsIn K mainGlobals "int" = some none)
    (z_isinstance : PySem.W.nsIn K mainGlobals "isinstance" = some none)
    (z_len : PySem.W.nsIn K mainGlobals "len" = some none)
    (z_list : PySem.W.nsIn K mainGlobals "list" = some none)
    (z_min : PySem.W.nsIn K mainGlobals "min" = some none)
    (z_range : PySem.W.nsIn K mainGlobals "range" = some none)
    (z_str : PySem.W.nsIn K mainGlobals "str" = some none)
    (z_sum : PySem.W.nsIn K mainGlobals "sum" = some none)
    (z_tuple : PySem.W.nsIn K mainGlobals "tuple" = some none)
    (z_zip : PySem.W.nsIn K mainGlobals "zip" = some none)
    (m_gcd : PySem.W.nsIn K mainGlobals "gcd" = some (some (.builtin "math.gcd")))
    {t_MOST_STEPS : Tok} (m_MOST_STEPS : PySem.W.nsIn K mainGlobals "MOST_STEPS" = some (some (.int 200000 t_MOST_STEPS)))
    {t_MOST_STRETCHES : Tok} (m_MOST_STRETCHES : PySem.W.nsIn K mainGlobals "MOST_STRETCHES" = some (some (.int 24 t_MOST_STRETCHES)))
    {p_NOUGHT : Addr} {od_NOUGHT : Option Addr} {n_NOUGHT : Nat} {sl_NOUGHT : Array (Option Value)} {t0_NOUGHT t1_NOUGHT : Tok} (m_NOUGHT : PySem.W.nsIn K mainGlobals "NOUGHT" = some (some (.ref p_NOUGHT))) (l_NOUGHT : K.lookup p_NOUGHT = some ⟨.type "tuple", od_NOUGHT, .seq #[.int 0 t0_NOUGHT, .int 1 t1_NOUGHT] n_NOUGHT, sl_NOUGHT⟩) : Txt K mg :=
  { z_abs := PySem.W.mg_none_of X G z_abs,
    z_all := PySem.W.mg_none_of X G z_all,
    z_bool := PySem.W.mg_none_of X G z_bool,
    z_int := PySem.W.mg_none_of X G z_int,
    z_isinstance := PySem.W.mg_none_of X G z_isinstance,
    z_len := PySem.W.mg_none_of X G z_len,
    z_list := PySem.W.mg_none_of X G z_list,
    z_min := PySem.W.mg_none_of X G z_min,
    z_range := PySem.W.mg_none_of X G z_range,
    z_str := PySem.W.mg_none_of X G z_str,
    z_sum := PySem.W.mg_none_of X G z_sum,
    z_tuple := PySem.W.mg_none_of X G z_tuple,
    z_zip := PySem.W.mg_none_of X G z_zip,
    g_MOST_STEPS := ⟨_, PySem.W.mg_of X G m_MOST_STEPS⟩,
    g_MOST_STRETCHES := ⟨_, PySem.W.mg_of X G m_MOST_STRETCHES⟩,
    g_NOUGHT := gtup_mk (vs := [.int (0), .int (1)]) (PySem.W.mg_of X G m_NOUGHT) l_NOUGHT (by simp [sizeLine_eq]) (by first | exact .cons ⟨_, rfl⟩ (.cons ⟨_, rfl⟩ (.nil))) (by first | exact fun _ _ => .cons (.int _) (.cons (.int _) (.nil))),
    m_gcd := PySem.W.mg_of X G m_gcd,
    a_is_whole := fnat_mk X G a_is_whole l_is_whole c_is_whole k_is_whole (fun _ _ _ _ _ _ us hl => match us, hl with | [_], _ => rfl),
    a_is_tuple_of := fnat_mk X G a_is_tuple_of l_is_tuple_of c_is_tuple_of k_is_tuple_of (fun _ _ _ _ _ _ us hl => match us, hl with | [_, _], _ => rfl),
    a_is_less := fnat_mk X G a_is_less l_is_less c_is_less k_is_less (fun _ _ _ _ _ _ us hl => match us, hl with | [_, _], _ => rfl),
    a_floor_of := fnat_mk X G a_floor_of l_floor_of c_floor_of k_floor_of (fun _ _ _ _ _ _ us hl => match us, hl with | [_], _ => rfl),
    a_in_lowest_terms := fnat_mk X G a_in_lowest_terms l_in_lowest_terms c_in_lowest_terms k_in_lowest_terms (fun _ _ _ _ _ _ us hl => match us, hl with | [_, _], _ => rfl),
    a_l_pen := fnat_mk X G a_l_pen l_l_pen c_l_pen k_l_pen (fun _ _ _ _ _ _ us hl => match us, hl with | [_], _ => rfl),
    a_l_draw := fnat_mk X G a_l_draw l_l_draw c_l_draw k_l_draw (fun _ _ _ _ _ _ us hl => match us, hl with | [_, _], _ => rfl),
    a_l_low := fnat_mk X G a_l_low l_l_low c_l_low k_l_low (fun _ _ _ _ _ _ us hl => match us, hl with | [_, _], _ => rfl),
    a_l_less := fnat_mk X G a_l_less l_l_less c_l_less k_l_less (fun _ _ _ _ _ _ us hl => match us, hl with | [_, _], _ => rfl),
    a_l_same := fnat_mk X G a_l_same l_l_same c_l_same k_l_same (fun _ _ _ _ _ _ us hl => match us, hl with | [_, _], _ => rfl),
    a_l_edges := fnat_mk X G a_l_edges l_l_edges c_l_edges k_l_edges (fun _ _ _ _ _ _ us hl => match us, hl with | [_], _ => rfl),
    a_is_whole_within := fnat_mk X G a_is_whole_within l_is_whole_within c_is_whole_within k_is_whole_within (fun _ _ _ _ _ _ us hl => match us, hl with | [_, _, _], _ => rfl),
    a_is_fraction := fnat_mk X G a_is_fraction l_is_fraction c_is_fraction k_is_fraction (fun _ _ _ _ _ _ us hl => match us, hl with | [_], _ => rfl),
    a_plus := fnat_mk X G a_plus l_plus c_plus k_plus (fun _ _ _ _ _ _ us hl => match us, hl with | [_, _], _ => rfl),
    a_minus := fnat_mk X G a_minus l_minus c_minus k_minus (fun _ _ _ _ _ _ us hl => match us, hl with | [_, _], _ => rfl),
    a_times := fnat_mk X G a_times l_times c_times k_times (fun _ _ _ _ _ _ us hl => match us, hl with | [_, _], _ => rfl),
    a_over := fnat_mk X G a_over l_over c_over k_over (fun _ _ _ _ _ _ us hl => match us, hl with | [_, _], _ => rfl),
    a_l_add := fnat_mk X G a_l_add l_l_add c_l_add k_l_add (fun _ _ _ _ _ _ us hl => match us, hl with | [_, _], _ => rfl),
    a_l_sub := fnat_mk X G a_l_sub l_l_sub c_l_sub k_l_sub (fun _ _ _ _ _ _ us hl => match us, hl with | [_, _], _ => rfl),
    a_l_mul := fnat_mk X G a_l_mul l_l_mul c_l_mul k_l_mul (fun _ _ _ _ _ _ us hl => match us, hl with | [_, _], _ => rfl),
    a_l_div := fnat_mk X G a_l_div l_l_div c_l_div k_l_div (fun _ _ _ _ _ _ us hl => match us, hl with | [_, _], _ => rfl),
    a_l_above := fnat_mk X G a_l_above l_l_above c_l_above k_l_above (fun _ _ _ _ _ _ us hl => match us, hl with | [_], _ => rfl),
    a_is_from_nought := fnat_mk X G a_is_from_nought l_is_from_nought c_is_from_nought k_is_from_nought (fun _ _ _ _ _ _ us hl => match us, hl with | [_], _ => rfl),
    a_is_above_nought := fnat_mk X G a_is_above_nought l_is_above_nought c_is_above_nought k_is_above_nought (fun _ _ _ _ _ _ us hl => match us, hl with | [_], _ => rfl),
    a_rise_of := fnat_mk X G a_rise_of l_rise_of c_rise_of k_rise_of (fun _ _ _ _ _ _ us hl => match us, hl with | [_], _ => rfl),
    a_step_at := fnat_mk X G a_step_at l_step_at c_step_at k_step_at (fun _ _ _ _ _ _ us hl => match us, hl with | [_, _], _ => rfl),
    a_l_goes_on := fnat_mk X G a_l_goes_on l_l_goes_on c_l_goes_on k_l_goes_on (fun _ _ _ _ _ _ us hl => match us, hl with | [_, _], _ => rfl),
    a_l_line := fnat_mk X G a_l_line l_l_line c_l_line k_l_line (fun _ _ _ _ _ _ us hl => match us, hl with | [_, _], _ => rfl),
    a_l_places := fnat_mk X G a_l_places l_l_places c_l_places k_l_places (fun _ _ _ _ _ _ us hl => match us, hl with | [_, _], _ => rfl),
    a_l_far := fnat_mk X G a_l_far l_l_far c_l_far k_l_far (fun _ _ _ _ _ _ us hl => match us, hl with | [_], _ => rfl),
    a_l_wide := fnat_mk X G a_l_wide l_l_wide c_l_wide k_l_wide (fun _ _ _ _ _ _ us hl => match us, hl with | [_], _ => rfl),
    a_is_stretch := fnat_mk X G a_is_stretch l_is_stretch c_is_stretch k_is_stretch (fun _ _ _ _ _ _ us hl => match us, hl with | [_], _ => rfl),
    a_goes_on := fnat_mk X G a_goes_on l_goes_on c_goes_on k_goes_on (fun _ _ _ _ _ _ us hl => match us, hl with | [_, _], _ => rfl),
    a_length_within := fnat_mk X G a_length_within l_length_within c_length_within k_length_within (fun _ _ _ _ _ _ us hl => match us, hl with | [_, _], _ => rfl),
    a_length_of_steps := fnat_mk X G a_length_of_steps l_length_of_steps c_length_of_steps k_length_of_steps (fun _ _ _ _ _ _ us hl => match us, hl with | [_, _], _ => rfl),
    a_l_tempo := fnat_mk X G a_l_tempo l_l_tempo c_l_tempo k_l_tempo (fun _ _ _ _ _ _ us hl => match us, hl with | [_, _], _ => rfl),
    a_l_moment := fnat_mk X G a_l_moment l_l_moment c_l_moment k_l_moment (fun _ _ _ _ _ _ us hl => match us, hl with | [_, _], _ => rfl),
    a_is_plain := fnat_mk X G a_is_plain l_is_plain c_is_plain k_is_plain (fun _ _ _ _ _ _ us hl => match us, hl with | [_, _], _ => rfl),
    a_moment_within := fnat_mk X G a_moment_within l_moment_within c_moment_within k_moment_within (fun _ _ _ _ _ _ us hl => match us, hl with | [_, _], _ => rfl),
    a_place_within := fnat_mk X G a_place_within l_place_within c_place_within k_place_within (fun _ _ _ _ _ _ us hl => match us, hl with | [_, _], _ => rfl),
    a_l_place := fnat_mk X G a_l_place l_l_place c_l_place k_l_place (fun _ _ _ _ _ _ us hl => match us, hl with | [_, _], _ => rfl),
    a_l_near := fnat_mk X G a_l_near l_l_near c_l_near k_l_near (fun _ _ _ _ _ _ us hl => match us, hl with | [_, _], _ => rfl),
    a_is_tempo := fnat_mk X G a_is_tempo l_is_tempo c_is_tempo k_is_tempo (fun _ _ _ _ _ _ us hl => match us, hl with | [_], _ => rfl),
    a_refuse_no_tempo := fnat_mk X G a_refuse_no_tempo l_refuse_no_tempo c_refuse_no_tempo k_refuse_no_tempo (fun _ _ _ _ _ _ us hl => match us, hl with | [_], _ => rfl),
    a_moment_of := fnat_mk X G a_moment_of l_moment_of c_moment_of k_moment_of (fun _ _ _ _ _ _ us hl => match us, hl with | [_, _], _ => rfl),
    a_place_of := fnat_mk X G a_place_of l_place_of c_place_of k_place_of (fun _ _ _ _ _ _ us hl => match us, hl with | [_, _], _ => rfl),
    a_l_far_right := fnat_mk X G a_l_far_right l_l_far_right c_l_far_right k_l_far_right (fun _ _ _ _ _ _ us hl => match us, hl with | [_], _ => rfl),
    a_l_fine_right := fnat_mk X G a_l_fine_right l_l_fine_right c_l_fine_right k_l_fine_right (fun _ _ _ _ _ _ us hl => match us, hl with | [_], _ => rfl),
    a_law := fnat_mk X G a_law l_law c_law k_law (fun _ _ _ _ _ _ us hl => match us, hl with | [_], _ => rfl) }
theorem law_fn {P : Program} {w : World} {K : PySem.W.Frag} {mg : Str → Option Value} {fa : Addr} (T : Txt K mg) (hfa : mg "law" = some (.ref fa)) :
    ∃ fd : FuncData, (∀ (s : Shared) (v : Value), BindsTo s fd ⟨[v], []⟩ [("_law_script", v)]) ∧ ∀ base : Heap, K.In base → base.Ns mainGlobals mg → FnOk P w K mg base CX0 15 fa fd ["_law_script"] (spLaw K) := by
  obtain ⟨a, fd, F, g, bi⟩ := T.a_law
  cases hfa.symm.trans g
  obtain ⟨oc, od, kV, doc, pm, an, cdv, ct, osl, rfl, lk, hcd⟩ := F.ex
  exact ⟨_, fun s v => .of_eq rfl, fun base _ _ => law_of (ok_law T F) law_true⟩
end Lk10
open PySem PySem.W PyProof.Rows
set_option maxHeartbeats 0 in
theorem PySem.Challenge.cw_beatlanes_k10_places_of_moments_holds : PySem.Challenge.rw_beatlanes_k10_places_of_moments.Holds := by
  w_on; o_law; k_head; (case hw => w_witness2)
  k_fill
  refine L2.walk_of (l := PySem.Challenge.rw_beatlanes_k10_places_of_moments) (n := 63) (k := 15) (x := "_law_script") (CX := fun _ => L2.CX0) (sp := fun w => DL.spLaw _) rfl (by decide) rfl ⟨rfl, by decide, by decide⟩ (fun w h Y => PySem.W.kIn_of Y) ?F (fun _ _ a ns hl ho hS => ⟨a, ns, rfl, hS, ho, hl, fun _ => rfl⟩) (fun _ _ _ _ _ h => h)
  case F =>
    intro w mg fa h KX G hmg
    refine' Lk10.law_fn (Lk10.txt_mk KX G ?a_is_whole ?l_is_whole ?c_is_whole ?k_is_whole ?a_is_tuple_of ?l_is_tuple_of ?c_is_tuple_of ?k_is_tuple_of ?a_is_less ?l_is_less ?c_is_less ?k_is_less ?a_floor_of ?l_floor_of ?c_floor_of ?k_floor_of ?a_in_lowest_terms ?l_in_lowest_terms ?c_in_lowest_terms ?k_in_lowest_terms ?a_l_pen ?l_l_pen ?c_l_pen ?k_l_pen ?a_l_draw ?l_l_draw ?c_l_draw ?k_l_draw ?a_l_low ?l_l_low ?c_l_low ?k_l_low ?a_l_less ?l_l_less ?c_l_less ?k_l_less ?a_l_same ?l_l_same ?c_l_same ?k_l_same ?a_l_edges ?l_l_edges ?c_l_edges ?k_l_edges ?a_is_whole_within ?l_is_whole_within ?c_is_whole_within ?k_is_whole_within ?a_is_fraction ?l_is_fraction ?c_is_fraction ?k_is_fraction ?a_plus ?l_plus ?c_plus ?k_plus ?a_minus ?l_minus ?c_minus ?k_minus ?a_times ?l_times ?c_times ?k_times ?a_over ?l_over ?c_over ?k_over ?a_l_add ?l_l_add ?c_l_add ?k_l_add ?a_l_sub ?l_l_sub ?c_l_sub ?k_l_sub ?a_l_mul ?l_l_mul ?c_l_mul ?k_l_mul ?a_l_div ?l_l_div ?c_l_div ?k_l_div ?a_l_above ?l_l_above ?c_l_above ?k_l_above ?a_is_from_nought ?l_is_from_nought ?c_is_from_nought ?k_is_from_nought ?a_is_above_nought ?l_is_above_nought ?c_is_above_nought ?k_is_above_nought ?a_rise_of ?l_rise_of ?c_rise_of ?k_rise_of ?a_step_at ?l_step_at ?c_step_at ?k_step_at ?a_l_goes_on ?l_l_goes_on ?c_l_goes_on ?k_l_goes_on ?a_l_line ?l_l_line ?c_l_line ?k_l_line ?a_l_places ?l_l_places ?c_l_places ?k_l_places ?a_l_far ?l_l_far ?c_l_far ?k_l_far ?a_l_wide ?l_l_wide ?c_l_wide ?k_l_wide ?a_is_stretch ?l_is_stretch ?c_is_stretch ?k_is_stretch ?a_goes_on ?l_goes_on ?c_goes_on ?k_goes_on ?a_length_within ?l_length_within ?c_length_within ?k_length_within ?a_length_of_steps ?l_length_of_steps ?c_length_of_steps ?k_length_of_steps ?a_l_tempo ?l_l_tempo ?c_l_tempo ?k_l_tempo ?a_l_moment ?l_l_moment ?c_l_moment ?k_l_moment ?a_is_plain ?l_is_plain ?c_is_plain ?k_is_plain ?a_moment_within ?l_moment_within ?c_moment_within ?k_moment_within ?a_place_within ?l_place_within ?c_place_within ?k_place_within ?a_l_place ?l_l_place ?c_l_place ?k_l_place ?a_l_near ?l_l_near ?c_l_near ?k_l_near ?a_is_tempo ?l_is_tempo ?c_is_tempo ?k_is_tempo ?a_refuse_no_tempo ?l_refuse_no_tempo ?c_refuse_no_tempo ?k_refuse_no_tempo ?a_moment_of ?l_moment_of ?c_moment_of ?k_moment_of ?a_place_of ?l_place_of ?c_place_of ?k_place_of ?a_l_far_right ?l_l_far_right ?c_l_far_right ?k_l_far_right ?a_l_fine_right ?l_l_fine_right ?c_l_fine_right ?k_l_fine_right ?a_law ?l_law ?c_law ?k_law ?z_abs ?z_all ?z_bool ?z_int ?z_isinstance ?z_len ?z_list ?z_min ?z_range ?z_str ?z_sum ?z_tuple ?z_zip ?m_gcd ?m_MOST_STEPS ?m_MOST_STRETCHES ?m_NOUGHT ?l_NOUGHT) hmg
    (case a_is_whole => k_is)
    (case l_is_whole => k_is)
    (case c_is_whole => k_is)
    (case k_is_whole => k_is)
    (case a_is_tuple_of => k_is)
    (case l_is_tuple_of => k_is)
    (case c_is_tuple_of => k_is)
    (case k_is_tuple_of => k_is)
    (case a_is_less => k_is)
    (case l_is_less => k_is)
    (case c_is_less => k_is)
    (case k_is_less => k_is)
    (case a_floor_of => k_is)
    (case l_floor_of => k_is)
    (case c_floor_of => k_is)
    (case k_floor_of => k_is)
    (case a_in_lowest_terms => k_is)
    (case l_in_lowest_terms => k_is)
    (case c_in_lowest_terms => k_is)
    (case k_in_lowest_terms => k_is)
    (case a_l_pen => k_is)
    (case l_l_pen => k_is)
    (case c_l_pen => k_is)
    (case k_l_pen => k_is)
    (case a_l_draw => k_is)
    (case l_l_draw => k_is)
    (case c_l_draw => k_is)
    (case k_l_draw => k_is)
    (case a_l_low => k_is)
    (case l_l_low => k_is)
    (case c_l_low => k_is)
    (case k_l_low => k_is)
    (case a_l_less => k_is)
    (case l_l_less => k_is)
    (case c_l_less => k_is)
    (case k_l_less => k_is)
    (case a_l_same => k_is)
    (case l_l_same => k_is)
    (case c_l_same => k_is)
    (case k_l_same => k_is)
    (case a_l_edges => k_is)
    (case l_l_edges => k_is)
    (case c_l_edges => k_is)
    (case k_l_edges => k_is)
    (case a_is_whole_within => k_is)
    (case l_is_whole_within => k_is)
    (case c_is_whole_within => k_is)
    (case k_is_whole_within => k_is)
    (case a_is_fraction => k_is)
    (case l_is_fraction => k_is)
    (case c_is_fraction => k_is)
    (case k_is_fraction => k_is)
    (case a_plus => k_is)
    (case l_plus => k_is)
    (case c_plus => k_is)
    (case k_plus => k_is)
    (case a_minus => k_is)
    (case l_minus => k_is)
    (case c_minus => k_is)
    (case k_minus => k_is)
    (case a_times => k_is)
    (case l_times => k_is)
    (case c_times => k_is)
    (case k_times => k_is)
    (case a_over => k_is)
    (case l_over => k_is)
    (case c_over => k_is)
    (case k_over => k_is)
    (case a_l_add => k_is)
    (case l_l_add => k_is)
    (case c_l_add => k_is)
    (case k_l_add => k_is)
    (case a_l_sub => k_is)
    (case l_l_sub => k_is)
    (case c_l_sub => k_is)
    (case k_l_sub => k_is)
    (case a_l_mul => k_is)
    (case l_l_mul => k_is)
    (case c_l_mul => k_is)
    (case k_l_mul => k_is)
    (case a_l_div => k_is)
    (case l_l_div => k_is)
    (case c_l_div => k_is)
    (case k_l_div => k_is)
    (case a_l_above => k_is)
    (case l_l_above => k_is)
    (case c_l_above => k_is)
    (case k_l_above => k_is)
    (case a_is_from_nought => k_is)
    (case l_is_from_nought => k_is)
    (case c_is_from_nought => k_is)
    (case k_is_from_nought => k_is)
    (case a_is_above_nought => k_is)
    (case l_is_above_nought => k_is)
    (case c_is_above_nought => k_is)
    (case k_is_above_nought => k_is)
    (case a_rise_of => k_is)
    (case l_rise_of => k_is)
    (case c_rise_of => k_is)
    (case k_rise_of => k_is)
    (case a_step_at => k_is)
    (case l_step_at => k_is)
    (case c_step_at => k_is)
    (case k_step_at => k_is)
    (case a_l_goes_on => k_is)
    (case l_l_goes_on => k_is)
    (case c_l_goes_on => k_is)
    (case k_l_goes_on => k_is)
    (case a_l_line => k_is)
    (case l_l_line => k_is)
    (case c_l_line => k_is)
    (case k_l_line => k_is)
    (case a_l_places => k_is)
    (case l_l_places => k_is)
    (case c_l_places => k_is)
    (case k_l_places => k_is)
    (case a_l_far => k_is)
    (case l_l_far => k_is)
    (case c_l_far => k_is)
    (case k_l_far => k_is)
    (case a_l_wide => k_is)
    (case l_l_wide => k_is)
    (case c_l_wide => k_is)
    (case k_l_wide => k_is)
    (case a_is_stretch => k_is)
    (case l_is_stretch => k_is)
    (case c_is_stretch => k_is)
    (case k_is_stretch => k_is)
    (case a_goes_on => k_is)
    (case l_goes_on => k_is)
    (case c_goes_on => k_is)
    (case k_goes_on => k_is)
    (case a_length_within => k_is)
    (case l_length_within => k_is)
    (case c_length_within => k_is)
    (case k_length_within => k_is)
    (case a_length_of_steps => k_is)
    (case l_length_of_steps => k_is)
    (case c_length_of_steps => k_is)
    (case k_length_of_steps => k_is)
    (case a_l_tempo => k_is)
    (case l_l_tempo => k_is)
    (case c_l_tempo => k_is)
    (case k_l_tempo => k_is)
    (case a_l_moment => k_is)
    (case l_l_moment => k_is)
    (case c_l_moment => k_is)
    (case k_l_moment => k_is)
    (case a_is_plain => k_is)
    (case l_is_plain => k_is)
    (case c_is_plain => k_is)
    (case k_is_plain => k_is)
    (case a_moment_within => k_is)
    (case l_moment_within => k_is)
    (case c_moment_within => k_is)
    (case k_moment_within => k_is)
    (case a_place_within => k_is)
    (case l_place_within => k_is)
    (case c_place_within => k_is)
    (case k_place_within => k_is)
    (case a_l_place => k_is)
    (case l_l_place => k_is)
    (case c_l_place => k_is)
    (case k_l_place => k_is)
    (case a_l_near => k_is)
    (case l_l_near => k_is)
    (case c_l_near => k_is)
    (case k_l_near => k_is)
    (case a_is_tempo => k_is)
    (case l_is_tempo => k_is)
    (case c_is_tempo => k_is)
    (case k_is_tempo => k_is)
    (case a_refuse_no_tempo => k_is)
    (case l_refuse_no_tempo => k_is)
    (case c_refuse_no_tempo => k_is)
    (case k_refuse_no_tempo => k_is)
    (case a_moment_of => k_is)
    (case l_moment_of => k_is)
    (case c_moment_of => k_is)
    (case k_moment_of => k_is)
    (case a_place_of => k_is)
    (case l_place_of => k_is)
    (case c_place_of => k_is)
    (case k_place_of => k_is)
    (case a_l_far_right => k_is)
    (case l_l_far_right => k_is)
    (case c_l_far_right => k_is)
    (case k_l_far_right => k_is)
    (case a_l_fine_right => k_is)
    (case l_l_fine_right => k_is)
    (case c_l_fine_right => k_is)
    (case k_l_fine_right => k_is)
    (case a_law => k_is)
    (case l_law => k_is)
    (case c_law => k_is)
    (case k_law => k_is)
    (case z_abs => k_is)
    (case z_all => k_is)
    (case z_bool => k_is)
    (case z_int => k_is)
    (case z_isinstance => k_is)
    (case z_len => k_is)
    (case z_list => k_is)
    (case z_min => k_is)
    (case z_range => k_is)
    (case z_str => k_is)
    (case z_sum => k_is)
    (case z_tuple => k_is)
    (case z_zip => k_is)
    (case m_gcd => k_is)
    (case m_MOST_STEPS => k_is)
    (case m_MOST_STRETCHES => k_is)
    (case m_NOUGHT => k_is)
    (case l_NOUGHT => k_is)
