import PyProof.Rows.All
import Wide.All
import OpenK.AllK
import Wide.FinOn
import HandS.ForMost
import HandS.ForExc
import HandS.Wide
import HandS.WideBits
import HandS.Gcd
import HandS.IsInst
import HandS.Zip
import HandS.TupAny
import HandS.TupLe
import HandS.Flow
import HandS.Style
import HandS.Small
import HandS.Conv
import KE.KRevSl
import PyProof.EqKinds
import PySem.Challenge.RW_beatlanes_k06_less_and_floor
set_option Elab.async false
set_option linter.all false
set_option maxRecDepth 100000
/-! A layer of plain data over the hand layer: what an expression, a block, a def of the text does, as a plain Lean function of data. -/
namespace DL
open PySem PySem.Spec PyProof.Rows L2

/-- plain data: tuples by their items, mutable objects by their number in the store -/
inductive D where
  | non | bl (b : Bool) | int (i : Int) | str (s : Str) | tup (xs : List D) | ob (n : Nat) | ro (ns : List Int) | raw (v : V)
/-- a mutable object -/
inductive O where
  | lst (xs : List D)
  | dic (kvs : List (Key × D))
abbrev Sto := List O
abbrev Lc := List (Option D)


section
variable (K : PySem.W.Frag)
mutual
inductive Rp : List Addr → Hp → V → D → Prop
  | non {φ : List Addr} {H : Hp} : Rp φ H .non .non
  | bl {φ : List Addr} {H : Hp} (b : Bool) : Rp φ H (.bl b) (.bl b)
  | int {φ : List Addr} {H : Hp} (i : Int) : Rp φ H (.int i) (.int i)
  | str {φ : List Addr} {H : Hp} (s : Str) : Rp φ H (.str s) (.str s)
  | tup {φ : List Addr} {H : Hp} {a : Addr} {xs : List V} {ds : List D} : SqT K H a xs → Rps φ H xs ds → Rp φ H (.ref a) (.tup ds)
  | ob {φ : List Addr} {H : Hp} {n : Nat} {a : Addr} : φ[n]? = some a → Rp φ H (.ref a) (.ob n)
  | ro {φ : List Addr} {H : Hp} {a : Addr} {ns : List Int} : ((∃ o, H a = some (.frz o (.lst (ns.map V.int)))) ∨ SqL K (fun _ => none) a (ns.map V.int)) → Rp φ H (.ref a) (.ro ns)
  | raw {φ : List Addr} {H : Hp} (v : V) : Rp φ H v (.raw v)
inductive Rps : List Addr → Hp → List V → List D → Prop
  | nil {φ : List Addr} {H : Hp} : Rps φ H [] []
  | cons {φ : List Addr} {H : Hp} {v : V} {d : D} {vs : List V} {ds : List D} : Rp φ H v d → Rps φ H vs ds → Rps φ H (v :: vs) (d :: ds)
end
end

/-- how heaps grow -/
structure Ext (φ : List Addr) (H : Hp) (φ' : List Addr) (H' : Hp) : Prop where
  pre : ∀ (n : Nat) (a : Addr), φ[n]? = some a → φ'[n]? = some a
  tup : ∀ a xs, H a = some (.tup xs) → H' a = some (.tup xs)
  frz : ∀ a o u, H a = some (.frz o u) → H' a = some (.frz o u)
theorem Ext.rfl' {φ : List Addr} {H : Hp} : Ext φ H φ H := ⟨fun _ _ h => h, fun _ _ h => h, fun _ _ _ h => h⟩
theorem Ext.trans {φ φ1 φ2 : List Addr} {H H1 H2 : Hp} (a : Ext φ H φ1 H1) (b : Ext φ1 H1 φ2 H2) : Ext φ H φ2 H2 :=
  ⟨fun n x h => b.pre n x (a.pre n x h), fun x xs h => b.tup x xs (a.tup x xs h), fun x o u h => b.frz x o u (a.frz x o u h)⟩
theorem Ext.sqT {K : PySem.W.Frag} {φ φ1 : List Addr} {H H1 : Hp} (a : Ext φ H φ1 H1) {p : Addr} {xs : List V} (h : SqT K H p xs) : SqT K H1 p xs := by
  rcases h with (h | ⟨o, h⟩) | h
  · exact .inl (.inl (a.tup _ _ h))
  · exact .inl (.inr ⟨o, a.frz _ _ _ h⟩)
  · exact .inr h
section
variable {K : PySem.W.Frag} {φ φ1 : List Addr} {H H1 : Hp}
mutual
theorem Rp.mono (e : Ext φ H φ1 H1) : ∀ {v : V} {d : D}, Rp K φ H v d → Rp K φ1 H1 v d
  | _, _, .non => .non
  | _, _, .bl b => .bl b
  | _, _, .int b => .int b
  | _, _, .str b => .str b
  | _, _, .tup h r => .tup (e.sqT h) (Rps.mono e r)
  | _, _, .ob h => .ob (e.pre _ _ h)
  | _, _, .ro (.inl ⟨o, h⟩) => .ro (.inl ⟨o, e.frz _ _ _ h⟩)
  | _, _, .ro (.inr h) => .ro (.inr h)
  | _, _, .raw v => .raw v
theorem Rps.mono (e : Ext φ H φ1 H1) : ∀ {vs : List V} {ds : List D}, Rps K φ H vs ds → Rps K φ1 H1 vs ds
  | _, _, .nil => .nil
  | _, _, .cons a b => .cons (Rp.mono e a) (Rps.mono e b)
end
theorem Rps.length : ∀ {vs : List V} {ds : List D}, Rps K φ H vs ds → vs.length = ds.length
  | _, _, .nil => rfl
  | _, _, .cons a b => congrArg (· + 1) (Rps.length b)
theorem Rps.get : ∀ {vs : List V} {ds : List D} {i : Nat} {d : D}, Rps K φ H vs ds → ds[i]? = some d → ∃ v, vs[i]? = some v ∧ Rp K φ H v d
  | _, _, _, _, .nil, e => by simp at e
  | _, _, 0, _, .cons a b, e => by simp at e; subst e; exact ⟨_, rfl, a⟩
  | _, _, i + 1, d, .cons a b, e => by
    obtain ⟨v, h1, h2⟩ := Rps.get (i := i) b (by simpa using e)
    exact ⟨v, by simpa using h1, h2⟩
theorem Rps.get' : ∀ {vs : List V} {ds : List D} {i : Nat} {v : V}, Rps K φ H vs ds → vs[i]? = some v → ∃ d, ds[i]? = some d ∧ Rp K φ H v d
  | _, _, _, _, .nil, e => by simp at e
  | _, _, 0, _, .cons a b, e => by simp at e; subst e; exact ⟨_, rfl, a⟩
  | _, _, i + 1, d, .cons a b, e => by
    obtain ⟨v, h1, h2⟩ := Rps.get' (i := i) b (by simpa using e)
    exact ⟨v, by simpa using h1, h2⟩
theorem Rps.append : ∀ {vs ws : List V} {ds es : List D}, Rps K φ H vs ds → Rps K φ H ws es → Rps K φ H (vs ++ ws) (ds ++ es)
  | _, _, _, _, .nil, h => h
  | _, _, _, _, .cons a b, h => .cons a (Rps.append b h)
theorem Rps.set {v : V} {d : D} (r : Rp K φ H v d) : ∀ {vs : List V} {ds : List D} (i : Nat), Rps K φ H vs ds → Rps K φ H (vs.set i v) (ds.set i d)
  | _, _, _, .nil => .nil
  | _, _, 0, .cons a b => .cons r b
  | _, _, i + 1, .cons a b => .cons a (Rps.set r i b)
theorem Rps.take : ∀ {vs : List V} {ds : List D} (i : Nat), Rps K φ H vs ds → Rps K φ H (vs.take i) (ds.take i)
  | _, _, 0, _ => .nil
  | _, _, _ + 1, .nil => .nil
  | _, _, i + 1, .cons a b => .cons a (Rps.take i b)
theorem Rps.drop : ∀ {vs : List V} {ds : List D} (i : Nat), Rps K φ H vs ds → Rps K φ H (vs.drop i) (ds.drop i)
  | _, _, 0, h => h
  | _, _, _ + 1, .nil => .nil
  | _, _, i + 1, .cons a b => Rps.drop i b
theorem Rps.reverse : ∀ {vs : List V} {ds : List D}, Rps K φ H vs ds → Rps K φ H vs.reverse ds.reverse
  | _, _, .nil => .nil
  | _, _, .cons a b => by
    rw [List.reverse_cons, List.reverse_cons]
    exact Rps.append (Rps.reverse b) (.cons a .nil)
theorem Rps.flatten_replicate {vs : List V} {ds : List D} (h : Rps K φ H vs ds) : ∀ n, Rps K φ H (List.replicate n vs).flatten (List.replicate n ds).flatten
  | 0 => .nil
  | n + 1 => by
    rw [List.replicate_succ, List.replicate_succ, List.flatten_cons, List.flatten_cons]
    exact h.append (Rps.flatten_replicate h n)
end

def Ro (K : PySem.W.Frag) (φ : List Addr) (H : Hp) (a : Addr) : O → Prop
  | .lst ds => ∃ xs, H a = some (.lst xs) ∧ Rps K φ H xs ds
  | .dic kvs => ∃ ws, H a = some (.dK ws) ∧ ws.map (·.1) = kvs.map (·.1) ∧ Rps K φ H (ws.map (·.2)) (kvs.map (·.2))
/-- the store -/
structure Sr (K : PySem.W.Frag) (φ : List Addr) (S : Sto) (H : Hp) : Prop where
  len : φ.length = S.length
  nd : φ.Nodup
  at' : ∀ (n : Nat) (o : O), S[n]? = some o → ∃ a, φ[n]? = some a ∧ Ro K φ H a o
/-- the local names -/
structure Er (K : PySem.W.Frag) (φ : List Addr) (H : Hp) (σ : L2.St) (ρ : Lc) : Prop where
  len : σ.length = ρ.length
  at' : ∀ (i : Nat) (d : D), ρ[i]? = some (some d) → ∃ v, σ[i]? = some (some v) ∧ Rp K φ H v d
theorem Er.mono {K : PySem.W.Frag} {φ φ1 : List Addr} {H H1 : Hp} {σ : L2.St} {ρ : Lc} (e : Ext φ H φ1 H1) (h : Er K φ H σ ρ) : Er K φ1 H1 σ ρ :=
  ⟨h.len, fun i d q => let ⟨v, h1, h2⟩ := h.at' i d q; ⟨v, h1, h2.mono e⟩⟩
theorem Er.set {K : PySem.W.Frag} {φ : List Addr} {H : Hp} {σ : L2.St} {ρ : Lc} {v : V} {d : D} (h : Er K φ H σ ρ) (r : Rp K φ H v d) (i : Nat) : Er K φ H (σ.set i (some v)) (ρ.set i (some d)) := by
  refine ⟨by rw [List.length_set, List.length_set]; exact h.len, fun j e q => ?_⟩
  rw [List.getElem?_set] at q ⊢
  by_cases hj : i = j
  · subst hj
    rw [if_pos rfl] at q ⊢
    by_cases hl : i < ρ.length
    · rw [if_pos hl] at q
      rw [if_pos (by rw [h.len]; exact hl)]
      cases q
      exact ⟨v, rfl, r⟩
    · rw [if_neg hl] at q; cases q
  · rw [if_neg hj] at q ⊢
    exact h.at' j e q

/-- a condition that is shown, never reckoned -/
noncomputable def gd (p : Prop) : Bool := @decide p (Classical.propDecidable p)
theorem gd_of {p : Prop} (h : p) : gd p = true := by unfold gd; exact @decide_eq_true p (Classical.propDecidable p) h
theorem of_gd {p : Prop} (h : gd p = true) : p := by unfold gd at h; exact @of_decide_eq_true p (Classical.propDecidable p) h
/-! ### results -/
inductive Res (α : Type) where
  | ok (a : α) (S : Sto)
  | ex (c : Addr) (S : Sto)
  | no
def Res.bind {α β : Type} (r : Res α) (k : α → Sto → Res β) : Res β :=
  match r with
  | .ok a S => k a S
  | .ex c S => .ex c S
  | .no => .no
abbrev Rl (α β : Type) := List Addr → Hp → β → α → Prop
def RMono {α β : Type} (R : Rl α β) : Prop := ∀ {φ φ1 : List Addr} {H H1 : Hp} {x : β} {a : α}, Ext φ H φ1 H1 → R φ H x a → R φ1 H1 x a
abbrev RB : Rl Bool Bool := fun _ _ x b => x = b
theorem RB.mono : RMono RB := fun _ h => h

section
variable {α β : Type} (R : Rl α β) (K : PySem.W.Frag) (W : WX)
def post (φ : List Addr) (H : Hp) (σ : L2.St) (Q : β → Hp → Prop) : Res α → Prop
  | .ok a S' => ∀ φ' H' x, Ext φ H φ' H' → Sr K φ' S' H' → R φ' H' x a → Q x H'
  | .ex c S' => ∀ φ' H', Ext φ H φ' H' → Sr K φ' S' H' → W (.ref c) none σ H'
  | .no => False
def lf (f : Lc → Sto → Res α) : L2.St → Hp → (β → Hp → Prop) → Prop := fun σ H Q => ∃ φ ρ S, Er K φ H σ ρ ∧ Sr K φ S H ∧ post R K W φ H σ Q (f ρ S)
end
section
variable {α β : Type} {R : Rl α β} {K : PySem.W.Frag} {W : WX} {φ φ1 : List Addr} {H H1 : Hp} {σ : L2.St}
theorem post.mono {Q : β → Hp → Prop} (e : Ext φ H φ1 H1) : ∀ {r : Res α}, post R K W φ H σ Q r → post R K W φ1 H1 σ Q r
  | .ok _ _, h => fun φ' H' x e' => h φ' H' x (e.trans e')
  | .ex _ _, h => fun φ' H' e' => h φ' H' (e.trans e')
  | .no, h => h
theorem post.imp {Q Q' : β → Hp → Prop} (hq : ∀ x H, Q x H → Q' x H) : ∀ {r : Res α}, post R K W φ H σ Q r → post R K W φ H σ Q' r
  | .ok _ _, h => fun φ' H' x e' s r => hq _ _ (h φ' H' x e' s r)
  | .ex _ _, h => h
  | .no, h => h
theorem lf.imp {Q Q' : β → Hp → Prop} {f : Lc → Sto → Res α} (hq : ∀ x H, Q x H → Q' x H) (h : lf R K W f σ H Q) : lf R K W f σ H Q' :=
  let ⟨φ, ρ, S, er, sr, p⟩ := h
  ⟨φ, ρ, S, er, sr, p.imp hq⟩
/-- THE STEP: the first part is run, then what is left -/
theorem lf.bind {γ δ : Type} {R2 : Rl γ δ} {Q : δ → Hp → Prop} {f : Lc → Sto → Res α} {k : α → Sto → Res γ} {ρ : Lc} {S : Sto} (er : Er K φ H σ ρ) (sr : Sr K φ S H) (p : post R2 K W φ H σ Q ((f ρ S).bind k)) :
    lf R K W f σ H fun x H1 => ∃ φ1 S1 a, Ext φ H φ1 H1 ∧ Sr K φ1 S1 H1 ∧ R φ1 H1 x a ∧ post R2 K W φ1 H1 σ Q (k a S1) := by
  refine ⟨φ, ρ, S, er, sr, ?_⟩
  cases e : f ρ S with
  | ok a S1 =>
    rw [e] at p
    exact fun φ' H' x e' s r => ⟨φ', S1, a, e', s, r, post.mono e' p⟩
  | ex c S1 => rw [e] at p; exact p
  | no => rw [e] at p; exact p
end
/-- an expression, arguments, a test, as functions of data -/
abbrev lE (K : PySem.W.Frag) (W : WX) (f : Lc → Sto → Res D) : TE := lf (Rp K) K W f
abbrev lA (K : PySem.W.Frag) (W : WX) (f : Lc → Sto → Res (List D)) : TA := lf (Rps K) K W f
abbrev lT (K : PySem.W.Frag) (W : WX) (f : Lc → Sto → Res Bool) : TT := lf RB K W f
abbrev EF := Lc → Sto → Res D
abbrev AF := Lc → Sto → Res (List D)
abbrev TF := Lc → Sto → Res Bool
def DE (X : Cx) (W : WX) (e : Expr) (f : EF) : Prop := PE X e (lE X.K W f)
def DA (X : Cx) (W : WX) (es : List Expr) (f : AF) : Prop := PA X es (lA X.K W f)
def DT (X : Cx) (W : WX) (e : Expr) (f : TF) : Prop := PT X e (lT X.K W f)
theorem pe_wk {X : Cx} {e : Expr} {t t' : TE} (h : PE X e t) (q : ∀ σ H Q, t' σ H Q → t σ H Q) : PE X e t' := ⟨fun pins s σ H Q I z => h.run pins s σ H Q I (q σ H Q z)⟩
theorem pa_wk {X : Cx} {e : List Expr} {t t' : TA} (h : PA X e t) (q : ∀ σ H Q, t' σ H Q → t σ H Q) : PA X e t' := ⟨fun pos pins s σ H Q I z => h.run pos pins s σ H Q I (q σ H Q z)⟩
theorem pt_wk {X : Cx} {e : Expr} {t t' : TT} (h : PT X e t) (q : ∀ σ H Q, t' σ H Q → t σ H Q) : PT X e t' := ⟨fun pins s σ H Q I z => h.run pins s σ H Q I (q σ H Q z)⟩
theorem ps_wk {X : Cx} {e : Stmt} {t t' : TS} (h : PS X e t) (q : ∀ D σ H, t' D σ H → t D σ H) : PS X e t' := ⟨fun pins s σ H Q I z => h.run pins s σ H Q I (q Q σ H z)⟩
theorem pss_wk {X : Cx} {e : List Stmt} {t t' : TS} (h : PSs X e t) (q : ∀ D σ H, t' D σ H → t D σ H) : PSs X e t' := ⟨fun pins s σ H Q I z => h.run pins s σ H Q I (q Q σ H z)⟩
end DL
set_option Elab.async false
set_option linter.all false
set_option maxRecDepth 100000
noncomputable section
namespace DL
open PySem PySem.Spec PyProof.Rows L2

theorem nd_inj {α : Type} {l : List α} (h : l.Nodup) {i j : Nat} (hi : i < l.length) (hj : j < l.length) (e : l[i] = l[j]) : i = j := by
  rw [List.nodup_iff_pairwise_ne, List.pairwise_iff_getElem] at h
  rcases Nat.lt_trichotomy i j with c | c | c
  · exact absurd e (h i j hi hj c)
  · exact c
  · exact absurd e.symm (h j i hj hi c)
/-! ### heaps -/
section
variable {K : PySem.W.Frag} {φ : List Addr} {H : Hp} {S : Sto}
theorem Ext.new {p : Addr} {o : HO} (hp : H p = none) : Ext φ H φ (upd H p o) :=
  ⟨fun _ _ h => h, fun a xs h => by rw [upd_ne (ne_of_none h hp)]; exact h, fun a o u h => by rw [upd_ne (ne_of_none h hp)]; exact h⟩
theorem Ext.snoc {p : Addr} : Ext φ H (φ ++ [p]) H :=
  ⟨fun n a h => by rw [List.getElem?_append_left (List.getElem?_eq_some_iff.mp h).1]; exact h, fun _ _ h => h, fun _ _ _ h => h⟩
theorem Ext.put {a : Addr} {o : HO} (hm : Mut (H a)) : Ext φ H φ (upd H a o) :=
  ⟨fun _ _ h => h, fun b xs h => by rw [upd_ne (fun z => by subst z; rw [h] at hm; exact hm)]; exact h, fun b o u h => by rw [upd_ne (fun z => by subst z; rw [h] at hm; exact hm)]; exact h⟩
theorem Ro.mono {φ1 : List Addr} {H1 : Hp} {a : Addr} (e : Ext φ H φ1 H1) (h : H1 a = H a) : ∀ {o : O}, Ro K φ H a o → Ro K φ1 H1 a o
  | .lst _, ⟨xs, h1, r⟩ => ⟨xs, by rw [h]; exact h1, r.mono e⟩
  | .dic _, ⟨xs, h1, k, r⟩ => ⟨xs, by rw [h]; exact h1, k, r.mono e⟩
theorem Ro.some {a : Addr} : ∀ {o : O}, Ro K φ H a o → ∃ u, H a = some u ∧ Mut (H a)
  | .lst _, ⟨xs, h1, r⟩ => ⟨_, h1, by rw [h1]; trivial⟩
  | .dic _, ⟨xs, h1, k, r⟩ => ⟨_, h1, by rw [h1]; trivial⟩
theorem Sr.mem (s : Sr K φ S H) {p : Addr} (h : p ∈ φ) : ∃ u, H p = some u := by
  obtain ⟨n, hn⟩ := List.getElem?_of_mem h
  have hl : n < S.length := by rw [← s.len]; exact (List.getElem?_eq_some_iff.mp hn).1
  obtain ⟨a, h1, r⟩ := s.at' n _ (List.getElem?_eq_getElem hl)
  rw [hn] at h1
  cases h1
  obtain ⟨u, h2, _⟩ := r.some
  exact ⟨u, h2⟩
theorem Sr.fresh (s : Sr K φ S H) {p : Addr} (hp : H p = none) : p ∉ φ := fun h => by
  obtain ⟨u, h2⟩ := s.mem h
  rw [hp] at h2; cases h2
/-- a new object that the store does not name: a tuple -/
theorem Sr.new (s : Sr K φ S H) {p : Addr} {o : HO} (hp : H p = none) : Sr K φ S (upd H p o) :=
  ⟨s.len, s.nd, fun n o' h => by
    obtain ⟨a, h1, r⟩ := s.at' n o' h
    exact ⟨a, h1, r.mono (Ext.new hp) (upd_ne fun z => by subst z; exact s.fresh hp (List.mem_of_getElem? h1))⟩⟩
/-- a new object of the store -/
theorem Sr.snoc (s : Sr K φ S H) {p : Addr} {o : HO} {u : O} (hp : H p = none) (r : Ro K (φ ++ [p]) (upd H p o) p u) : Sr K (φ ++ [p]) (S ++ [u]) (upd H p o) := by
  refine ⟨by rw [List.length_append, List.length_append, s.len]; rfl, ?_, fun n o' h => ?_⟩
  · rw [List.nodup_append]
    exact ⟨s.nd, by simp, fun a ha b hb => by
      have : b = p := by simpa using hb
      subst this
      rintro rfl
      exact s.fresh hp ha⟩
  · by_cases hn : n < S.length
    · rw [List.getElem?_append_left hn] at h
      obtain ⟨a, h1, r1⟩ := s.at' n o' h
      refine ⟨a, by rw [List.getElem?_append_left (by rw [s.len]; exact hn)]; exact h1, r1.mono ((Ext.new hp).trans Ext.snoc) (upd_ne fun z => by subst z; exact s.fresh hp (List.mem_of_getElem? h1))⟩
    · rw [List.getElem?_append_right (by omega)] at h
      have h0 : n - S.length = 0 := by
        have := (List.getElem?_eq_some_iff.mp h).1
        simp at this
        omega
      rw [h0] at h
      simp at h
      subst h
      refine ⟨p, ?_, r⟩
      rw [List.getElem?_append_right (by rw [s.len]; omega), s.len, h0]
      rfl
theorem Ext.newSnoc {p : Addr} {o : HO} (hp : H p = none) : Ext φ H (φ ++ [p]) (upd H p o) := (Ext.new hp).trans Ext.snoc
/-- an object of the store is changed -/
theorem Sr.put (s : Sr K φ S H) {n : Nat} {a : Addr} {o : HO} {u : O} (hn : φ[n]? = some a) (r : Ro K φ (upd H a o) a u) : Sr K φ (S.set n u) (upd H a o) := by
  have hl : n < S.length := by rw [← s.len]; exact (List.getElem?_eq_some_iff.mp hn).1
  have hm : Mut (H a) := by
    obtain ⟨b, h1, r1⟩ := s.at' n _ (List.getElem?_eq_getElem hl)
    rw [hn] at h1; cases h1
    exact r1.some.choose_spec.2
  refine ⟨by rw [List.length_set]; exact s.len, s.nd, fun m o' h => ?_⟩
  rw [List.getElem?_set] at h
  by_cases hm' : n = m
  · subst hm'
    rw [if_pos rfl, if_pos hl] at h
    cases h
    exact ⟨a, hn, r⟩
  · rw [if_neg hm'] at h
    obtain ⟨b, h1, r1⟩ := s.at' m o' h
    refine ⟨b, h1, r1.mono (Ext.put hm) (upd_ne fun z => hm' ?_)⟩
    subst z
    obtain ⟨l1, e1⟩ := List.getElem?_eq_some_iff.mp hn
    obtain ⟨l2, e2⟩ := List.getElem?_eq_some_iff.mp h1
    exact (nd_inj s.nd l1 l2 (e1.trans e2.symm))
theorem Sr.lst (s : Sr K φ S H) {n : Nat} {a : Addr} {ds : List D} (hn : φ[n]? = some a) (h : S[n]? = some (.lst ds)) : ∃ xs, H a = some (.lst xs) ∧ Rps K φ H xs ds := by
  obtain ⟨b, h1, r1⟩ := s.at' n _ h
  rw [hn] at h1; cases h1
  exact r1
end

/-! ### names, constants -/
def eVar (i : Nat) : EF := fun ρ S => match ρ[i]? with | some (some d) => .ok d S | _ => .no
def eC (d : D) : EF := fun _ S => .ok d S
section
variable {X : Cx} {W : WX}
theorem de_var {i : Nat} {x : Str} {pos : Pos} (h : PE X (.Name x pos) (tVar i)) : DE X W (.Name x pos) (eVar i) := pe_wk h fun σ H Q z => by
  obtain ⟨φ, ρ, S, er, sr, p⟩ := z
  unfold eVar at p
  cases e : ρ[i]? with
  | none => rw [e] at p; exact p.elim
  | some o =>
    rw [e] at p
    cases o with
    | none => exact p.elim
    | some d =>
      obtain ⟨v, h1, h2⟩ := er.at' i d e
      exact ⟨v, h1, p φ H v Ext.rfl' sr h2⟩
theorem de_con {e : Expr} {v : V} {d : D} (h : PE X e (tC v)) (r : ∀ φ H, Rp X.K φ H v d) : DE X W e (eC d) := pe_wk h fun σ H Q ⟨φ, ρ, S, er, sr, p⟩ => p φ H v Ext.rfl' sr (r φ H)
theorem de_int {i j pos} : DE X W (.Constant (.int i) j pos) (eC (.int i)) := de_con pe_int fun _ _ => .int i
theorem de_bl {i j pos} : DE X W (.Constant (.bool i) j pos) (eC (.bl i)) := de_con pe_bl fun _ _ => .bl i
theorem de_str {i j pos} : DE X W (.Constant (.str i) j pos) (eC (.str i)) := de_con pe_str fun _ _ => .str i
theorem de_non {j pos} : DE X W (.Constant .none j pos) (eC .non) := de_con pe_non fun _ _ => .non
end

/-! ### operators -/
abbrev OF := D → D → Sto → Res D
def eOp (o : OF) (a b : EF) : EF := fun ρ S => (a ρ S).bind fun x S1 => (b ρ S1).bind fun y S2 => o x y S2
/-- the hand layer's operator does at least what the function says -/
def Op2 (K : PySem.W.Frag) (r : R2) (o : OF) : Prop := ∀ (W : WX) (φ : List Addr) (S : Sto) (H : Hp) (σ : L2.St) (x y : V) (a b : D) (Q : VK), Sr K φ S H → Rp K φ H x a → Rp K φ H y b → post (Rp K) K W φ H σ Q (o a b S) → r x y H Q
section
variable {X : Cx} {W : WX} {a b : Expr} {fa fb : EF} {r : R2} {o : OF}
theorem tOp_of (hr : Op2 X.K r o) : ∀ σ H Q, lE X.K W (eOp o fa fb) σ H Q → tOp r (lE X.K W fa) (lE X.K W fb) σ H Q := fun σ H Q ⟨φ, ρ, S, er, sr, p⟩ =>
  (lf.bind er sr p).imp fun x H1 ⟨φ1, S1, d, e1, sr1, r1, p1⟩ => (lf.bind (er.mono e1) sr1 p1).imp fun y H2 ⟨φ2, S2, d2, e2, sr2, r2, p2⟩ =>
    hr W φ2 S2 H2 σ x y d d2 Q sr2 (r1.mono e2) r2 p2
theorem de_op {op : Operator} {pos : Pos} (ho : OpR X (binaryOp op) r) (hr : Op2 X.K r o) (ha : DE X W a fa) (hb : DE X W b fb) : DE X W (.BinOp a op b pos) (eOp o fa fb) :=
  pe_wk (pe_op ho ha hb) (tOp_of hr)
theorem de_cmp {op : CmpOp} {pos : Pos} (ho : OpR X (compareOp op) r) (hr : Op2 X.K r o) (ha : DE X W a fa) (hb : DE X W b fb) (hm : behindInMarks op b = false := by first | exact nomark _ | rfl) : DE X W (.Compare a [op] [b] pos) (eOp o fa fb) :=
  pe_wk (pe_cmpR ho ha hb hm) (tOp_of hr)
end
theorem Op2.or {K : PySem.W.Frag} {r r' : R2} {o o' : OF} (h : Op2 K r o) (h' : Op2 K r' o') (u : OF) (c : ∀ a b S, u a b S = o a b S ∨ u a b S = o' a b S) : Op2 K (fun x y H Q => r x y H Q ∨ r' x y H Q) u := fun W φ S H σ x y a b Q s ra rb p => by
  rcases c a b S with e | e
  · rw [e] at p; exact .inl (h W φ S H σ x y a b Q s ra rb p)
  · rw [e] at p; exact .inr (h' W φ S H σ x y a b Q s ra rb p)

/-- two ints -/
def oI (g : Int → Int → Option D) : OF := fun a b S => match a, b with
  | .int i, .int j => match g i j with | some d => .ok d S | none => .no
  | _, _ => .no
theorem oI_ok {K : PySem.W.Frag} {C : Int → Int → Prop} {g : Int → Int → V} {g' : Int → Int → Option D} (h : ∀ i j d, g' i j = some d → C i j ∧ ∀ φ H, Rp K φ H (g i j) d) : Op2 K (rI C g) (oI g') := fun W φ S H σ x y a b Q s ra rb p => by
  unfold oI at p
  split at p
  · rename_i i j
    cases ra
    cases rb
    split at p
    · rename_i d e
      obtain ⟨c, r⟩ := h i j d e
      exact ⟨i, j, rfl, rfl, c, p φ H _ Ext.rfl' s (r φ H)⟩
    · exact p.elim
  · exact p.elim
theorem oI_ok0 {K : PySem.W.Frag} {g : Int → Int → V} {g' : Int → Int → Option D} (h : ∀ i j d, g' i j = some d → ∀ φ H, Rp K φ H (g i j) d) : Op2 K (rI0 g) (oI g') := fun W φ S H σ x y a b Q s ra rb p => by
  unfold oI at p
  split at p
  · rename_i i j
    cases ra
    cases rb
    split at p
    · rename_i d e
      exact ⟨i, j, rfl, rfl, p φ H _ Ext.rfl' s (h i j d e φ H)⟩
    · exact p.elim
  · exact p.elim
/-- lists' greatest length here -/
def szOk (n : Nat) : Bool := gd (n ≤ 1000000)
theorem szOk.le {n : Nat} (h : szOk n = true) : n ≤ sizeLine := by
  have := of_gd h
  rw [sizeLine_eq]; omega
theorem szOk.lt {n : Nat} (h : szOk n = true) : n < sizeLine := by
  have := of_gd h
  rw [sizeLine_eq]; omega

/-- a + b -/
def oAdd : OF
  | .int i, .int j, S => .ok (.int (i + j)) S
  | .tup xs, .tup ys, S => if szOk (xs.length + ys.length) then .ok (.tup (xs ++ ys)) S else .no
  | .ob n, .ob m, S => match S[n]?, S[m]? with
    | some (.lst xs), some (.lst ys) => if szOk (xs.length + ys.length) then .ok (.ob S.length) (S ++ [.lst (xs ++ ys)]) else .no
    | _, _ => .no
  | .str x, .str y, S => if szOk (x.length + y.length) then .ok (.str (x ++ y)) S else .no
  | _, _, _ => .no
abbrev rAddAll (K : PySem.W.Frag) : R2 := fun x y H Q => (rI0 (fun i j => .int (i + j))) x y H Q ∨ (fun x y H Q => rCatA K x y H Q ∨ (fun x y H Q => rCat x y H Q ∨
  (fun x y H Q => ∃ i j, x = .str i ∧ y = .str j ∧ i.length + j.length ≤ sizeLine ∧ Q (.str (i ++ j)) H) x y H Q) x y H Q) x y H Q
theorem op_addAll {X : Cx} : OpR X (binaryOp .Add) (rAddAll X.K) := OpR.or op_add (OpR.or op_catA (OpR.or op_cat op_add_str))
theorem oAdd_ok {K : PySem.W.Frag} : Op2 K (rAddAll K) oAdd := fun W φ S H σ x y a b Q s ra rb p => by
  unfold oAdd at p
  split at p
  · cases ra; cases rb
    exact .inl ⟨_, _, rfl, rfl, p φ H _ Ext.rfl' s (.int _)⟩
  · split at p
    · rename_i xs ys hz
      cases ra with
      | tup ta rxs =>
        cases rb with
        | tup tb rys =>
          have e1 := rxs.length
          have e2 := rys.length
          refine .inr (.inl ⟨_, _, _, _, rfl, rfl, ta, tb, ?_, fun e => ?_, fun _ e => ?_, fun _ _ q hq => ?_⟩)
          · rw [e1, e2]; exact szOk.le hz
          · subst e
            cases rxs
            exact p φ H _ Ext.rfl' s (.tup tb rys)
          · subst e
            cases rys
            rw [List.append_nil] at p
            exact p φ H _ Ext.rfl' s (.tup ta rxs)
          · exact p φ _ _ (Ext.new hq) (s.new hq) (.tup (.of upd_same) ((rxs.append rys).mono (Ext.new hq)))
    · exact p.elim
  · split at p
    · rename_i xs ys h1 h2
      split at p
      · rename_i hz
        cases ra with
        | ob na =>
          cases rb with
          | ob nb =>
            obtain ⟨us, g1, r1⟩ := s.lst na h1
            obtain ⟨ws, g2, r2⟩ := s.lst nb h2
            refine .inr (.inr (.inl ⟨_, _, _, _, rfl, rfl, g1, g2, ?_, fun q hq => ?_⟩))
            · rw [r1.length, r2.length]; exact szOk.le hz
            · have e := Ext.newSnoc (φ := φ) (o := .lst (us ++ ws)) hq
              exact p (φ ++ [q]) _ _ e (s.snoc hq ⟨_, upd_same, (r1.append r2).mono e⟩) (.ob (by rw [List.getElem?_append_right (by rw [s.len]; exact Nat.le_refl _), s.len, Nat.sub_self]; rfl))
      · exact p.elim
    · exact p.elim
  · split at p
    · rename_i hz
      cases ra; cases rb
      exact .inr (.inr (.inr ⟨_, _, rfl, rfl, szOk.le hz, p φ H _ Ext.rfl' s (.str _)⟩))
    · exact p.elim
  · exact p.elim
/-- a - b -/
def oSub : OF := oI fun i j => some (.int (i - j))
theorem oSub_ok {K : PySem.W.Frag} : Op2 K (rI0 fun i j => .int (i - j)) oSub := oI_ok0 fun i j d e φ H => by cases e; exact .int _
/-- a * b: ints, a list so many times -/
def mulOk (i j : Int) : Bool := gd ((Builtin.Int.intBits i : Int) + (Builtin.Int.intBits j : Int) ≤ 134217728)
def oMul : OF
  | .int i, .int j, S => if mulOk i j then .ok (.int (i * j)) S else .no
  | .ob n, .int k, S => match S[n]? with
    | some (.lst xs) => if gd (0 ≤ k ∧ k ≤ 1000000) && szOk (xs.length * k.toNat) then .ok (.ob S.length) (S ++ [.lst (List.replicate k.toNat xs).flatten]) else .no
    | _ => .no
  | _, _, _ => .no
abbrev rMulAll : R2 := fun x y H Q => (rI CMulX fun i j => .int (i * j)) x y H Q ∨ rRep x y H Q
theorem op_mulAll {X : Cx} : OpR X (binaryOp .Mult) rMulAll := OpR.or op_mulX op_rep
theorem oMul_ok {K : PySem.W.Frag} : Op2 K rMulAll oMul := fun W φ S H σ x y a b Q s ra rb p => by
  unfold oMul at p
  split at p
  · split at p
    · rename_i hz
      cases ra; cases rb
      exact .inl ⟨_, _, rfl, rfl, (of_gd hz : (_ : Int) ≤ 134217728), p φ H _ Ext.rfl' s (.int _)⟩
    · exact p.elim
  · rename_i n k
    split at p
    · rename_i xs h1
      split at p
      · rename_i hz
        obtain ⟨h2, h3⟩ := Bool.and_eq_true_iff.mp hz
        have h2 := of_gd h2
        cases ra with
        | ob na =>
          cases rb
          obtain ⟨us, g1, r1⟩ := s.lst na h1
          refine .inr ⟨_, _, _, rfl, rfl, g1, by omega, by omega, ?_, fun q hq => ?_⟩
          · rw [r1.length]; exact szOk.le h3
          · have e := Ext.newSnoc (φ := φ) (o := .lst (List.replicate k.toNat us).flatten) hq
            exact p (φ ++ [q]) _ _ e (s.snoc hq ⟨_, upd_same, (r1.flatten_replicate _).mono e⟩) (.ob (by rw [List.getElem?_append_right (by rw [s.len]; exact Nat.le_refl _), s.len, Nat.sub_self]; rfl))
      · exact p.elim
    · exact p.elim
  · exact p.elim
/-- a // b -/
def divOk (i j : Int) : Bool := gd (j ≠ 0 ∧ Builtin.divisionGoesByPylong i j = false)
def CDivQ (i j : Int) : Prop := j ≠ 0 ∧ Builtin.divisionGoesByPylong i j = false
theorem op_fdivQ {X : Cx} : OpR X (binaryOp .FloorDiv) (rI CDivQ fun i j => .int (i.fdiv j)) := opI fun i j _ _ _ _ _ hc q => floordiv_int hc.1 q (.inl hc.2)
def oDiv : OF := oI fun i j => if divOk i j then some (.int (i.fdiv j)) else none
theorem oDiv_ok {K : PySem.W.Frag} : Op2 K (rI CDivQ fun i j => .int (i.fdiv j)) oDiv := oI_ok fun i j d e => by
  split at e
  · rename_i h
    cases e
    exact ⟨of_gd h, fun _ _ => .int _⟩
  · cases e
/-- a % b -/
def oMod : OF := oI fun i j => if gd (0 < j) then some (.int (i % j)) else none
theorem oMod_ok {K : PySem.W.Frag} : Op2 K (rI (fun _ j => 0 < j) fun i j => .int (i % j)) oMod := oI_ok fun i j d e => by
  split at e
  · rename_i h; cases e; exact ⟨of_gd h, fun _ _ => .int _⟩
  · cases e
/-- a ** b -/
def oPow : OF := oI fun i j => if gd (0 ≤ j ∧ j ≤ 1000000 ∧ i.natAbs < 2 ^ 64) then some (.int (i ^ j.toNat)) else none
theorem oPow_ok {K : PySem.W.Frag} : Op2 K (rI CPow fun i j => .int (i ^ j.toNat)) oPow := oI_ok fun i j d e => by
  split at e
  · rename_i h; cases e; exact ⟨of_gd h, fun _ _ => .int _⟩
  · cases e
/-! ### comparisons -/
def oLt : OF := oI fun i j => some (.bl (decide (i < j)))
def oLe : OF := oI fun i j => some (.bl (decide (i ≤ j)))
def oGt : OF := oI fun i j => some (.bl (decide (j < i)))
def oGe : OF := oI fun i j => some (.bl (decide (j ≤ i)))
theorem oLt_ok {K : PySem.W.Frag} : Op2 K (rI0 fun i j => .bl (decide (i < j))) oLt := oI_ok0 fun i j d e φ H => by cases e; exact .bl _
theorem oLe_ok {K : PySem.W.Frag} : Op2 K (rI0 fun i j => .bl (decide (i ≤ j))) oLe := oI_ok0 fun i j d e φ H => by cases e; exact .bl _
theorem oGt_ok {K : PySem.W.Frag} : Op2 K (rI0 fun i j => .bl (decide (j < i))) oGt := oI_ok0 fun i j d e φ H => by cases e; exact .bl _
theorem oGe_ok {K : PySem.W.Frag} : Op2 K (rI0 fun i j => .bl (decide (j ≤ i))) oGe := oI_ok0 fun i j d e φ H => by cases e; exact .bl _

/-- data by value, read to a depth -/
def pyOf : Nat → Sto → D → Option PyData
  | 0, _, _ => none
  | _ + 1, _, .non => some .none
  | _ + 1, _, .bl b => some (.bool b)
  | _ + 1, _, .int i => some (.int i)
  | _ + 1, _, .str s => some (.str s)
  | n + 1, S, .tup ds => (pyAll (pyOf n S) ds).map .tuple
  | n + 1, S, .ob k => match S[k]? with
    | some (.lst ds) => (pyAll (pyOf n S) ds).map .list
    | _ => none
  | _ + 1, _, .ro _ => none
  | _ + 1, _, .raw _ => none
where pyAll (f : D → Option PyData) : List D → Option (List PyData)
  | [] => some []
  | d :: r => match f d, pyAll f r with
    | some x, some xs => some (x :: xs)
    | _, _ => none
theorem pyAll_ok {K : PySem.W.Frag} {φ : List Addr} {H : Hp} {f : D → Option PyData} (hf : ∀ v d e, Rp K φ H v d → f d = some e → Dp K H v e) :
    ∀ (vs : List V) (ds : List D) (es : List PyData), Rps K φ H vs ds → pyOf.pyAll f ds = some es → DpAll K H vs es
  | _, _, es, .nil, h => by cases h; exact .nil
  | _, d :: r, es, .cons a b, h => by
    unfold pyOf.pyAll at h
    split at h
    · rename_i x xs h1 h2
      cases h
      exact .cons (hf _ _ _ a h1) (pyAll_ok hf _ _ _ b h2)
    · cases h
theorem pyOf_ok {K : PySem.W.Frag} {φ : List Addr} {H : Hp} {S : Sto} (s : Sr K φ S H) : ∀ (n : Nat) (v : V) (d : D) (e : PyData), Rp K φ H v d → pyOf n S d = some e → Dp K H v e
  | 0, _, _, _, _, h => by simp [pyOf] at h
  | n + 1, v, d, e, r, h => by
    have ih := pyOf_ok s n
    cases d with
    | non => cases r; simp [pyOf] at h; subst h; exact .non
    | bl b => cases r; simp [pyOf] at h; subst h; exact .bl b
    | int b => cases r; simp [pyOf] at h; subst h; exact .int b
    | str b => cases r; simp [pyOf] at h; subst h; exact .str b
    | tup ds =>
      simp only [pyOf, Option.map_eq_some_iff] at h
      obtain ⟨es, h1, rfl⟩ := h
      cases r with
      | tup t rs => exact .tup t (pyAll_ok (fun v d e a b => ih v d e a b) _ _ _ rs h1)
    | ob k =>
      simp only [pyOf] at h
      split at h
      · rename_i ds hk
        simp only [Option.map_eq_some_iff] at h
        obtain ⟨es, h1, rfl⟩ := h
        cases r with
        | ob hn =>
          obtain ⟨xs, g, rs⟩ := s.lst hn hk
          exact .lst (.of g) (pyAll_ok (fun v d e a b => ih v d e a b) _ _ _ rs h1)
      · cases h
    | ro ns => simp [pyOf] at h
    | raw w => simp [pyOf] at h
def oEqG (neg : Bool) : OF := fun a b S => match pyOf 40 S a, pyOf 40 S b with
  | some x, some y => if SeqAt.shaped x && SeqAt.shaped y then .ok (.bl (PyData.eqv x y != neg)) S else .no
  | _, _ => .no
def oEq : OF := oEqG false
def oNe : OF := oEqG true
theorem oEq_ok {K : PySem.W.Frag} : Op2 K (rEqD K) oEq := fun W φ S H σ x y a b Q s ra rb p => by
  unfold oEq oEqG at p
  split at p
  · rename_i u v h1 h2
    split at p
    · rename_i hz
      obtain ⟨z1, z2⟩ := Bool.and_eq_true_iff.mp hz
      refine ⟨u, v, pyOf_ok s 40 _ _ _ ra h1, pyOf_ok s 40 _ _ _ rb h2, z1, z2, ?_⟩
      have q := p φ H (.bl (PyData.eqv u v)) Ext.rfl' s (by rw [Bool.bne_false]; exact .bl _)
      exact q
    · exact p.elim
  · exact p.elim
theorem oNe_ok {K : PySem.W.Frag} : Op2 K (rNeD K) oNe := fun W φ S H σ x y a b Q s ra rb p => by
  unfold oNe oEqG at p
  split at p
  · rename_i u v h1 h2
    split at p
    · rename_i hz
      obtain ⟨z1, z2⟩ := Bool.and_eq_true_iff.mp hz
      refine ⟨u, v, pyOf_ok s 40 _ _ _ ra h1, pyOf_ok s 40 _ _ _ rb h2, z1, z2, ?_⟩
      have q := p φ H (.bl (!PyData.eqv u v)) Ext.rfl' s (by rw [Bool.bne_true]; exact .bl _)
      exact q
    · exact p.elim
  · exact p.elim
/-- is, is not: beside None, of two truths -/
def isNonD : D → Option Bool
  | .non => some true
  | .raw _ => none
  | _ => some false
def isBlD (y : Bool) : D → Option Bool
  | .raw _ => none
  | .bl x => some (decide (x = y))
  | _ => some false
def oIsG (neg : Bool) : OF := fun a b S => match b with
  | .non => match isNonD a with | some k => .ok (.bl (k != neg)) S | none => .no
  | .bl y => match isBlD y a with | some k => .ok (.bl (k != neg)) S | none => .no
  | _ => .no
def oIs : OF := oIsG false
def oIsnt : OF := oIsG true
theorem op_is_blx {X : Cx} : OpR X (compareOp .Is) (fun x y H Q => ∃ b, y = .bl b ∧ Q (.bl (decide (x = .bl b))) H) := by
  intro pins s σ H x y v u Q I rx ry h
  obtain ⟨b, rfl, q⟩ := h
  cases (show u = Value.bool b from ry)
  have key : ∀ v : Value, RelV x v → plainIs v (.bool b) = true ∧ (v == .bool b) = decide (x = .bl b) := by
    intro v rx
    cases x with
    | bl c => cases (show v = Value.bool c from rx); exact ⟨rfl, by cases c <;> cases b <;> rfl⟩
    | non => cases rx; exact ⟨rfl, by simp⟩
    | ref a => cases rx; exact ⟨rfl, by simp⟩
    | ty a => cases rx; exact ⟨rfl, by simp⟩
    | _ => obtain ⟨t, rfl⟩ := rx; exact ⟨rfl, by simp⟩
  obtain ⟨k1, k2⟩ := key v rx
  exact wpAny_is_plain k1 ⟨.bl _, H, I, by rw [k2]; rfl, q⟩
theorem op_isnot_blx {X : Cx} : OpR X (compareOp .IsNot) (fun x y H Q => ∃ b, y = .bl b ∧ Q (.bl (!decide (x = .bl b))) H) := by
  intro pins s σ H x y v u Q I rx ry h
  obtain ⟨b, rfl, q⟩ := h
  cases (show u = Value.bool b from ry)
  have key : ∀ v : Value, RelV x v → plainIs v (.bool b) = true ∧ (v == .bool b) = decide (x = .bl b) := by
    intro v rx
    cases x with
    | bl c => cases (show v = Value.bool c from rx); exact ⟨rfl, by cases c <;> cases b <;> rfl⟩
    | non => cases rx; exact ⟨rfl, by simp⟩
    | ref a => cases rx; exact ⟨rfl, by simp⟩
    | ty a => cases rx; exact ⟨rfl, by simp⟩
    | _ => obtain ⟨t, rfl⟩ := rx; exact ⟨rfl, by simp⟩
  obtain ⟨k1, k2⟩ := key v rx
  exact wpAny_isNot_plain k1 ⟨.bl _, H, I, by rw [k2]; rfl, q⟩
theorem isNonD_ok {K : PySem.W.Frag} {φ : List Addr} {H : Hp} {v : V} {d : D} {k : Bool} (r : Rp K φ H v d) (h : isNonD d = some k) : decide (v = .non) = k := by
  cases r <;> simp [isNonD] at h <;> subst h <;> simp
theorem isBlD_ok {K : PySem.W.Frag} {φ : List Addr} {H : Hp} {v : V} {d : D} {y : Bool} {k : Bool} (r : Rp K φ H v d) (h : isBlD y d = some k) : decide (v = .bl y) = k := by
  cases r <;> simp [isBlD] at h <;> subst h <;> simp
abbrev rIsAll : R2 := fun x y H Q => (fun x y H Q => y = .non ∧ Q (.bl (decide (x = .non))) H) x y H Q ∨ (fun x y H Q => ∃ b, y = .bl b ∧ Q (.bl (decide (x = .bl b))) H) x y H Q
abbrev rIsntAll : R2 := fun x y H Q => (fun x y H Q => y = .non ∧ Q (.bl (!decide (x = .non))) H) x y H Q ∨ (fun x y H Q => ∃ b, y = .bl b ∧ Q (.bl (!decide (x = .bl b))) H) x y H Q
theorem op_isAll {X : Cx} : OpR X (compareOp .Is) rIsAll := OpR.or op_isN op_is_blx
theorem op_isntAll {X : Cx} : OpR X (compareOp .IsNot) rIsntAll := OpR.or op_notN op_isnot_blx
theorem oIs_ok {K : PySem.W.Frag} : Op2 K rIsAll oIs := fun W φ S H σ x y a b Q s ra rb p => by
  unfold oIs oIsG at p
  split at p
  · split at p
    · rename_i k hk
      cases rb
      refine .inl ⟨rfl, ?_⟩
      rw [isNonD_ok ra hk]
      exact p φ H _ Ext.rfl' s (by rw [Bool.bne_false]; exact .bl _)
    · exact p.elim
  · split at p
    · rename_i k hk
      cases rb
      refine .inr ⟨_, rfl, ?_⟩
      rw [isBlD_ok ra hk]
      exact p φ H _ Ext.rfl' s (by rw [Bool.bne_false]; exact .bl _)
    · exact p.elim
  · exact p.elim
theorem oIsnt_ok {K : PySem.W.Frag} : Op2 K rIsntAll oIsnt := fun W φ S H σ x y a b Q s ra rb p => by
  unfold oIsnt oIsG at p
  split at p
  · split at p
    · rename_i k hk
      cases rb
      refine .inl ⟨rfl, ?_⟩
      rw [isNonD_ok ra hk]
      exact p φ H _ Ext.rfl' s (by rw [Bool.bne_true]; exact .bl _)
    · exact p.elim
  · split at p
    · rename_i k hk
      cases rb
      refine .inr ⟨_, rfl, ?_⟩
      rw [isBlD_ok ra hk]
      exact p φ H _ Ext.rfl' s (by rw [Bool.bne_true]; exact .bl _)
    · exact p.elim
  · exact p.elim
end DL
set_option Elab.async false
set_option linter.all false
set_option maxRecDepth 100000
noncomputable section
namespace DL
open PySem PySem.Spec PyProof.Rows L2

/-! ### truth, and, or, not -/
def truD : D → Sto → Option Bool
  | .non, _ => some false
  | .bl b, _ => some b
  | .int i, _ => some (i != 0)
  | .str s, _ => if szOk s.length then some ((s.length : Int) != 0) else none
  | .tup xs, _ => some (!xs.isEmpty)
  | .ob n, S => match S[n]? with
    | some (.lst xs) => some (!xs.isEmpty)
    | some (.dic kvs) => some (!kvs.isEmpty)
    | none => none
  | _, _ => none
theorem Rps.isEmpty {K : PySem.W.Frag} {φ : List Addr} {H : Hp} : ∀ {vs : List V} {ds : List D}, Rps K φ H vs ds → vs.isEmpty = ds.isEmpty
  | _, _, .nil => rfl
  | _, _, .cons _ _ => rfl
theorem truD_ok {K : PySem.W.Frag} {φ : List Addr} {H : Hp} {S : Sto} {v : V} {d : D} {k : Bool} (s : Sr K φ S H) (r : Rp K φ H v d) (h : truD d S = some k) : TruV K v H k := by
  cases d with
  | non => cases r; simp [truD] at h; exact h
  | bl b => cases r; simp [truD] at h; exact h.symm
  | int i => cases r; simp [truD] at h; exact h.symm
  | str x =>
    cases r
    simp only [truD] at h
    split at h
    · rename_i hz; cases h; exact ⟨szOk.le hz, rfl⟩
    · cases h
  | tup xs =>
    cases r with
    | tup t rs =>
      simp only [truD] at h
      cases h
      exact .inr (.inl ⟨_, t, by rw [rs.isEmpty]⟩)
  | ob n =>
    cases r with
    | ob hn =>
      simp only [truD] at h
      split at h
      · rename_i xs e
        cases h
        obtain ⟨us, g, rs⟩ := s.lst hn e
        exact .inl ⟨_, .of g, by rw [rs.isEmpty]⟩
      · rename_i kvs e
        cases h
        obtain ⟨b, h1, ws, g, k1, rs⟩ := s.at' n _ e
        rw [hn] at h1; cases h1
        refine .inr (.inr ⟨_, g, ?_⟩)
        have := rs.isEmpty
        simpa using this.symm
      · cases h
  | ro ns => simp [truD] at h
  | raw w => simp [truD] at h
def eOr (a b : EF) : EF := fun ρ S => (a ρ S).bind fun d S1 => match truD d S1 with
  | some true => .ok d S1
  | some false => b ρ S1
  | none => .no
def eAnd (a b : EF) : EF := fun ρ S => (a ρ S).bind fun d S1 => match truD d S1 with
  | some true => b ρ S1
  | some false => .ok d S1
  | none => .no
def eNot (a : EF) : EF := fun ρ S => (a ρ S).bind fun d S1 => match truD d S1 with
  | some k => .ok (.bl (!k)) S1
  | none => .no
def tTru (a : EF) : TF := fun ρ S => (a ρ S).bind fun d S1 => match truD d S1 with
  | some k => .ok k S1
  | none => .no
def bAnd (a b : TF) : TF := fun ρ S => (a ρ S).bind fun k S1 => if k = true then b ρ S1 else .ok false S1
def bOr (a b : TF) : TF := fun ρ S => (a ρ S).bind fun k S1 => if k = true then .ok true S1 else b ρ S1
def bNot (a : TF) : TF := fun ρ S => (a ρ S).bind fun k S1 => .ok (!k) S1
def eIf (c : TF) (a b : EF) : EF := fun ρ S => (c ρ S).bind fun k S1 => if k = true then a ρ S1 else b ρ S1
section
variable {X : Cx} {W : WX} {a b c : Expr} {fa fb fc : EF} {ga gb : TF} {rest : List Expr} {pos : Pos}
theorem de_one {op : BoolOp} (h : DE X W a fa) : DE X W (.BoolOp op [a] pos) fa := pe_one h
theorem de_or (ha : DE X W a fa) (hb : DE X W (.BoolOp .Or (b :: rest) pos) fb) : DE X W (.BoolOp .Or (a :: b :: rest) pos) (eOr fa fb) :=
  pe_wk (pe_orT ha hb) fun σ H Q ⟨φ, ρ, S, er, sr, p⟩ => (lf.bind er sr p).imp fun x H1 ⟨φ1, S1, d, e1, sr1, r1, p1⟩ => by
    split at p1
    · rename_i hk
      refine ⟨true, truD_ok sr1 r1 hk, ?_⟩
      rw [if_pos rfl]
      exact p1 φ1 H1 x Ext.rfl' sr1 r1
    · rename_i hk
      refine ⟨false, truD_ok sr1 r1 hk, ?_⟩
      rw [if_neg Bool.false_ne_true]
      exact ⟨φ1, ρ, S1, er.mono e1, sr1, p1⟩
    · exact p1.elim
theorem de_and (ha : DE X W a fa) (hb : DE X W (.BoolOp .And (b :: rest) pos) fb) : DE X W (.BoolOp .And (a :: b :: rest) pos) (eAnd fa fb) :=
  pe_wk (pe_andT ha hb) fun σ H Q ⟨φ, ρ, S, er, sr, p⟩ => (lf.bind er sr p).imp fun x H1 ⟨φ1, S1, d, e1, sr1, r1, p1⟩ => by
    split at p1
    · rename_i hk
      refine ⟨true, truD_ok sr1 r1 hk, ?_⟩
      rw [if_pos rfl]
      exact ⟨φ1, ρ, S1, er.mono e1, sr1, p1⟩
    · rename_i hk
      refine ⟨false, truD_ok sr1 r1 hk, ?_⟩
      rw [if_neg Bool.false_ne_true]
      exact p1 φ1 H1 x Ext.rfl' sr1 r1
    · exact p1.elim
theorem de_not (ha : DE X W a fa) : DE X W (.UnaryOp .Not a pos) (eNot fa) :=
  pe_wk (pe_notT ha) fun σ H Q ⟨φ, ρ, S, er, sr, p⟩ => (lf.bind er sr p).imp fun x H1 ⟨φ1, S1, d, e1, sr1, r1, p1⟩ => by
    split at p1
    · rename_i k hk
      exact ⟨k, truD_ok sr1 r1 hk, p1 φ1 H1 _ Ext.rfl' sr1 (.bl _)⟩
    · exact p1.elim
theorem dt_val (ha : DE X W a fa) (he : ∀ whole, isTrue a X.env whole = (do let v ← whole; standAt a.pos; holding [v] (truthy v)) := by intro _; rfl) : DT X W a (tTru fa) :=
  pt_wk (pt_truth ha he) fun σ H Q ⟨φ, ρ, S, er, sr, p⟩ => (lf.bind er sr p).imp fun x H1 ⟨φ1, S1, d, e1, sr1, r1, p1⟩ => by
    split at p1
    · rename_i k hk
      exact ⟨k, truD_ok sr1 r1 hk, p1 φ1 H1 _ Ext.rfl' sr1 rfl⟩
    · exact p1.elim
theorem dt_cmp {op : CmpOp} {r : R2} {o : OF} (ho : OpR X (compareOp op) r) (hr : Op2 X.K r o) (hb' : ∀ a b S d S', o a b S = .ok d S' → ∃ k, d = .bl k) (ha : DE X W a fa) (hb : DE X W b fb)
    (hm : behindInMarks op b = false := by first | exact nomark _ | rfl) : DT X W (.Compare a [op] [b] pos) (tTru (eOp o fa fb)) :=
  pt_wk (pt_cmpR ho ha hb hm) fun σ H Q z => by
    refine tOp_of hr σ H _ ?_
    obtain ⟨φ, ρ, S, er, sr, p⟩ := z
    refine ⟨φ, ρ, S, er, sr, ?_⟩
    unfold tTru at p
    cases e : eOp o fa fb ρ S with
    | ok d S1 =>
      rw [e] at p
      intro φ' H' x e' s' r'
      have hk : ∃ k, d = .bl k := by
        unfold eOp at e
        cases e1 : fa ρ S with
        | ok d1 S2 =>
          rw [e1] at e
          simp only [Res.bind] at e
          cases e2 : fb ρ S2 with
          | ok d2 S3 => rw [e2] at e; exact hb' _ _ _ _ _ e
          | ex _ _ => rw [e2] at e; cases e
          | no => rw [e2] at e; cases e
        | ex _ _ => rw [e1] at e; cases e
        | no => rw [e1] at e; cases e
      obtain ⟨k, rfl⟩ := hk
      cases r'
      exact ⟨k, rfl, p φ' H' k e' s' rfl⟩
    | ex c S1 => rw [e] at p; exact p
    | no => rw [e] at p; exact p
theorem dt_not (ha : DT X W a ga) : DT X W (.UnaryOp .Not a pos) (bNot ga) :=
  pt_wk (pt_not ha) fun σ H Q ⟨φ, ρ, S, er, sr, p⟩ => (lf.bind er sr p).imp fun x H1 ⟨φ1, S1, d, e1, sr1, r1, p1⟩ => by
    cases r1
    exact p1 φ1 H1 _ Ext.rfl' sr1 rfl
def DW (X : Cx) (W : WX) (e : Expr) (f : TF) : Prop := PW X e (lT X.K W f)
theorem pw_wk {X : Cx} {e : Expr} {t t' : TT} (h : PW X e t) (q : ∀ σ H Q, t' σ H Q → t σ H Q) : PW X e t' := ⟨fun whole pins s σ H Q I z => h.run whole pins s σ H Q I (q σ H Q z)⟩
theorem dw_and1 (ha : DT X W a ga) : DW X W (.BoolOp .And [a] pos) ga := pw_and1 ha
theorem dw_or1 (ha : DT X W a ga) : DW X W (.BoolOp .Or [a] pos) ga := pw_or1 ha
theorem dw_and (ha : DT X W a ga) (hb : DW X W (.BoolOp .And (b :: rest) pos) gb) : DW X W (.BoolOp .And (a :: b :: rest) pos) (bAnd ga gb) :=
  pw_wk (pw_and ha hb) fun σ H Q ⟨φ, ρ, S, er, sr, p⟩ => (lf.bind er sr p).imp fun x H1 ⟨φ1, S1, d, e1, sr1, r1, p1⟩ => by
    cases r1
    split
    · rename_i h; rw [if_pos h] at p1; exact ⟨φ1, ρ, S1, er.mono e1, sr1, p1⟩
    · rename_i h; rw [if_neg h] at p1; exact p1 φ1 H1 _ Ext.rfl' sr1 rfl
theorem dw_or (ha : DT X W a ga) (hb : DW X W (.BoolOp .Or (b :: rest) pos) gb) : DW X W (.BoolOp .Or (a :: b :: rest) pos) (bOr ga gb) :=
  pw_wk (pw_or ha hb) fun σ H Q ⟨φ, ρ, S, er, sr, p⟩ => (lf.bind er sr p).imp fun x H1 ⟨φ1, S1, d, e1, sr1, r1, p1⟩ => by
    cases r1
    split
    · rename_i h; rw [if_pos h] at p1; exact p1 φ1 H1 _ Ext.rfl' sr1 rfl
    · rename_i h; rw [if_neg h] at p1; exact ⟨φ1, ρ, S1, er.mono e1, sr1, p1⟩
theorem dt_w (h : DW X W a ga) : DT X W a ga := PW.pt h
theorem de_if (hc : DT X W c ga) (ha : DE X W a fa) (hb : DE X W b fb) : DE X W (.IfExp c a b pos) (eIf ga fa fb) :=
  pe_wk (pe_ifExp hc ha hb) fun σ H Q ⟨φ, ρ, S, er, sr, p⟩ => (lf.bind er sr p).imp fun x H1 ⟨φ1, S1, d, e1, sr1, r1, p1⟩ => by
    cases r1
    split
    · rename_i h; rw [if_pos h] at p1; exact ⟨φ1, ρ, S1, er.mono e1, sr1, p1⟩
    · rename_i h; rw [if_neg h] at p1; exact ⟨φ1, ρ, S1, er.mono e1, sr1, p1⟩
/-- a op b op' c -/
def eChain (o o' : OF) (fa fb fc : EF) : EF := fun ρ S => (fa ρ S).bind fun x S1 => (fb ρ S1).bind fun y S2 => (o x y S2).bind fun z S3 => match z with
  | .bl true => (fc ρ S3).bind fun w S4 => o' y w S4
  | .bl false => .ok (.bl false) S3
  | _ => .no
theorem de_chain {op op' : CmpOp} {r r' : R2} {o o' : OF} (ho : OpR X (compareOp op) r) (hr : Op2 X.K r o) (ho' : OpR X (compareOp op') r') (hr' : Op2 X.K r' o') (ha : DE X W a fa) (hb : DE X W b fb) (hc : DE X W c fc)
    (h1 : PE X (.Compare a [op, op'] [b, c] pos) (tChain r r' (lE X.K W fa) (lE X.K W fb) (lE X.K W fc))) : DE X W (.Compare a [op, op'] [b, c] pos) (eChain o o' fa fb fc) :=
  pe_wk h1 fun σ H Q ⟨φ, ρ, S, er, sr, p⟩ => (lf.bind er sr p).imp fun x H1 ⟨φ1, S1, d, e1, sr1, r1, p1⟩ => (lf.bind (er.mono e1) sr1 p1).imp fun y H2 ⟨φ2, S2, d2, e2, sr2, r2, p2⟩ => by
    refine hr W φ2 S2 H2 σ x y d d2 _ sr2 (r1.mono e2) r2 ?_
    cases e : o d d2 S2 with
    | ok z S3 =>
      rw [e] at p2
      intro φ' H' zv e' s' rz
      simp only [Res.bind] at p2
      split at p2
      · cases rz
        refine ⟨true, rfl, ?_⟩
        rw [if_pos rfl]
        exact (lf.bind (((er.mono e1).mono e2).mono e') s' (p2.mono e')).imp fun w H4 ⟨φ4, S4, d4, e4, sr4, r4, p4⟩ =>
          hr' W φ4 S4 H4 σ y w d2 d4 Q sr4 ((r2.mono e').mono e4) r4 p4
      · cases rz
        refine ⟨false, rfl, ?_⟩
        rw [if_neg Bool.false_ne_true]
        exact p2 φ' H' _ e' s' (.bl _)
      · exact p2.elim
    | ex c S3 => rw [e] at p2; exact p2
    | no => rw [e] at p2; exact p2
end
theorem oI_bl {g : Int → Int → Option D} (h : ∀ i j d, g i j = some d → ∃ k, d = .bl k) : ∀ a b S d S', oI g a b S = .ok d S' → ∃ k, d = .bl k := fun a b S d S' e => by
  unfold oI at e
  split at e
  · split at e
    · rename_i h1; cases e; exact h _ _ _ h1
    · cases e
  · cases e
theorem oLt_bl : ∀ a b S d S', oLt a b S = .ok d S' → ∃ k, d = .bl k := oI_bl fun _ _ _ e => by cases e; exact ⟨_, rfl⟩
theorem oLe_bl : ∀ a b S d S', oLe a b S = .ok d S' → ∃ k, d = .bl k := oI_bl fun _ _ _ e => by cases e; exact ⟨_, rfl⟩
theorem oGt_bl : ∀ a b S d S', oGt a b S = .ok d S' → ∃ k, d = .bl k := oI_bl fun _ _ _ e => by cases e; exact ⟨_, rfl⟩
theorem oGe_bl : ∀ a b S d S', oGe a b S = .ok d S' → ∃ k, d = .bl k := oI_bl fun _ _ _ e => by cases e; exact ⟨_, rfl⟩
theorem oEqG_bl {n : Bool} : ∀ a b S d S', oEqG n a b S = .ok d S' → ∃ k, d = .bl k := fun a b S d S' e => by
  unfold oEqG at e
  split at e
  · split at e
    · cases e; exact ⟨_, rfl⟩
    · cases e
  · cases e
theorem oIsG_bl {n : Bool} : ∀ a b S d S', oIsG n a b S = .ok d S' → ∃ k, d = .bl k := fun a b S d S' e => by
  unfold oIsG at e
  split at e
  · split at e
    · cases e; exact ⟨_, rfl⟩
    · cases e
  · split at e
    · cases e; exact ⟨_, rfl⟩
    · cases e
  · cases e

/-! ### displays -/
def aNil : AF := fun _ S => .ok [] S
def aCons (a : EF) (r : AF) : AF := fun ρ S => (a ρ S).bind fun x S1 => (r ρ S1).bind fun xs S2 => .ok (x :: xs) S2
def eTup (a : AF) : EF := fun ρ S => (a ρ S).bind fun ds S1 => if szOk ds.length then .ok (.tup ds) S1 else .no
def eLst (a : AF) : EF := fun ρ S => (a ρ S).bind fun ds S1 => if szOk ds.length then .ok (.ob S1.length) (S1 ++ [.lst ds]) else .no
theorem at_snoc {φ : List Addr} {S : Sto} {K : PySem.W.Frag} {H : Hp} (s : Sr K φ S H) (q : Addr) : (φ ++ [q])[S.length]? = some q := by
  rw [List.getElem?_append_right (by rw [s.len]; exact Nat.le_refl _), s.len, Nat.sub_self]; rfl
section
variable {X : Cx} {W : WX} {e : Expr} {es : List Expr} {fa : EF} {ga : AF} {pos : Pos}
theorem da_nil : DA X W [] aNil := pa_wk pa_nil fun σ H Q ⟨φ, ρ, S, er, sr, p⟩ => p φ H [] Ext.rfl' sr .nil
theorem tCons_of : ∀ σ H Q, lA X.K W (aCons fa ga) σ H Q → tCons (lE X.K W fa) (lA X.K W ga) σ H Q := fun σ H Q ⟨φ, ρ, S, er, sr, p⟩ =>
  (lf.bind er sr p).imp fun x H1 ⟨φ1, S1, d, e1, sr1, r1, p1⟩ => (lf.bind (er.mono e1) sr1 p1).imp fun xs H2 ⟨φ2, S2, ds, e2, sr2, r2, p2⟩ =>
    p2 φ2 H2 _ Ext.rfl' sr2 (.cons (r1.mono e2) r2)
theorem da_cons (h : PA X (e :: es) (tCons (lE X.K W fa) (lA X.K W ga))) : DA X W (e :: es) (aCons fa ga) := pa_wk h tCons_of
theorem de_tup {k : Nat} (h : PE X (.Tuple es k pos) (tTup (lA X.K W ga))) : DE X W (.Tuple es k pos) (eTup ga) :=
  pe_wk h fun σ H Q ⟨φ, ρ, S, er, sr, p⟩ => (lf.bind er sr p).imp fun xs H1 ⟨φ1, S1, ds, e1, sr1, r1, p1⟩ => by
    split at p1
    · rename_i hz
      refine ⟨by rw [r1.length]; exact szOk.le hz, fun q hq => ?_⟩
      exact p1 φ1 _ _ (Ext.new hq) (sr1.new hq) (.tup (.of upd_same) (r1.mono (Ext.new hq)))
    · exact p1.elim
theorem de_lst (h : PE X (.List es pos) (tLst (lA X.K W ga))) : DE X W (.List es pos) (eLst ga) :=
  pe_wk h fun σ H Q ⟨φ, ρ, S, er, sr, p⟩ => (lf.bind er sr p).imp fun xs H1 ⟨φ1, S1, ds, e1, sr1, r1, p1⟩ => by
    split at p1
    · rename_i hz
      refine ⟨by rw [r1.length]; exact szOk.le hz, fun q hq => ?_⟩
      have e := Ext.newSnoc (φ := φ1) (o := .lst xs) hq
      exact p1 _ _ _ e (sr1.snoc hq ⟨_, upd_same, r1.mono e⟩) (.ob (at_snoc sr1 q))
    · exact p1.elim
end

/-! ### subscripts, slices -/
def oIx : OF
  | .tup xs, .int i, S => match atI xs i with | some d => .ok d S | none => .no
  | .ob n, .int i, S => match S[n]? with
    | some (.lst xs) => match atI xs i with | some d => .ok d S | none => .no
    | _ => .no
  | .str z, .int i, S => if szOk z.length then match atI z.cps.toList i with | some c => .ok (.str ⟨#[c]⟩) S | none => .no else .no
  | _, _, _ => .no
theorem Rps.atI {K : PySem.W.Frag} {φ : List Addr} {H : Hp} {vs : List V} {ds : List D} {i : Int} {d : D} (r : Rps K φ H vs ds) (h : L2.atI ds i = some d) : ∃ v, L2.atI vs i = some v ∧ Rp K φ H v d := by
  unfold L2.atI at h ⊢
  rw [r.length]
  cases e : ixN ds.length i with
  | none => rw [e] at h; cases h
  | some j =>
    rw [e] at h
    exact r.get h
theorem oIx_ok {K : PySem.W.Frag} : Op2 K (rIx K) oIx := fun W φ S H σ x y a b Q s ra rb p => by
  unfold oIx at p
  split at p
  · split at p
    · rename_i d e
      cases rb
      cases ra with
      | tup t rs =>
        obtain ⟨v, h1, r1⟩ := rs.atI e
        exact .inr (.inl ⟨_, _, _, v, rfl, rfl, t, h1, p φ H v Ext.rfl' s r1⟩)
    · exact p.elim
  · split at p
    · rename_i xs e0
      split at p
      · rename_i d e
        cases rb
        cases ra with
        | ob hn =>
          obtain ⟨us, g, rs⟩ := s.lst hn e0
          obtain ⟨v, h1, r1⟩ := rs.atI e
          exact .inl ⟨_, _, _, v, rfl, rfl, .of g, h1, p φ H v Ext.rfl' s r1⟩
      · exact p.elim
    · exact p.elim
  · split at p
    · rename_i hz
      split at p
      · rename_i c e
        cases ra; cases rb
        exact .inr (.inr ⟨_, _, c, rfl, rfl, szOk.le hz, e, p φ H _ Ext.rfl' s (.str _)⟩)
      · exact p.elim
    · exact p.elim
  · exact p.elim
theorem de_ix {X : Cx} {W : WX} {a b : Expr} {fa fb : EF} {pos : Pos} (ha : DE X W a fa) (hb : DE X W b fb) (hs : PlainIx b := by intro _ _; rfl) : DE X W (.Subscript a b pos) (eOp oIx fa fb) :=
  pe_wk (pe_ix ix_seq ha hb hs) (tOp_of oIx_ok)
/-- a slice's part -/
abbrev PF := Lc → Sto → Res (Option Int)
abbrev RO : Rl (Option Int) (Option Int) := fun _ _ x a => x = a
def pNo : PF := fun _ S => .ok none S
def pAt (a : EF) : PF := fun ρ S => (a ρ S).bind fun d S1 => match d with | .int i => .ok (some i) S1 | _ => .no
def DO (X : Cx) (W : WX) (e : Option Expr) (f : PF) : Prop := PO X e (lf RO X.K W f)
theorem po_wk {X : Cx} {e : Option Expr} {t t' : TO} (h : PO X e t) (q : ∀ σ H Q, t' σ H Q → t σ H Q) : PO X e t' := ⟨fun pins s σ H Q I z => h.run pins s σ H Q I (q σ H Q z)⟩
theorem do_no {X : Cx} {W : WX} : DO X W none pNo := po_wk po_none fun σ H Q ⟨φ, ρ, S, er, sr, p⟩ => p φ H none Ext.rfl' sr rfl
theorem do_at {X : Cx} {W : WX} {e : Expr} {fa : EF} (h : DE X W e fa) : DO X W (some e) (pAt fa) := po_wk (po_some h) fun σ H Q ⟨φ, ρ, S, er, sr, p⟩ =>
  (lf.bind er sr p).imp fun x H1 ⟨φ1, S1, d, e1, sr1, r1, p1⟩ => by
    split at p1
    · cases r1
      exact ⟨_, rfl, p1 φ1 H1 _ Ext.rfl' sr1 rfl⟩
    · exact p1.elim
def cutD {α : Type} (xs : List α) (lo hi : Option Int) : List α := (xs.drop (HT.sIx xs.length 0 lo)).take (HT.sIx xs.length xs.length hi - HT.sIx xs.length 0 lo)
theorem Rps.cut {K : PySem.W.Frag} {φ : List Addr} {H : Hp} {vs : List V} {ds : List D} (r : Rps K φ H vs ds) (lo hi : Option Int) : Rps K φ H (cutV vs lo hi) (cutD ds lo hi) := by
  unfold cutV cutD
  rw [r.length]
  exact (r.drop _).take _
def oSl (d : D) (lo hi : Option Int) (S : Sto) : Res D := match d with
  | .tup xs => .ok (.tup (cutD xs lo hi)) S
  | .ob n => match S[n]? with
    | some (.lst xs) => .ok (.ob S.length) (S ++ [.lst (cutD xs lo hi)])
    | _ => .no
  | .str z => if szOk z.length then .ok (.str (cutS z lo hi)) S else .no
  | _ => .no
def eSl (a : EF) (lo hi : PF) : EF := fun ρ S => (a ρ S).bind fun d S1 => (lo ρ S1).bind fun l S2 => (hi ρ S2).bind fun u S3 => oSl d l u S3
abbrev rSlAll (K : PySem.W.Frag) : V → Option Int → Option Int → Hp → VK → Prop := fun x lo hi H Q => rSlA K x lo hi H Q ∨ (fun x lo hi H Q => rSlL K x lo hi H Q ∨ rSlS x lo hi H Q) x lo hi H Q
theorem sl_all {X : Cx} : SlR X (rSlAll X.K) := SlR.or sl_tupA (SlR.or sl_list sl_str)
theorem cutV_whole (xs : List V) (lo hi : Option Int) (h : HT.sIx xs.length 0 lo = 0 ∧ HT.sIx xs.length xs.length hi = xs.length) : cutV xs lo hi = xs := by
  unfold cutV
  rw [h.1, h.2, List.drop_zero, Nat.sub_zero, List.take_length]
theorem oSl_ok {K : PySem.W.Frag} {W : WX} {φ : List Addr} {S : Sto} {H : Hp} {σ : L2.St} {x : V} {d : D} {lo hi : Option Int} {Q : VK} (s : Sr K φ S H) (r : Rp K φ H x d) (p : post (Rp K) K W φ H σ Q (oSl d lo hi S)) : rSlAll K x lo hi H Q := by
  unfold oSl at p
  split at p
  · cases r with
    | tup t rs =>
      refine .inl ⟨_, _, rfl, t, fun h => ?_, fun _ q hq => ?_⟩
      · have rc := rs.cut lo hi
        rw [cutV_whole _ _ _ h] at rc
        exact p φ H _ Ext.rfl' s (.tup t rc)
      · exact p φ _ _ (Ext.new hq) (s.new hq) (.tup (.of upd_same) ((rs.cut lo hi).mono (Ext.new hq)))
  · split at p
    · rename_i xs e0
      cases r with
      | ob hn =>
        obtain ⟨us, g, rs⟩ := s.lst hn e0
        refine .inr (.inl ⟨_, _, rfl, .of g, fun q hq => ?_⟩)
        have e := Ext.newSnoc (φ := φ) (o := .lst (cutV us lo hi)) hq
        exact p _ _ _ e (s.snoc hq ⟨_, upd_same, (rs.cut lo hi).mono e⟩) (.ob (at_snoc s q))
    · exact p.elim
  · split at p
    · rename_i hz
      cases r
      exact .inr (.inr ⟨_, rfl, szOk.le hz, p φ H _ Ext.rfl' s (.str _)⟩)
    · exact p.elim
  · exact p.elim
theorem de_sl {X : Cx} {W : WX} {a : Expr} {lo hi : Option Expr} {fa : EF} {fl fh : PF} {p2 pos : Pos} (ha : DE X W a fa) (hl : DO X W lo fl) (hh : DO X W hi fh) : DE X W (.Subscript a (.Slice lo hi none p2) pos) (eSl fa fl fh) :=
  pe_wk (pe_slice sl_all ha hl hh) fun σ H Q ⟨φ, ρ, S, er, sr, p⟩ => (lf.bind er sr p).imp fun x H1 ⟨φ1, S1, d, e1, sr1, r1, p1⟩ =>
    (lf.bind (er.mono e1) sr1 p1).imp fun l H2 ⟨φ2, S2, l', e2, sr2, r2, p2⟩ => (lf.bind ((er.mono e1).mono e2) sr2 p2).imp fun u H3 ⟨φ3, S3, u', e3, sr3, r3, p3⟩ => by
      cases r2; cases r3
      exact oSl_ok sr3 ((r1.mono e2).mono e3) p3

/-! ### calls -/
abbrev FF := List D → Sto → Res D
def Res.noex {α : Type} : Res α → Res α
  | .ex _ _ => .no
  | r => r
abbrev wF : WX := fun _ _ _ _ => False
/-- the promise of a def from which no exception leaves -/
def spF (K : PySem.W.Frag) (n : Nat) (F : FF) : Sp := fun vs H Q _ => vs.length = n ∧ ∃ φ ds S, Rps K φ H vs ds ∧ Sr K φ S H ∧ post (Rp K) K wF φ H [] Q (F ds S)
def eCall (F : FF) (a : AF) : EF := fun ρ S => (a ρ S).bind fun ds S1 => (F ds S1).noex
theorem post.noex {K : PySem.W.Frag} {W : WX} {φ : List Addr} {H : Hp} {σ : L2.St} {Q : VK} : ∀ {r : Res D}, post (Rp K) K W φ H σ Q r.noex → ∀ W' σ', post (Rp K) K W' φ H σ' Q r
  | .ok _ _, h, _, _ => h
  | .ex _ _, h, _, _ => h.elim
  | .no, h, _, _ => h
theorem tCall_of {K : PySem.W.Frag} {W : WX} {n : Nat} {F : FF} {ga : AF} (hl : ∀ ρ S ds S', ga ρ S = .ok ds S' → ds.length = n) : ∀ σ H Q, lE K W (eCall F ga) σ H Q → tCall (spF K n F) [] E0 (lA K W ga) σ H Q := fun σ H Q ⟨φ, ρ, S, er, sr, p⟩ => by
  have h2 : lA K W ga σ H fun vs H1 => (∃ φ1 S1 ds, Ext φ H φ1 H1 ∧ Sr K φ1 S1 H1 ∧ Rps K φ1 H1 vs ds ∧ post (Rp K) K W φ1 H1 σ Q (F ds S1).noex ∧ ds.length = n) := by
    refine ⟨φ, ρ, S, er, sr, ?_⟩
    unfold eCall at p
    cases e : ga ρ S with
    | ok ds S1 =>
      rw [e] at p
      exact fun φ' H' x e' s r => ⟨φ', S1, ds, e', s, r, post.mono e' p, hl _ _ _ _ e⟩
    | ex c S1 => rw [e] at p; exact p
    | no => rw [e] at p; exact p
  refine lf.imp (fun vs H1 h => ?_) h2
  obtain ⟨φ1, S1, ds, e1, sr1, r1, p1, l1⟩ := h
  show spF K n F (vs ++ []) H1 Q E0
  rw [List.append_nil]
  exact ⟨by rw [r1.length, l1], φ1, ds, S1, r1, sr1, p1.noex wF []⟩
/-- how many arguments are written -/
def aLen (ga : AF) (n : Nat) : Prop := ∀ ρ S ds S', ga ρ S = .ok ds S' → ds.length = n
theorem aLen_nil : aLen aNil 0 := fun _ _ _ _ e => by cases e; rfl
theorem aLen_cons {fa : EF} {ga : AF} {n : Nat} (h : aLen ga n) : aLen (aCons fa ga) (n + 1) := fun ρ S ds S' e => by
  unfold aCons at e
  cases e1 : fa ρ S with
  | ok d S1 =>
    rw [e1] at e
    simp only [Res.bind] at e
    cases e2 : ga ρ S1 with
    | ok ds2 S2 =>
      rw [e2] at e
      cases e
      exact congrArg (· + 1) (h _ _ _ _ e2)
    | ex _ _ => rw [e2] at e; cases e
    | no => rw [e2] at e; cases e
  | ex _ _ => rw [e1] at e; cases e
  | no => rw [e1] at e; cases e
theorem de_call {X : Cx} {W : WX} {k n : Nat} {f : Addr} {fd : FuncData} {ps : List Str} {F : FF} {x : Str} {p pos : Pos} {e : Expr} {es : List Expr} {ga : AF}
    (G : FnOk X.prog X.w X.K X.mg X.base CX0 k f fd ps (spF X.K n F)) (hr : Room k X.A) (hg : Gl X x) (hm : X.mg x = some (.ref f)) (hk : PySem.W.keepIn X.K (.ref f) = true) (hb : Binds X.K fd ps [])
    (ha : DA X W (e :: es) ga) (hl : aLen ga n) (hdb : (x == ("__debug__" : Str)) = false := by decide)
    (he : starEach (e :: es) X.env = (false, eval e X.env) :: starEach es X.env := by rfl) (hpl : (backTo pos (starEach es X.env)).any (·.1) = false := by rfl) :
    DE X W (.Call (.Name x p) (e :: es) [] pos) (eCall F ga) :=
  pe_wk (pe_call G hr hg hm hk hb .nil pass0 ha hdb he hpl) (tCall_of hl)
/-- built-in functions by values -/
def Cal (K : PySem.W.Frag) (r : List V → Hp → VK → Prop) (c : FF) : Prop := ∀ (W : WX) (φ : List Addr) (S : Sto) (H : Hp) (σ : L2.St) (xs : List V) (ds : List D) (Q : VK), Sr K φ S H → Rps K φ H xs ds → post (Rp K) K W φ H σ Q (c ds S) → r xs H Q
def eB (c : FF) (a : AF) : EF := fun ρ S => (a ρ S).bind fun ds S1 => c ds S1
theorem tCB_of {K : PySem.W.Frag} {W : WX} {r : List V → Hp → VK → Prop} {c : FF} {ga : AF} (hc : Cal K r c) : ∀ σ H Q, lE K W (eB c ga) σ H Q → tCB r (lA K W ga) σ H Q := fun σ H Q ⟨φ, ρ, S, er, sr, p⟩ =>
  (lf.bind er sr p).imp fun xs H1 ⟨φ1, S1, ds, e1, sr1, r1, p1⟩ => hc W φ1 S1 H1 σ xs ds Q sr1 r1 p1
end DL
set_option Elab.async false
set_option linter.all false
set_option maxRecDepth 100000
noncomputable section
namespace DL
open PySem PySem.Spec PyProof.Rows L2

/-! ### built-in functions -/
def cLen : FF
  | [.tup xs], S => .ok (.int xs.length) S
  | [.str z], S => if szOk z.length then .ok (.int z.length) S else .no
  | [.ob n], S => match S[n]? with
    | some (.lst xs) => .ok (.int xs.length) S
    | _ => .no
  | _, _ => .no
theorem cLen_ok {K : PySem.W.Frag} : Cal K (fun xs H Q => ∃ x n, xs = [x] ∧ LenV K x H n ∧ Q (.int n) H) cLen := fun W φ S H σ xs ds Q s r p => by
  unfold cLen at p
  split at p
  · cases r with
    | cons a b =>
      cases b
      cases a with
      | tup t rs =>
        refine ⟨_, _, rfl, .inr ⟨_, t, rfl⟩, ?_⟩
        rw [rs.length]
        exact p φ H _ Ext.rfl' s (.int _)
  · split at p
    · rename_i hz
      cases r with
      | cons a b =>
        cases b
        cases a
        exact ⟨_, _, rfl, ⟨szOk.le hz, rfl⟩, p φ H _ Ext.rfl' s (.int _)⟩
    · exact p.elim
  · split at p
    · rename_i xs e
      cases r with
      | cons a b =>
        cases b
        cases a with
        | ob hn =>
          obtain ⟨us, g, rs⟩ := s.lst hn e
          refine ⟨_, _, rfl, .inl ⟨_, .of g, rfl⟩, ?_⟩
          rw [rs.length]
          exact p φ H _ Ext.rfl' s (.int _)
    · exact p.elim
  · exact p.elim
def cAbs : FF
  | [.int i], S => .ok (.int (if i < 0 then -i else i)) S
  | _, _ => .no
theorem cAbs_ok {K : PySem.W.Frag} : Cal K (fun xs H Q => ∃ i, xs = [.int i] ∧ Q (.int (if i < 0 then -i else i)) H) cAbs := fun W φ S H σ xs ds Q s r p => by
  unfold cAbs at p
  split at p
  · cases r with
    | cons a b => cases b; cases a; exact ⟨_, rfl, p φ H _ Ext.rfl' s (.int _)⟩
  · exact p.elim
def cInt : FF
  | [.int i], S => .ok (.int i) S
  | [.bl k], S => .ok (.int (if k then 1 else 0)) S
  | _, _ => .no
theorem cInt_ok {K : PySem.W.Frag} : Cal K (fun xs H Q => (∃ i, xs = [.int i] ∧ Q (.int i) H) ∨ ∃ k, xs = [.bl k] ∧ Q (.int (if k then 1 else 0)) H) cInt := fun W φ S H σ xs ds Q s r p => by
  unfold cInt at p
  split at p
  · cases r with
    | cons a b => cases b; cases a; exact .inl ⟨_, rfl, p φ H _ Ext.rfl' s (.int _)⟩
  · cases r with
    | cons a b => cases b; cases a; exact .inr ⟨_, rfl, p φ H _ Ext.rfl' s (.int _)⟩
  · exact p.elim
def cGcd : FF
  | [.int i, .int j], S => .ok (.int ((Nat.gcd i.natAbs j.natAbs : Nat) : Int)) S
  | _, _ => .no
theorem cGcd_ok {K : PySem.W.Frag} : Cal K rGcd cGcd := fun W φ S H σ xs ds Q s r p => by
  unfold cGcd at p
  split at p
  · cases r with
    | cons a b =>
      cases b with
      | cons c d => cases d; cases a; cases c; exact ⟨_, _, rfl, p φ H _ Ext.rfl' s (.int _)⟩
  · exact p.elim
def cMin : FF
  | [.int i, .int j], S => .ok (.int (if j < i then j else i)) S
  | _, _ => .no
theorem cMin_ok {K : PySem.W.Frag} : Cal K (fun xs H Q => ∃ i j, xs = [.int i, .int j] ∧ Q (.int (if j < i then j else i)) H) cMin := fun W φ S H σ xs ds Q s r p => by
  unfold cMin at p
  split at p
  · cases r with
    | cons a b =>
      cases b with
      | cons c d => cases d; cases a; cases c; exact ⟨_, _, rfl, p φ H _ Ext.rfl' s (.int _)⟩
  · exact p.elim
def cMax : FF
  | [.int i, .int j], S => .ok (.int (if j > i then j else i)) S
  | _, _ => .no
theorem cMax_ok {K : PySem.W.Frag} : Cal K (fun xs H Q => ∃ i j, xs = [.int i, .int j] ∧ Q (.int (if j > i then j else i)) H) cMax := fun W φ S H σ xs ds Q s r p => by
  unfold cMax at p
  split at p
  · cases r with
    | cons a b =>
      cases b with
      | cons c d => cases d; cases a; cases c; exact ⟨_, _, rfl, p φ H _ Ext.rfl' s (.int _)⟩
  · exact p.elim
/-- what class a datum is of -/
def tyD : D → Sto → Option String
  | .non, _ => some "NoneType"
  | .bl _, _ => some "bool"
  | .int _, _ => some "int"
  | .str _, _ => some "str"
  | .tup _, _ => some "tuple"
  | .ob n, S => match S[n]? with
    | some (.lst _) => some "list"
    | some (.dic _) => some "dict"
    | none => none
  | _, _ => none
theorem tyD_ok {K : PySem.W.Frag} {φ : List Addr} {H : Hp} {S : Sto} {v : V} {d : D} {t : String} (s : Sr K φ S H) (r : Rp K φ H v d) (h : tyD d S = some t) : TyX K H v (.type t) := by
  cases d with
  | non => cases r; cases h; exact .base .non
  | bl b => cases r; cases h; exact .base (.bl b)
  | int b => cases r; cases h; exact .base (.int b)
  | str b => cases r; cases h; exact .base (.str b)
  | tup ds =>
    cases r with
    | tup q rs =>
      cases h
      rcases q with (q | ⟨o, q⟩) | ⟨o, its, n, q, hc, _⟩
      · exact .base (.tup q)
      · exact .fTuple q
      · exact .kTuple q hc
  | ob n =>
    cases r with
    | ob hn =>
      simp only [tyD] at h
      split at h
      · rename_i e
        cases h
        obtain ⟨us, g, _⟩ := s.lst hn e
        exact .base (.lst g)
      · rename_i e
        cases h
        obtain ⟨b, h1, ws, g, _⟩ := s.at' n _ e
        rw [hn] at h1; cases h1
        exact .base (.dK g)
      · cases h
  | ro ns => cases h
  | raw w => cases h
def isD (d : D) (S : Sto) (b : String) : Option Bool := match tyD d S with
  | some t => kitB t b
  | none => none
/-- isinstance(e, T) -/
def eIs (a : EF) (b : String) : EF := fun ρ S => (a ρ S).bind fun d S1 => match isD d S1 b with
  | some k => .ok (.bl k) S1
  | none => .no
/-- isinstance(e, (T, U)) -/
def eIs2 (a : EF) (b c : String) : EF := fun ρ S => (a ρ S).bind fun d S1 => match tyD d S1 with
  | some t => (match kitB t b, kitB t c with
    | some k, some l => .ok (.bl (k || l)) S1
    | _, _ => .no)
  | none => .no
theorem isD_ok {K : PySem.W.Frag} {φ : List Addr} {H : Hp} {S : Sto} {v : V} {d : D} {b : String} {k : Bool} (s : Sr K φ S H) (r : Rp K φ H v d) (h : isD d S b = some k) : ∃ t, TyX K H v (.type t) ∧ kitB t b = some k := by
  unfold isD at h
  split at h
  · rename_i t e
    exact ⟨t, tyD_ok s r e, h⟩
  · cases h
section
variable {X : Cx} {W : WX} {e : Expr} {fa : EF} {pos : Pos}
theorem de_isi {b : String} (h : PE X e (tCB (rIsi X.K) (tCons (lE X.K W fa) (tCons (tC (.ty b)) tNil)))) : DE X W e (eIs fa b) :=
  pe_wk h fun σ H Q ⟨φ, ρ, S, er, sr, p⟩ => (lf.bind er sr p).imp fun x H1 ⟨φ1, S1, d, e1, sr1, r1, p1⟩ => by
    split at p1
    · rename_i k hk
      obtain ⟨t, h1, h2⟩ := isD_ok sr1 r1 hk
      exact ⟨x, .ty b, _, _, k, rfl, .ty b, h1, kit_ty h2, p1 φ1 H1 _ Ext.rfl' sr1 (.bl _)⟩
    · exact p1.elim
theorem de_isi2 {b c : String} (h : PE X e (tCB (rIsiT X.K) (tCons (lE X.K W fa) (tCons (tTup (tCons (tC (.ty b)) (tCons (tC (.ty c)) tNil))) tNil)))) : DE X W e (eIs2 fa b c) :=
  pe_wk h fun σ H Q ⟨φ, ρ, S, er, sr, p⟩ => (lf.bind er sr p).imp fun x H1 ⟨φ1, S1, d, e1, sr1, r1, p1⟩ => by
    split at p1
    · rename_i t ht
      split at p1
      · rename_i k l hk hl
        refine ⟨by show 2 ≤ sizeLine; rw [sizeLine_eq]; decide, fun q hq => ?_⟩
        have e' := Ext.new (φ := φ1) (o := .tup [.ty b, .ty c]) hq
        refine ⟨x, q, _, _, [.type b, .type c], k || l, rfl, upd_same, .cons (.ty b) (.cons (.ty c) .nil), tyD_ok (sr1.new hq) (r1.mono e') ht, ?_, p1 φ1 _ _ e' (sr1.new hq) (.bl _)⟩
        exact kitAny_cons (kit_ty hk) (fun hb => by subst hb; exact kitAny_cons (kit_ty hl) (fun hb => by subst hb; rfl) fun hb => by subst hb; rfl) fun hb => by subst hb; rfl
      · exact p1.elim
    · exact p1.elim
end
def allBl : List D → Option (List Bool)
  | [] => some []
  | .bl b :: r => (allBl r).map (b :: ·)
  | _ :: _ => none
theorem allBl_ok {K : PySem.W.Frag} {φ : List Addr} {H : Hp} : ∀ {vs : List V} {ds : List D} {bs : List Bool}, Rps K φ H vs ds → allBl ds = some bs → vs = bs.map V.bl
  | _, _, bs, .nil, h => by cases h; rfl
  | _, d :: r, bs, .cons a b, h => by
    cases d <;> simp only [allBl, Option.map_eq_some_iff, reduceCtorEq] at h
    obtain ⟨bs', h1, rfl⟩ := h
    cases a
    rw [allBl_ok b h1, List.map_cons]
def cAll : FF
  | [.ob n], S => match S[n]? with
    | some (.lst xs) => match allBl xs with | some bs => .ok (.bl (bs.all id)) S | none => .no
    | _ => .no
  | _, _ => .no
def cAny : FF
  | [.ob n], S => match S[n]? with
    | some (.lst xs) => match allBl xs with | some bs => .ok (.bl (bs.any id)) S | none => .no
    | _ => .no
  | _, _ => .no
theorem cAll_ok {K : PySem.W.Frag} : Cal K (rAll K) cAll := fun W φ S H σ xs ds Q s r p => by
  unfold cAll at p
  split at p
  · split at p
    · rename_i ys e0
      split at p
      · rename_i bs eb
        cases r with
        | cons a b =>
          cases b
          cases a with
          | ob hn =>
            obtain ⟨us, g, rs⟩ := s.lst hn e0
            have := allBl_ok rs eb
            subst this
            exact ⟨_, bs, rfl, .of g, p φ H _ Ext.rfl' s (.bl _)⟩
      · exact p.elim
    · exact p.elim
  · exact p.elim
theorem cAny_ok {K : PySem.W.Frag} : Cal K (rAny K) cAny := fun W φ S H σ xs ds Q s r p => by
  unfold cAny at p
  split at p
  · split at p
    · rename_i ys e0
      split at p
      · rename_i bs eb
        cases r with
        | cons a b =>
          cases b
          cases a with
          | ob hn =>
            obtain ⟨us, g, rs⟩ := s.lst hn e0
            have := allBl_ok rs eb
            subst this
            exact ⟨_, bs, rfl, .of g, p φ H _ Ext.rfl' s (.bl _)⟩
      · exact p.elim
    · exact p.elim
  · exact p.elim
def allInt : List D → Option (List Int)
  | [] => some []
  | .int b :: r => (allInt r).map (b :: ·)
  | _ :: _ => none
theorem allInt_ok {K : PySem.W.Frag} {φ : List Addr} {H : Hp} : ∀ {vs : List V} {ds : List D} {bs : List Int}, Rps K φ H vs ds → allInt ds = some bs → vs = bs.map V.int
  | _, _, bs, .nil, h => by cases h; rfl
  | _, d :: r, bs, .cons a b, h => by
    cases d <;> simp only [allInt, Option.map_eq_some_iff, reduceCtorEq] at h
    obtain ⟨bs', h1, rfl⟩ := h
    cases a
    rw [allInt_ok b h1, List.map_cons]
def cSum : FF
  | [.ob n], S => match S[n]? with
    | some (.lst xs) => match allInt xs with | some bs => .ok (.int bs.sum) S | none => .no
    | _ => .no
  | _, _ => .no
theorem cSum_ok {K : PySem.W.Frag} : Cal K (rSum K) cSum := fun W φ S H σ xs ds Q s r p => by
  unfold cSum at p
  split at p
  · split at p
    · rename_i ys e0
      split at p
      · rename_i bs eb
        cases r with
        | cons a b =>
          cases b
          cases a with
          | ob hn =>
            obtain ⟨us, g, rs⟩ := s.lst hn e0
            have := allInt_ok rs eb
            subst this
            exact ⟨_, bs, rfl, .of g, p φ H _ Ext.rfl' s (.int _)⟩
      · exact p.elim
    · exact p.elim
  · exact p.elim
/-- list(x), tuple(x) -/
def cList : FF
  | [.tup xs], S => .ok (.ob S.length) (S ++ [.lst xs])
  | [.ob n], S => match S[n]? with
    | some (.lst xs) => .ok (.ob S.length) (S ++ [.lst xs])
    | _ => .no
  | _, _ => .no
theorem cList_ok {K : PySem.W.Frag} : Cal K (fun xs H Q => ∃ p ys, xs = [.ref p] ∧ (SqL K H p ys ∨ SqT K H p ys) ∧ ∀ l, H l = none → Q (.ref l) (upd H l (.lst ys))) cList := fun W φ S H σ xs ds Q s r p => by
  unfold cList at p
  split at p
  · cases r with
    | cons a b =>
      cases b
      cases a with
      | tup t rs =>
        rename_i pa us
        refine ⟨_, _, rfl, .inr t, fun q hq => ?_⟩
        have e := Ext.newSnoc (φ := φ) (o := .lst us) hq
        exact p _ _ _ e (s.snoc hq ⟨_, upd_same, rs.mono e⟩) (.ob (at_snoc s q))
  · split at p
    · rename_i ys e0
      cases r with
      | cons a b =>
        cases b
        cases a with
        | ob hn =>
          obtain ⟨us, g, rs⟩ := s.lst hn e0
          refine ⟨_, _, rfl, .inl (.of g), fun q hq => ?_⟩
          have e := Ext.newSnoc (φ := φ) (o := .lst us) hq
          exact p _ _ _ e (s.snoc hq ⟨_, upd_same, rs.mono e⟩) (.ob (at_snoc s q))
    · exact p.elim
  · exact p.elim
def cTuple : FF
  | [.tup xs], S => .ok (.tup xs) S
  | [.ob n], S => match S[n]? with
    | some (.lst xs) => .ok (.tup xs) S
    | _ => .no
  | _, _ => .no
theorem cTuple_ok {K : PySem.W.Frag} : Cal K (fun xs H Q => ∃ p ys, xs = [.ref p] ∧ ((SqL K H p ys ∧ ∀ l, H l = none → Q (.ref l) (upd H l (.tup ys))) ∨ (SqT K H p ys ∧ Q (.ref p) H))) cTuple := fun W φ S H σ xs ds Q s r p => by
  unfold cTuple at p
  split at p
  · cases r with
    | cons a b =>
      cases b
      cases a with
      | tup t rs => exact ⟨_, _, rfl, .inr ⟨t, p φ H _ Ext.rfl' s (.tup t rs)⟩⟩
  · split at p
    · rename_i ys e0
      cases r with
      | cons a b =>
        cases b
        cases a with
        | ob hn =>
          obtain ⟨us, g, rs⟩ := s.lst hn e0
          exact ⟨_, _, rfl, .inl ⟨.of g, fun q hq => p φ _ _ (Ext.new hq) (s.new hq) (.tup (.of upd_same) (rs.mono (Ext.new hq)))⟩⟩
    · exact p.elim
  · exact p.elim

/-! ### methods of lists -/
def eApp (a b : EF) : EF := fun ρ S => (a ρ S).bind fun l S1 => match l with
  | .ob n => (match S1[n]? with
    | some (.lst _) => (b ρ S1).bind fun d S2 => (match S2[n]? with
      | some (.lst xs) => if szOk xs.length then .ok .non (S2.set n (.lst (xs ++ [d]))) else .no
      | _ => .no)
    | _ => .no)
  | _ => .no
def ePop (a : EF) : EF := fun ρ S => (a ρ S).bind fun l S1 => match l with
  | .ob n => match S1[n]? with
    | some (.lst xs) => match xs[xs.length - 1]? with
      | some d => .ok d (S1.set n (.lst xs.dropLast))
      | none => .no
    | _ => .no
  | _ => .no
theorem Rps.dropLast {K : PySem.W.Frag} {φ : List Addr} {H : Hp} {vs : List V} {ds : List D} (r : Rps K φ H vs ds) : Rps K φ H vs.dropLast ds.dropLast := by
  rw [List.dropLast_eq_take, List.dropLast_eq_take, r.length]
  exact r.take _
section
variable {X : Cx} {W : WX} {o e : Expr} {fa fb : EF} {pos : Pos}
theorem de_app {w : Expr} (h : PE X w (tBM X.K "list" rAppend (lE X.K W fa) (tCons (lE X.K W fb) tNil))) : DE X W w (eApp fa fb) :=
  pe_wk h fun σ H Q ⟨φ, ρ, S, er, sr, p⟩ => (lf.bind er sr p).imp fun x H1 ⟨φ1, S1, d, e1, sr1, r1, p1⟩ => by
    split at p1
    · split at p1
      · rename_i ys hy
        cases r1 with
        | ob hn =>
          obtain ⟨us, g, rs⟩ := sr1.lst hn hy
          refine ⟨.inl ⟨rfl, _, .of g⟩, ?_⟩
          refine (lf.bind (er.mono e1) sr1 p1).imp fun y H2 ⟨φ2, S2, d2, e2, sr2, r2, p2⟩ => ?_
          split at p2
          · rename_i xs hx
            split at p2
            · rename_i hz
              have hn2 := e2.pre _ _ hn
              obtain ⟨us2, g2, rs2⟩ := sr2.lst hn2 hx
              refine ⟨_, us2, y, rfl, rfl, g2, by rw [rs2.length]; exact szOk.lt hz, ?_⟩
              have ex : Ext φ2 H2 φ2 (upd H2 _ (.lst (us2 ++ [y]))) := Ext.put (by rw [g2]; trivial)
              exact p2 φ2 _ _ ex (sr2.put hn2 ⟨_, upd_same, (rs2.append (.cons r2 .nil)).mono ex⟩) .non
            · exact p2.elim
          · exact p2.elim
      · exact p1.elim
    · exact p1.elim
theorem de_pop {w : Expr} (h : PE X w (tBM0 X.K "list" rPop (lE X.K W fa))) : DE X W w (ePop fa) :=
  pe_wk h fun σ H Q ⟨φ, ρ, S, er, sr, p⟩ => (lf.bind er sr p).imp fun x H1 ⟨φ1, S1, d, e1, sr1, r1, p1⟩ => by
    split at p1
    · split at p1
      · rename_i xs hx
        split at p1
        · rename_i d hd
          cases r1 with
          | ob hn =>
            obtain ⟨us, g, rs⟩ := sr1.lst hn hx
            obtain ⟨v, hv, rv⟩ := rs.get hd
            rw [← rs.length] at hv
            refine ⟨.inl ⟨rfl, _, .of g⟩, _, us, v, rfl, rfl, g, hv, ?_⟩
            have ex : Ext φ1 H1 φ1 (upd H1 _ (.lst us.dropLast)) := Ext.put (by rw [g]; trivial)
            exact p1 φ1 _ _ ex (sr1.put hn ⟨_, upd_same, rs.dropLast.mono ex⟩) (rv.mono ex)
        · exact p1.elim
      · exact p1.elim
    · exact p1.elim
end
end DL
set_option Elab.async false
set_option linter.all false
set_option maxRecDepth 100000
noncomputable section
namespace DL
open PySem PySem.Spec PyProof.Rows L2

/-! ### targets: names, tuples and lists of names -/
inductive Tg where
  | nm (i : Nat)
  | tp (ts : List Tg)
  | ls (ts : List Tg)
mutual
def Tg.put : Tg → D → Lc → Sto → Option Lc
  | .nm i, d, ρ, _ => some (ρ.set i (some d))
  | .tp ts, .tup ds, ρ, S => Tg.puts ts ds ρ S
  | .ls ts, .ob n, ρ, S => match S[n]? with
    | some (.lst ds) => Tg.puts ts ds ρ S
    | _ => none
  | _, _, _, _ => none
def Tg.puts : List Tg → List D → Lc → Sto → Option Lc
  | [], [], ρ, _ => some ρ
  | t :: ts, d :: ds, ρ, S => match Tg.put t d ρ S with
    | some ρ' => Tg.puts ts ds ρ' S
    | none => none
  | _, _, _, _ => none
end
mutual
def gOf (K : PySem.W.Frag) : Tg → TG
  | .nm i => gName i
  | .tp ts => gTup K ts.length (gsOf K ts)
  | .ls ts => gLst K ts.length (gsOf K ts)
def gsOf (K : PySem.W.Frag) : List Tg → TGs
  | [] => gNil
  | t :: ts => gCons (gOf K t) (gsOf K ts)
end
mutual
def Tg.slots : Tg → List Nat
  | .nm i => [i]
  | .tp ts => Tg.slotss ts
  | .ls ts => Tg.slotss ts
def Tg.slotss : List Tg → List Nat
  | [] => []
  | t :: ts => Tg.slots t ++ Tg.slotss ts
end
/-- alike but at these slots -/
def SameBut (vs : List Nat) (σ σ' : L2.St) : Prop := σ'.length = σ.length ∧ ∀ j, j ∉ vs → σ'[j]? = σ[j]?
theorem SameBut.refl {vs : List Nat} {σ : L2.St} : SameBut vs σ σ := ⟨rfl, fun _ _ => rfl⟩
theorem SameBut.trans {vs : List Nat} {σ σ1 σ2 : L2.St} (a : SameBut vs σ σ1) (b : SameBut vs σ1 σ2) : SameBut vs σ σ2 := ⟨b.1.trans a.1, fun j h => (b.2 j h).trans (a.2 j h)⟩
theorem SameBut.mono {vs ws : List Nat} {σ σ1 : L2.St} (a : SameBut vs σ σ1) (h : ∀ j ∈ vs, j ∈ ws) : SameBut ws σ σ1 := ⟨a.1, fun j hj => a.2 j fun z => hj (h j z)⟩
theorem wipe_at {σ : L2.St} {i : Nat} : ∀ {vs : List Nat}, (wipe σ vs)[i]? = if i ∈ vs ∧ i < σ.length then some none else σ[i]?
  | [] => by simp [wipe]
  | v :: vs => by
    unfold wipe
    rw [List.getElem?_set, wipe_length, wipe_at]
    by_cases hv : v = i
    · subst hv
      by_cases hl : v < σ.length
      · simp [hl]
      · rw [if_pos rfl, if_neg hl, if_neg (fun z => hl z.2), List.getElem?_eq_none (by omega)]
    · rw [if_neg hv]
      have e : (i ∈ v :: vs ∧ i < σ.length) ↔ (i ∈ vs ∧ i < σ.length) := by
        constructor
        · rintro ⟨h1, h2⟩
          rcases List.mem_cons.mp h1 with z | z
          · exact absurd z.symm hv
          · exact ⟨z, h2⟩
        · rintro ⟨h1, h2⟩
          exact ⟨List.mem_cons_of_mem _ h1, h2⟩
      by_cases hc : i ∈ vs ∧ i < σ.length
      · rw [if_pos hc, if_pos (e.mpr hc)]
      · rw [if_neg hc, if_neg (fun z => hc (e.mp z))]
theorem SameBut.wipe {vs : List Nat} {σ σ' : L2.St} (h : SameBut vs σ σ') : wipe σ' vs = wipe σ vs := by
  refine List.ext_getElem? fun i => ?_
  rw [wipe_at, wipe_at, h.1]
  by_cases hc : i ∈ vs ∧ i < σ.length
  · rw [if_pos hc, if_pos hc]
  · rw [if_neg hc, if_neg hc]
    by_cases hi : i ∈ vs
    · have hl : σ.length ≤ i := by
        have : ¬ i < σ.length := fun z => hc ⟨hi, z⟩
        omega
      rw [List.getElem?_eq_none (by rw [h.1]; exact hl), List.getElem?_eq_none hl]
    · exact h.2 i hi
section
variable {K : PySem.W.Frag} {φ : List Addr} {S : Sto} {H : Hp}
mutual
theorem gOf_ok (s : Sr K φ S H) : ∀ (t : Tg) (v : V) (d : D) (σ : L2.St) (ρ ρ' : Lc) (Q : L2.St → Hp → Prop), Er K φ H σ ρ → Rp K φ H v d → t.put d ρ S = some ρ' → (∀ σ', Er K φ H σ' ρ' → SameBut t.slots σ σ' → Q σ' H) → gOf K t v σ H Q
  | .nm i, v, d, σ, ρ, ρ', Q, er, r, h, q => by
    cases h
    refine q _ (er.set r i) ⟨by simp, fun j hj => ?_⟩
    rw [List.getElem?_set, if_neg]
    rintro rfl
    exact hj (by simp [Tg.slots])
  | .tp ts, v, d, σ, ρ, ρ', Q, er, r, h, q => by
    cases d with
    | tup ds =>
      cases r with
      | tup t rs =>
        obtain ⟨hl, hg⟩ := gsOf_ok s ts _ ds σ ρ ρ' Q er rs h q
        exact ⟨_, _, rfl, t, by rw [rs.length, hl], hg⟩
    | _ => cases h
  | .ls ts, v, d, σ, ρ, ρ', Q, er, r, h, q => by
    cases d with
    | ob n =>
      cases r with
      | ob hn =>
        simp only [Tg.put] at h
        split at h
        · rename_i ds e
          obtain ⟨us, g, rs⟩ := s.lst hn e
          obtain ⟨hl, hg⟩ := gsOf_ok s ts _ ds σ ρ ρ' Q er rs h q
          exact ⟨_, _, rfl, .of g, by rw [rs.length, hl], hg⟩
        · cases h
    | _ => cases h
theorem gsOf_ok (s : Sr K φ S H) : ∀ (ts : List Tg) (vs : List V) (ds : List D) (σ : L2.St) (ρ ρ' : Lc) (Q : L2.St → Hp → Prop), Er K φ H σ ρ → Rps K φ H vs ds → Tg.puts ts ds ρ S = some ρ' → (∀ σ', Er K φ H σ' ρ' → SameBut (Tg.slotss ts) σ σ' → Q σ' H) → ds.length = ts.length ∧ gsOf K ts vs σ H Q
  | [], vs, ds, σ, ρ, ρ', Q, er, r, h, q => by
    cases ds with
    | nil =>
      cases r
      cases h
      exact ⟨rfl, rfl, q σ er .refl⟩
    | cons _ _ => cases h
  | t :: ts, vs, ds, σ, ρ, ρ', Q, er, r, h, q => by
    cases ds with
    | nil => cases h
    | cons d ds =>
      cases r with
      | cons r1 r2 =>
        simp only [Tg.puts] at h
        split at h
        · rename_i ρ1 h1
          have key : ∀ σ1, Er K φ H σ1 ρ1 → SameBut t.slots σ σ1 → ds.length = ts.length ∧ gsOf K ts _ σ1 H Q := fun σ1 er1 sb =>
            gsOf_ok s ts _ ds σ1 ρ1 ρ' Q er1 r2 h fun σ' er' sb' => q σ' er' ((sb.mono fun j hj => List.mem_append_left _ hj).trans (sb'.mono fun j hj => List.mem_append_right _ hj))
          refine ⟨?_, _, _, rfl, gOf_ok s t _ d σ ρ ρ1 _ er r1 h1 fun σ1 er1 sb => (key σ1 er1 sb).2⟩
          have : ∃ n, ds.length = n ∧ ts.length = n := by
            by_cases hz : ds.length = ts.length
            · exact ⟨_, rfl, hz.symm⟩
            · exfalso
              have := gOf_ok s t _ d σ ρ ρ1 (fun σ1 _ => ds.length = ts.length) er r1 h1 fun σ1 er1 sb => (key σ1 er1 sb).1
              exact hz (gOf_triv t _ σ H _ this)
          obtain ⟨n, h1, h2⟩ := this
          rw [List.length_cons, List.length_cons, h1, h2]
        · cases h
theorem gOf_triv : ∀ (t : Tg) (v : V) (σ : L2.St) (H : Hp) (p : Prop), gOf K t v σ H (fun _ _ => p) → p
  | .nm i, v, σ, H, p, h => h
  | .tp ts, v, σ, H, p, ⟨_, _, _, _, _, h⟩ => gsOf_triv ts _ σ H p h
  | .ls ts, v, σ, H, p, ⟨_, _, _, _, _, h⟩ => gsOf_triv ts _ σ H p h
theorem gsOf_triv : ∀ (ts : List Tg) (vs : List V) (σ : L2.St) (H : Hp) (p : Prop), gsOf K ts vs σ H (fun _ _ => p) → p
  | [], _, _, _, p, ⟨_, h⟩ => h
  | t :: ts, _, σ, H, p, ⟨v, r, _, h⟩ => by
    have h2 : gOf K t v σ H (fun _ _ => p) := gOf_imp t v σ H _ _ (fun σ' H' z => gsOf_triv ts _ σ' H' p z) h
    exact gOf_triv t v σ H p h2
theorem gOf_imp : ∀ (t : Tg) (v : V) (σ : L2.St) (H : Hp) (Q Q' : L2.St → Hp → Prop), (∀ σ H, Q σ H → Q' σ H) → gOf K t v σ H Q → gOf K t v σ H Q'
  | .nm i, v, σ, H, Q, Q', hq, h => hq _ _ h
  | .tp ts, v, σ, H, Q, Q', hq, ⟨a, xs, h1, h2, h3, h⟩ => ⟨a, xs, h1, h2, h3, gsOf_imp ts _ σ H Q Q' hq h⟩
  | .ls ts, v, σ, H, Q, Q', hq, ⟨a, xs, h1, h2, h3, h⟩ => ⟨a, xs, h1, h2, h3, gsOf_imp ts _ σ H Q Q' hq h⟩
theorem gsOf_imp : ∀ (ts : List Tg) (vs : List V) (σ : L2.St) (H : Hp) (Q Q' : L2.St → Hp → Prop), (∀ σ H, Q σ H → Q' σ H) → gsOf K ts vs σ H Q → gsOf K ts vs σ H Q'
  | [], _, σ, H, Q, Q', hq, ⟨h1, h⟩ => ⟨h1, hq _ _ h⟩
  | t :: ts, _, σ, H, Q, Q', hq, ⟨v, r, h1, h⟩ => ⟨v, r, h1, gOf_imp t v σ H _ _ (fun σ' H' z => gsOf_imp ts _ σ' H' Q Q' hq z) h⟩
end
end

/-! ### what a loop goes over -/
inductive Itd where
  | lst (n : Nat)
  | tup (xs : List D)
  | rng (lo : Int) (n : Nat)
  | zipT (xs ys : List D)
  | zipL (n m : Nat)
  | enumL (n : Nat)
/-- the item at a turn: none: stuck; some none: it is over -/
def Itd.at' : Itd → Nat → Sto → Option (Option D)
  | .lst n, i, S => match S[n]? with | some (.lst xs) => some xs[i]? | _ => none
  | .tup xs, i, _ => some xs[i]?
  | .rng lo n, i, _ => some (if i < n then some (.int (lo + i)) else none)
  | .zipT xs ys, i, _ => match xs[i]?, ys[i]? with | some x, some y => some (some (.tup [x, y])) | _, _ => some none
  | .zipL n m, i, S => match S[n]?, S[m]? with
    | some (.lst xs), some (.lst ys) => (match xs[i]?, ys[i]? with | some x, some y => some (some (.tup [x, y])) | _, _ => some none)
    | _, _ => none
  | .enumL n, i, S => match S[n]? with
    | some (.lst xs) => (match xs[i]? with | some x => some (some (.tup [.int i, x])) | none => some none)
    | _ => none
def Itd.size : Itd → Sto → Nat
  | .lst n, S => match S[n]? with | some (.lst xs) => xs.length | _ => 0
  | .tup xs, _ => xs.length
  | .rng _ n, _ => n
  | .zipT xs ys, _ => xs.length
  | .zipL n _, S => match S[n]? with | some (.lst xs) => xs.length | _ => 0
  | .enumL n, S => match S[n]? with | some (.lst xs) => xs.length | _ => 0
def ItR (K : PySem.W.Frag) : Rl Itd It := fun φ0 H0 J it => ∀ (i : Nat) (φ : List Addr) (S : Sto) (H : Hp), Ext φ0 H0 φ H → Sr K φ S H → match it.at' i S with
  | none => True
  | some none => J.stop i H
  | some (some d) => J.go i H ∧ ∀ x H', J.yld i H x H' → Ext φ H φ H' ∧ Sr K φ S H' ∧ Rp K φ H' x d
abbrev IF := Lc → Sto → Res Itd
def DI (X : Cx) (W : WX) (tg iter : Expr) (f : IF) : Prop := PI X tg iter (lf (ItR X.K) X.K W f)
theorem pi_wk {X : Cx} {tg iter : Expr} {t t' : TI} (h : PI X tg iter t) (q : ∀ σ H Q, t' σ H Q → t σ H Q) : PI X tg iter t' := ⟨fun pins s σ H Q I z => h.run pins s σ H Q I (q σ H Q z)⟩
def iLst (a : EF) : IF := fun ρ S => (a ρ S).bind fun d S1 => match d with
  | .ob n => match S1[n]? with | some (.lst _) => .ok (.lst n) S1 | _ => .no
  | _ => .no
def jTup (a : EF) : IF := fun ρ S => (a ρ S).bind fun d S1 => match d with
  | .tup xs => .ok (.tup xs) S1
  | _ => .no
def iRng (a : AF) : IF := fun ρ S => (a ρ S).bind fun ds S1 => match ds with
  | [.int j] => if gd (-(2 ^ 62) ≤ j ∧ j < 2 ^ 62) then .ok (.rng 0 j.toNat) S1 else .no
  | [.int i, .int j] => if gd (-(2 ^ 62) ≤ i ∧ i < 2 ^ 62 ∧ -(2 ^ 62) ≤ j ∧ j < 2 ^ 62) then .ok (.rng i (j - i).toNat) S1 else .no
  | _ => .no
def iZip (a : AF) : IF := fun ρ S => (a ρ S).bind fun ds S1 => match ds with
  | [.tup xs, .tup ys] => .ok (.zipT xs ys) S1
  | [.ob n, .ob m] => match S1[n]?, S1[m]? with | some (.lst _), some (.lst _) => .ok (.zipL n m) S1 | _, _ => .no
  | _ => .no
section
variable {X : Cx} {W : WX} {e : Expr} {fa : EF} {ga : AF} {tg iter : Expr}
theorem di_lst (h : PI X tg iter (iList X.K (lE X.K W fa))) : DI X W tg iter (iLst fa) :=
  pi_wk h fun σ H Q ⟨φ, ρ, S, er, sr, p⟩ => (lf.bind er sr p).imp fun x H1 ⟨φ1, S1, d, e1, sr1, r1, p1⟩ => by
    split at p1
    · rename_i n
      split at p1
      · rename_i ys hy
        cases r1 with
        | ob hn =>
          obtain ⟨us, g, rs⟩ := sr1.lst hn hy
          refine ⟨_, rfl, ⟨us, .of g⟩, p1 φ1 H1 _ Ext.rfl' sr1 fun i φ S H ex sr => ?_⟩
          have hn' := ex.pre _ _ hn
          cases e : S[n]? with
          | none => simp only [Itd.at', e]
          | some o =>
            cases o with
            | dic _ => simp only [Itd.at', e]
            | lst ds =>
              obtain ⟨us, g, rs⟩ := sr.lst hn' e
              simp only [Itd.at', e]
              cases e2 : ds[i]? with
              | none => exact ⟨us, .of g, by rw [rs.length]; exact List.getElem?_eq_none_iff.mp e2⟩
              | some d =>
                obtain ⟨v, hv, rv⟩ := rs.get e2
                refine ⟨⟨us, v, .of g, hv⟩, fun x H' hh => ?_⟩
                obtain ⟨rfl, hx⟩ := hh
                have := hx us (.of g)
                rw [hv] at this
                cases this
                exact ⟨Ext.rfl', sr, rv⟩
      · exact p1.elim
    · exact p1.elim
theorem di_tup (h : PI X tg iter (L2.iTup X.K (lE X.K W fa))) : DI X W tg iter (jTup fa) :=
  pi_wk h fun σ H Q ⟨φ, ρ, S, er, sr, p⟩ => (lf.bind er sr p).imp fun x H1 ⟨φ1, S1, d, e1, sr1, r1, p1⟩ => by
    split at p1
    · rename_i ds
      cases r1 with
      | tup t rs =>
        refine ⟨_, rfl, ⟨_, t⟩, p1 φ1 H1 _ Ext.rfl' sr1 fun i φ S H ex sr => ?_⟩
        have t' := ex.sqT t
        have rs' := rs.mono ex
        unfold Itd.at'
        simp only
        cases e2 : ds[i]? with
        | none => exact ⟨_, t', by rw [rs'.length]; exact List.getElem?_eq_none_iff.mp e2⟩
        | some d =>
          obtain ⟨v, hv, rv⟩ := rs'.get e2
          refine ⟨⟨_, v, t', hv⟩, fun x H' hh => ?_⟩
          obtain ⟨rfl, hx⟩ := hh
          have := hx _ t'
          rw [hv] at this
          cases this
          exact ⟨Ext.rfl', sr, rv⟩
    · exact p1.elim
theorem ItR.rng {K : PySem.W.Frag} {lo : Int} {n : Nat} {φ1 : List Addr} {H1 : Hp} : ItR K φ1 H1 (Itr lo n) (.rng lo n) := fun i φ S H ex sr => by
  unfold Itd.at'
  simp only
  by_cases h : i < n
  · rw [if_pos h]
    exact ⟨h, fun x H' ⟨e1, e2⟩ => by subst e1; subst e2; exact ⟨Ext.rfl', sr, .int _⟩⟩
  · rw [if_neg h]
    exact Nat.le_of_not_lt h
theorem di_rng2 (h : PI X tg iter (iRng2 (lA X.K W ga))) (hl : aLen ga 2) : DI X W tg iter (iRng ga) :=
  pi_wk h fun σ H Q ⟨φ, ρ, S, er, sr, p⟩ => by
    have p0 : post (ItR X.K) X.K W φ H σ Q ((ga ρ S).bind fun ds S1 => match ds with
        | [.int i, .int j] => if gd (-(2 ^ 62) ≤ i ∧ i < 2 ^ 62 ∧ -(2 ^ 62) ≤ j ∧ j < 2 ^ 62) then .ok (.rng i (j - i).toNat) S1 else .no
        | _ => .no) := by
      unfold iRng at p
      cases e : ga ρ S with
      | ok ds S1 =>
        rw [e] at p
        have l1 := hl _ _ _ _ e
        match ds, l1 with
        | [d, d2], _ => cases d <;> cases d2 <;> exact p
      | ex c S1 => rw [e] at p; exact p
      | no => rw [e] at p; exact p
    refine (lf.bind er sr p0).imp fun x H1 ⟨φ1, S1, ds, e1, sr1, r1, p1⟩ => ?_
    split at p1
    · rename_i i j
      split at p1
      · rename_i hj
        cases r1 with
        | cons a b =>
          cases b with
          | cons c d =>
            cases d
            cases a
            cases c
            exact ⟨i, j, rfl, of_gd hj, p1 φ1 H1 _ Ext.rfl' sr1 ItR.rng⟩
      · exact p1.elim
    · exact p1.elim
theorem di_zip (h : PI X tg iter (RZ.iZipA X.K (lA X.K W ga))) : DI X W tg iter (iZip ga) :=
  pi_wk h fun σ H Q ⟨φ, ρ, S, er, sr, p⟩ => (lf.bind er sr p).imp fun x H1 ⟨φ1, S1, ds, e1, sr1, r1, p1⟩ => by
    split at p1
    · rename_i xs ys
      cases r1 with
      | cons a b =>
        cases b with
        | cons c d =>
          cases d
          cases a with
          | tup ta ra =>
            cases c with
            | tup tb rb =>
              refine ⟨_, _, _, _, rfl, .inr ⟨ta, tb, p1 φ1 H1 _ Ext.rfl' sr1 fun i φ S H ex sr => ?_⟩⟩
              have ta' := ex.sqT ta
              have tb' := ex.sqT tb
              have ra' := ra.mono ex
              have rb' := rb.mono ex
              unfold Itd.at'
              simp only
              cases ea : xs[i]? with
              | none => exact ⟨_, _, ta', tb', .inl (by rw [ra'.length]; exact List.getElem?_eq_none_iff.mp ea)⟩
              | some x =>
                cases eb : ys[i]? with
                | none => exact ⟨_, _, ta', tb', .inr (by rw [rb'.length]; exact List.getElem?_eq_none_iff.mp eb)⟩
                | some y =>
                  obtain ⟨v, hv, rv⟩ := ra'.get ea
                  obtain ⟨u, hu, ru⟩ := rb'.get eb
                  refine ⟨⟨_, _, v, u, ta', tb', hv, hu⟩, fun x H' hh => ?_⟩
                  obtain ⟨T, x1, y1, rfl, hT, rfl, f1, f2⟩ := hh
                  have g1 := f1 _ ta'
                  have g2 := f2 _ tb'
                  rw [hv] at g1; cases g1
                  rw [hu] at g2; cases g2
                  exact ⟨Ext.new hT, sr.new hT, .tup (.of upd_same) (.cons (rv.mono (Ext.new hT)) (.cons (ru.mono (Ext.new hT)) .nil))⟩
    · rename_i n m
      split at p1
      · rename_i xs0 ys0 hx0 hy0
        cases r1 with
        | cons a b =>
          cases b with
          | cons c d =>
            cases d
            cases a with
            | ob na =>
              cases c with
              | ob nb =>
                obtain ⟨us, g, _⟩ := sr1.lst na hx0
                obtain ⟨ws, g2, _⟩ := sr1.lst nb hy0
                refine ⟨_, _, us, ws, rfl, .inl ⟨.of g, .of g2, p1 φ1 H1 _ Ext.rfl' sr1 fun i φ S H ex sr => ?_⟩⟩
                have na' := ex.pre _ _ na
                have nb' := ex.pre _ _ nb
                cases e1 : S[n]? with
                | none => simp only [Itd.at', e1]
                | some o1 =>
                  cases o1 with
                  | dic _ => simp only [Itd.at', e1]
                  | lst xs =>
                    cases e2 : S[m]? with
                    | none => simp only [Itd.at', e1, e2]
                    | some o2 =>
                      cases o2 with
                      | dic _ => simp only [Itd.at', e1, e2]
                      | lst ys =>
                        obtain ⟨us, ga, ra'⟩ := sr.lst na' e1
                        obtain ⟨ws, gb, rb'⟩ := sr.lst nb' e2
                        simp only [Itd.at', e1, e2]
                        cases ea : xs[i]? with
                        | none => exact ⟨us, ws, .of ga, .of gb, .inl (by rw [ra'.length]; exact List.getElem?_eq_none_iff.mp ea)⟩
                        | some x =>
                          cases eb : ys[i]? with
                          | none => exact ⟨us, ws, .of ga, .of gb, .inr (by rw [rb'.length]; exact List.getElem?_eq_none_iff.mp eb)⟩
                          | some y =>
                            obtain ⟨v, hv, rv⟩ := ra'.get ea
                            obtain ⟨u, hu, ru⟩ := rb'.get eb
                            refine ⟨⟨us, ws, v, u, .of ga, .of gb, hv, hu⟩, fun x H' hh => ?_⟩
                            obtain ⟨T, x1, y1, rfl, hT, rfl, f1, f2⟩ := hh
                            have g1 := f1 us (.of ga)
                            have g2 := f2 ws (.of gb)
                            rw [hv] at g1; cases g1
                            rw [hu] at g2; cases g2
                            exact ⟨Ext.new hT, sr.new hT, .tup (.of upd_same) (.cons (rv.mono (Ext.new hT)) (.cons (ru.mono (Ext.new hT)) .nil))⟩
      · exact p1.elim
    · exact p1.elim
theorem di_rng1 (h : PI X tg iter (iRng1 (lA X.K W ga))) (hl : aLen ga 1) : DI X W tg iter (iRng ga) :=
  pi_wk h fun σ H Q ⟨φ, ρ, S, er, sr, p⟩ => by
    have p0 : post (ItR X.K) X.K W φ H σ Q ((ga ρ S).bind fun ds S1 => match ds with
        | [.int j] => if gd (-(2 ^ 62) ≤ j ∧ j < 2 ^ 62) then .ok (.rng 0 j.toNat) S1 else .no
        | _ => .no) := by
      unfold iRng at p
      cases e : ga ρ S with
      | ok ds S1 =>
        rw [e] at p
        have l1 := hl _ _ _ _ e
        match ds, l1 with
        | [d], _ => cases d <;> exact p
      | ex c S1 => rw [e] at p; exact p
      | no => rw [e] at p; exact p
    refine (lf.bind er sr p0).imp fun x H1 ⟨φ1, S1, ds, e1, sr1, r1, p1⟩ => ?_
    split at p1
    · rename_i j
      split at p1
      · rename_i hj
        cases r1 with
        | cons a b =>
          cases b
          cases a
          exact ⟨j, rfl, (of_gd hj).1, (of_gd hj).2, p1 φ1 H1 _ Ext.rfl' sr1 ItR.rng⟩
      · exact p1.elim
    · exact p1.elim
end
end DL
set_option Elab.async false
set_option linter.all false
set_option maxRecDepth 100000
noncomputable section
namespace DL
open PySem PySem.Spec PyProof.Rows L2

/-! ### blocks -/
inductive SR where
  | nx (ρ : Lc) (S : Sto)
  | rt (d : D) (S : Sto)
  | bk (ρ : Lc) (S : Sto)
  | ct (ρ : Lc) (S : Sto)
  | ex (c : Addr) (ρ : Lc) (S : Sto)
  | no
abbrev SF := Lc → Sto → SR
def Res.sb {α : Type} (r : Res α) (ρ : Lc) (k : α → Sto → SR) : SR :=
  match r with
  | .ok a S => k a S
  | .ex c S => .ex c ρ S
  | .no => .no
section
variable (K : PySem.W.Frag) (W : WX)
def postS (φ : List Addr) (H : Hp) (N : Ends) : SR → Prop
  | .nx ρ S => ∀ φ' σ' H', Ext φ H φ' H' → Sr K φ' S H' → Er K φ' H' σ' ρ → N.nx σ' H'
  | .rt d S => ∀ φ' H' v, Ext φ H φ' H' → Sr K φ' S H' → Rp K φ' H' v d → N.rt v H'
  | .bk ρ S => ∀ φ' σ' H', Ext φ H φ' H' → Sr K φ' S H' → Er K φ' H' σ' ρ → N.bk σ' H'
  | .ct ρ S => ∀ φ' σ' H', Ext φ H φ' H' → Sr K φ' S H' → Er K φ' H' σ' ρ → N.ct σ' H'
  | .ex c ρ S => ∀ φ' σ' H', Ext φ H φ' H' → Sr K φ' S H' → Er K φ' H' σ' ρ → W (.ref c) none σ' H'
  | .no => False
def lS (f : SF) : TS := fun N σ H => ∃ φ ρ S, Er K φ H σ ρ ∧ Sr K φ S H ∧ postS K W φ H N (f ρ S)
end
section
variable {K : PySem.W.Frag} {W : WX} {φ φ1 : List Addr} {H H1 : Hp} {σ : L2.St} {N : Ends}
theorem postS.mono (e : Ext φ H φ1 H1) : ∀ {r : SR}, postS K W φ H N r → postS K W φ1 H1 N r
  | .nx _ _, h => fun φ' σ' H' e' => h φ' σ' H' (e.trans e')
  | .rt _ _, h => fun φ' v' H' e' => h φ' v' H' (e.trans e')
  | .bk _ _, h => fun φ' σ' H' e' => h φ' σ' H' (e.trans e')
  | .ct _ _, h => fun φ' σ' H' e' => h φ' σ' H' (e.trans e')
  | .ex _ _ _, h => fun φ' σ' H' e' => h φ' σ' H' (e.trans e')
  | .no, h => h
theorem lf.sb {α β : Type} {R : Rl α β} {f : Lc → Sto → Res α} {k : α → Sto → SR} {ρ : Lc} {S : Sto} (er : Er K φ H σ ρ) (sr : Sr K φ S H) (p : postS K W φ H N ((f ρ S).sb ρ k)) :
    lf R K W f σ H fun x H1 => ∃ φ1 S1 a, Ext φ H φ1 H1 ∧ Sr K φ1 S1 H1 ∧ R φ1 H1 x a ∧ postS K W φ1 H1 N (k a S1) := by
  refine ⟨φ, ρ, S, er, sr, ?_⟩
  cases e : f ρ S with
  | ok a S1 =>
    rw [e] at p
    exact fun φ' H' x e' s r => ⟨φ', S1, a, e', s, r, postS.mono e' p⟩
  | ex c S1 => rw [e] at p; exact fun φ' H' e' s => p φ' σ H' e' s (er.mono e')
  | no => rw [e] at p; exact p
end
def DS (X : Cx) (W : WX) (st : Stmt) (f : SF) : Prop := PS X st (lS X.K W f)
def DSs (X : Cx) (W : WX) (st : List Stmt) (f : SF) : Prop := PSs X st (lS X.K W f)
def sNil : SF := fun ρ S => .nx ρ S
def sSeq (a b : SF) : SF := fun ρ S => match a ρ S with
  | .nx ρ' S' => b ρ' S'
  | r => r
def sAsg (t : Tg) (a : EF) : SF := fun ρ S => (a ρ S).sb ρ fun d S1 => match t.put d ρ S1 with
  | some ρ' => .nx ρ' S1
  | none => .no
def sPar (i j : Nat) (a : AF) : SF := fun ρ S => (a ρ S).sb ρ fun ds S1 => match ds with
  | [x, y] => .nx ((ρ.set i (some x)).set j (some y)) S1
  | _ => .no
def sPar3 (i j l : Nat) (a : AF) : SF := fun ρ S => (a ρ S).sb ρ fun ds S1 => match ds with
  | [x, y, z] => .nx (((ρ.set i (some x)).set j (some y)).set l (some z)) S1
  | _ => .no
def sSub (o i a : EF) : SF := fun ρ S => (a ρ S).sb ρ fun d S1 => (o ρ S1).sb ρ fun l S2 => (i ρ S2).sb ρ fun k S3 => match l, k with
  | .ob n, .int k => (match S3[n]? with
    | some (.lst xs) => (match ixN xs.length k with
      | some j => .nx ρ (S3.set n (.lst (xs.set j d)))
      | none => .no)
    | _ => .no)
  | _, _ => .no
def sExpr (a : EF) : SF := fun ρ S => (a ρ S).sb ρ fun _ S1 => .nx ρ S1
def sRet (a : EF) : SF := fun ρ S => (a ρ S).sb ρ fun d S1 => .rt d S1
def sRetN : SF := fun _ S => .rt .non S
def sIf (c : TF) (a b : SF) : SF := fun ρ S => (c ρ S).sb ρ fun k S1 => if k = true then a ρ S1 else b ρ S1
def sNo : SF := fun _ _ => .no
def sBrk : SF := fun ρ S => .bk ρ S
def sCnt : SF := fun ρ S => .ct ρ S
section
variable {X : Cx} {W : WX} {st : Stmt} {rest : List Stmt} {f g : SF} {e c : Expr} {fa : EF} {ga : AF} {gt : TF} {pos : Pos}
theorem dss_nil : DSs X W [] sNil := pss_wk pss_nil fun N σ H ⟨φ, ρ, S, er, sr, p⟩ => p φ σ H Ext.rfl' sr er
theorem dss_one (h : DS X W st f) : DSs X W [st] f := pss_one h
theorem dss_cons (h : DS X W st f) (h2 : DSs X W rest g) : DSs X W (st :: rest) (sSeq f g) := pss_wk (pss_cons h h2) fun N σ H ⟨φ, ρ, S, er, sr, p⟩ => by
  refine ⟨φ, ρ, S, er, sr, ?_⟩
  unfold sSeq at p
  cases e : f ρ S with
  | nx ρ' S' =>
    rw [e] at p
    exact fun φ' σ' H' e' s' er' => ⟨φ', ρ', S', er', s', postS.mono e' p⟩
  | rt d S' => rw [e] at p; exact p
  | bk ρ' S' => rw [e] at p; exact p
  | ct ρ' S' => rw [e] at p; exact p
  | ex c ρ' S' => rw [e] at p; exact p
  | no => rw [e] at p; exact p
theorem ds_no : DS X W st sNo := ps_wk ps_never fun N σ H ⟨φ, ρ, S, er, sr, p⟩ => p
theorem dss_no : DSs X W rest sNo := pss_wk pss_never fun N σ H ⟨φ, ρ, S, er, sr, p⟩ => p
theorem ds_pass : DS X W (.Pass pos) sNil := ps_wk ps_pass fun N σ H ⟨φ, ρ, S, er, sr, p⟩ => p φ σ H Ext.rfl' sr er
theorem ds_break : DS X W (.Break pos) sBrk := ps_wk ps_break fun N σ H ⟨φ, ρ, S, er, sr, p⟩ => p φ σ H Ext.rfl' sr er
theorem ds_cont : DS X W (.Continue pos) sCnt := ps_wk ps_continue fun N σ H ⟨φ, ρ, S, er, sr, p⟩ => p φ σ H Ext.rfl' sr er
theorem ds_asg {t : Tg} (h : PS X st (L2.tAsg (lE X.K W fa) (gOf X.K t))) : DS X W st (sAsg t fa) := ps_wk h fun N σ H ⟨φ, ρ, S, er, sr, p⟩ =>
  (lf.sb er sr p).imp fun x H1 ⟨φ1, S1, d, e1, sr1, r1, p1⟩ => by
    split at p1
    · rename_i ρ' hp
      exact gOf_ok sr1 t x d σ ρ ρ' N.nx (er.mono e1) r1 hp fun σ' er' _ => p1 φ1 σ' H1 Ext.rfl' sr1 er'
    · exact p1.elim
theorem ds_par {i j : Nat} (h : PS X st (tPar i j (lA X.K W ga))) : DS X W st (sPar i j ga) := ps_wk h fun N σ H ⟨φ, ρ, S, er, sr, p⟩ =>
  (lf.sb er sr p).imp fun xs H1 ⟨φ1, S1, ds, e1, sr1, r1, p1⟩ => by
    split at p1
    · cases r1 with
      | cons a b =>
        cases b with
        | cons c d =>
          cases d
          exact ⟨_, _, rfl, p1 φ1 _ H1 Ext.rfl' sr1 (((er.mono e1).set a i).set c j)⟩
    · exact p1.elim
theorem ds_par3 {i j l : Nat} (h : PS X st (tPar3 i j l (lA X.K W ga))) : DS X W st (sPar3 i j l ga) := ps_wk h fun N σ H ⟨φ, ρ, S, er, sr, p⟩ =>
  (lf.sb er sr p).imp fun xs H1 ⟨φ1, S1, ds, e1, sr1, r1, p1⟩ => by
    split at p1
    · cases r1 with
      | cons a b =>
        cases b with
        | cons c d =>
          cases d with
          | cons f g =>
            cases g
            exact ⟨_, _, _, rfl, p1 φ1 _ H1 Ext.rfl' sr1 ((((er.mono e1).set a i).set c j).set f l)⟩
    · exact p1.elim
theorem ds_sub {fo fi : EF} (h : PS X st (L2.tAsg (lE X.K W fa) (gSub (lE X.K W fo) (lE X.K W fi) rSetL))) : DS X W st (sSub fo fi fa) := ps_wk h fun N σ H ⟨φ, ρ, S, er, sr, p⟩ =>
  (lf.sb er sr p).imp fun x H1 ⟨φ1, S1, d, e1, sr1, r1, p1⟩ => (lf.sb (er.mono e1) sr1 p1).imp fun o H2 ⟨φ2, S2, l, e2, sr2, r2, p2⟩ =>
    (lf.sb ((er.mono e1).mono e2) sr2 p2).imp fun i H3 ⟨φ3, S3, k, e3, sr3, r3, p3⟩ => by
      split at p3
      · split at p3
        · rename_i xs hx
          split at p3
          · rename_i j hj
            cases r3
            cases r2 with
            | ob hn =>
              have hn3 := e3.pre _ _ hn
              obtain ⟨us, g, rs⟩ := sr3.lst hn3 hx
              refine ⟨_, us, _, j, rfl, rfl, g, by rw [rs.length]; exact hj, ?_⟩
              have ex : Ext φ3 H3 φ3 (upd H3 _ (.lst (us.set j x))) := Ext.put (by rw [g]; trivial)
              exact p3 φ3 σ _ ex (sr3.put hn3 ⟨_, upd_same, (rs.set ((r1.mono e2).mono e3) j).mono ex⟩) ((((er.mono e1).mono e2).mono e3).mono ex)
          · exact p3.elim
        · exact p3.elim
      · exact p3.elim
theorem ds_expr (h : PS X st (tDrop (lE X.K W fa))) : DS X W st (sExpr fa) := ps_wk h fun N σ H ⟨φ, ρ, S, er, sr, p⟩ =>
  (lf.sb er sr p).imp fun x H1 ⟨φ1, S1, d, e1, sr1, r1, p1⟩ => p1 φ1 σ H1 Ext.rfl' sr1 (er.mono e1)
theorem ds_ret (h : DE X W e fa) : DS X W (.Return (some e) pos) (sRet fa) := ps_wk (ps_ret h) fun N σ H ⟨φ, ρ, S, er, sr, p⟩ =>
  (lf.sb er sr p).imp fun x H1 ⟨φ1, S1, d, e1, sr1, r1, p1⟩ => p1 φ1 H1 x Ext.rfl' sr1 r1
theorem ds_retN : DS X W (.Return none pos) sRetN := ps_wk ps_retN fun N σ H ⟨φ, ρ, S, er, sr, p⟩ => p φ H .non Ext.rfl' sr .non
theorem ds_if {a b : List Stmt} (hc : DT X W c gt) (ha : DSs X W a f) (hb : DSs X W b g) : DS X W (.If c a b pos) (sIf gt f g) := ps_wk (ps_if hc ha hb) fun N σ H ⟨φ, ρ, S, er, sr, p⟩ =>
  (lf.sb er sr p).imp fun k H1 ⟨φ1, S1, k', e1, sr1, r1, p1⟩ => by
    cases r1
    split
    · rename_i h; rw [if_pos h] at p1; exact ⟨φ1, ρ, S1, er.mono e1, sr1, p1⟩
    · rename_i h; rw [if_neg h] at p1; exact ⟨φ1, ρ, S1, er.mono e1, sr1, p1⟩
end

/-! ### loops -/
def whGo (c : TF) (b : SF) : Nat → SF
  | n, ρ, S => (c ρ S).sb ρ fun k S1 => if k = true then
      (match n with
      | 0 => .no
      | n + 1 => match b ρ S1 with
        | .nx ρ' S' => whGo c b n ρ' S'
        | .ct ρ' S' => whGo c b n ρ' S'
        | .bk ρ' S' => .nx ρ' S'
        | r => r)
    else .nx ρ S1
def sWh (fuel : Lc → Sto → Nat) (c : TF) (b : SF) : SF := fun ρ S => whGo c b (fuel ρ S) ρ S
def forGo (it : Itd) (t : Tg) (b : SF) : Nat → Nat → SF
  | n, i, ρ, S => match it.at' i S with
    | none => .no
    | some none => .nx ρ S
    | some (some d) => match n with
      | 0 => .no
      | n + 1 => match t.put d ρ S with
        | none => .no
        | some ρ1 => match b ρ1 S with
          | .nx ρ' S' => forGo it t b n (i + 1) ρ' S'
          | .ct ρ' S' => forGo it t b n (i + 1) ρ' S'
          | .bk ρ' S' => .nx ρ' S'
          | r => r
def sFor (a : IF) (t : Tg) (b : SF) : SF := fun ρ S => (a ρ S).sb ρ fun it S1 => forGo it t b (it.size S1) 0 ρ S1
section
variable {X : Cx} {W : WX} {f : SF} {iter tg c : Expr} {body : List Stmt} {gi : IF} {gt : TF} {pos : Pos}
/-- the body's ends within a loop -/
theorem postS_in {φ : List Addr} {H : Hp} {N : Ends} {M : L2.St → Hp → Prop} {r : SR} {k : Lc → Sto → SR}
    (hM : ∀ φ' σ' H' ρ' S', Ext φ H φ' H' → Sr X.K φ' S' H' → Er X.K φ' H' σ' ρ' → postS X.K W φ' H' N (k ρ' S') → M σ' H')
    (p : postS X.K W φ H N (match r with | .nx ρ' S' => k ρ' S' | .ct ρ' S' => k ρ' S' | .bk ρ' S' => .nx ρ' S' | r => r)) : postS X.K W φ H { N with nx := M, ct := M, bk := N.nx } r := by
  cases r with
  | nx ρ' S' => exact fun φ' σ' H' e s er => hM φ' σ' H' ρ' S' e s er (postS.mono e p)
  | ct ρ' S' => exact fun φ' σ' H' e s er => hM φ' σ' H' ρ' S' e s er (postS.mono e p)
  | bk ρ' S' => exact p
  | rt d S' => exact p
  | ex c ρ' S' => exact p
  | no => exact p
theorem ds_while {fuel : Lc → Sto → Nat} (h : PS X (.While c body [] pos) (tWhile (lT X.K W gt) (lS X.K W f))) : DS X W (.While c body [] pos) (sWh fuel gt f) := ps_wk h fun N σ H ⟨φ, ρ, S, er, sr, p⟩ => by
  refine ⟨fun n σ H => ∃ φ ρ S, Er X.K φ H σ ρ ∧ Sr X.K φ S H ∧ postS X.K W φ H N (whGo gt f n ρ S), ⟨fuel ρ S, φ, ρ, S, er, sr, p⟩, ?_⟩
  rintro n σ H ⟨φ, ρ, S, er, sr, p⟩
  unfold whGo at p
  refine (lf.sb er sr p).imp fun k H1 ⟨φ1, S1, k', e1, sr1, r1, p1⟩ => ?_
  cases r1
  split
  · rename_i hk
    rw [if_pos hk] at p1
    cases n with
    | zero => exact p1.elim
    | succ n =>
      refine ⟨fun σ' H' => ∃ φ ρ S, Er X.K φ H' σ' ρ ∧ Sr X.K φ S H' ∧ postS X.K W φ H' N (whGo gt f n ρ S), fun σ' H' w => ⟨n, Nat.lt_succ_self n, w⟩, φ1, ρ, S1, er.mono e1, sr1, ?_⟩
      exact postS_in (k := whGo gt f n) (fun φ' σ' H' ρ' S' _ s er q => ⟨φ', ρ', S', er, s, q⟩) p1
  · rename_i hk
    rw [if_neg hk] at p1
    exact p1 φ1 σ H1 Ext.rfl' sr1 (er.mono e1)
theorem ds_for {t : Tg} (h : PS X (.For tg iter body [] pos) (L2.tFor (lf (ItR X.K) X.K W gi) (gOf X.K t) (lS X.K W f))) : DS X W (.For tg iter body [] pos) (sFor gi t f) := ps_wk h fun N σ H ⟨φ, ρ, S, er, sr, p⟩ =>
  (lf.sb er sr p).imp fun J H1 ⟨φ1, S1, it, e1, sr1, r1, p1⟩ => by
    refine ⟨fun i n σ H => ∃ φ ρ S, Ext φ1 H1 φ H ∧ Er X.K φ H σ ρ ∧ Sr X.K φ S H ∧ postS X.K W φ H N (forGo it t f n i ρ S), ⟨it.size S1, φ1, ρ, S1, Ext.rfl', er.mono e1, sr1, p1⟩, ?_⟩
    rintro i n σ H ⟨φ, ρ, S, ex, er, sr, p⟩
    have J1 := r1 i φ S H ex sr
    unfold forGo at p
    cases ha : it.at' i S with
    | none => rw [ha] at p; exact p.elim
    | some o =>
      rw [ha] at p J1
      cases o with
      | none => exact .inl ⟨J1, p φ σ H Ext.rfl' sr er⟩
      | some d =>
        obtain ⟨go, yld⟩ := J1
        cases n with
        | zero => exact p.elim
        | succ n =>
          refine .inr ⟨go, fun σ' H' => ∃ φ ρ S, Ext φ1 H1 φ H' ∧ Er X.K φ H' σ' ρ ∧ Sr X.K φ S H' ∧ postS X.K W φ H' N (forGo it t f n (i + 1) ρ S), fun σ' H' w => ⟨n, Nat.lt_succ_self n, w⟩, fun x H' hy => ?_⟩
          obtain ⟨ex2, sr2, rx⟩ := yld x H' hy
          simp only at p
          split at p
          · exact p.elim
          · rename_i ρ1 hp
            refine gOf_ok sr2 t x d σ ρ ρ1 _ (er.mono ex2) rx hp fun σ' er' _ => ⟨φ, ρ1, S, er', sr2, ?_⟩
            exact postS_in (k := forGo it t f n (i + 1)) (fun φ' σ' H'' ρ' S' e' s er q => ⟨φ', ρ', S', (ex.trans ex2).trans e', er, s, q⟩) (postS.mono ex2 p)
end

/-! ### comprehensions -/
theorem wipe_wipe {σ : L2.St} {vs : List Nat} : wipe (wipe σ vs) vs = wipe σ vs := by
  refine List.ext_getElem? fun i => ?_
  rw [wipe_at, wipe_length]
  by_cases hc : i ∈ vs ∧ i < σ.length
  · rw [if_pos hc, wipe_at, if_pos hc]
  · rw [if_neg hc]
def wipeD (ρ : Lc) : List Nat → Lc
  | [] => ρ
  | v :: vs => (wipeD ρ vs).set v none
theorem Er.wipe {K : PySem.W.Frag} {φ : List Addr} {H : Hp} {σ : L2.St} {ρ : Lc} (er : Er K φ H σ ρ) : ∀ vs, Er K φ H (wipe σ vs) (wipeD ρ vs)
  | [] => er
  | v :: vs => by
    have ih := er.wipe vs
    refine ⟨by simp [L2.wipe, wipeD, ih.len], fun i d h => ?_⟩
    unfold wipeD at h
    unfold L2.wipe
    rw [List.getElem?_set] at h ⊢
    by_cases hv : v = i
    · rw [if_pos hv] at h
      split at h <;> cases h
    · rw [if_neg hv] at h ⊢
      exact ih.at' i d h
def lcGo (it : Itd) (t : Tg) (c : TF) (e : EF) (ρ : Lc) (k : Nat) : Nat → Nat → Sto → Res D
  | n, i, S => match it.at' i S with
    | none => .no
    | some none => .ok (.ob k) S
    | some (some d) => match n with
      | 0 => .no
      | n + 1 => match t.put d ρ S with
        | none => .no
        | some ρ1 => match c ρ1 S with
          | .ok false S2 => lcGo it t c e ρ k n (i + 1) S2
          | .ok true S2 => (match e ρ1 S2 with
            | .ok y S3 => (match S3[k]? with
              | some (.lst acc) => if szOk acc.length then lcGo it t c e ρ k n (i + 1) (S3.set k (.lst (acc ++ [y]))) else .no
              | _ => .no)
            | _ => .no)
          | _ => .no
def eLc (a : IF) (t : Tg) (c : TF) (e : EF) (own : List Nat) : EF := fun ρ S => (a ρ S).bind fun it S1 => lcGo it t c e (wipeD ρ own) S1.length (it.size S1) 0 (S1 ++ [.lst []])
def cYes : TF := fun _ S => .ok true S
section
variable {X : Cx} {W : WX} {w : Expr} {gi : IF} {gt : TF} {fe : EF} {t : Tg} {own : List Nat}
theorem tLc_of (ho : ∀ j ∈ t.slots, j ∈ own) : ∀ σ H Q, lE X.K W (eLc gi t gt fe own) σ H Q → L2.tLc (lf (ItR X.K) X.K W gi) (gOf X.K t) (lT X.K wF gt) (lE X.K wF fe) own σ H Q := fun σ H Q ⟨φ, ρ, S, er, sr, p⟩ =>
  (lf.bind er sr p).imp fun J H1 ⟨φ1, S1, it, e1, sr1, r1, p1⟩ => fun Dn hD => by
    have eD := Ext.newSnoc (φ := φ1) (o := .lst []) hD
    have srD := sr1.snoc (o := .lst []) (u := .lst []) hD ⟨[], upd_same, .nil⟩
    refine ⟨fun i n H => ∃ φ S, Ext φ1 H1 φ H ∧ φ[S1.length]? = some Dn ∧ Sr X.K φ S H ∧ post (Rp X.K) X.K W φ H σ Q (lcGo it t gt fe (wipeD ρ own) S1.length n i S),
      ⟨it.size S1, φ1 ++ [Dn], _, eD, at_snoc sr1 Dn, srD, post.mono eD p1⟩, ?_⟩
    rintro i n H ⟨φ, S, ex, hk, sr, p⟩
    have J1 := r1 i φ S H ex sr
    unfold lcGo at p
    cases ha : it.at' i S with
    | none => rw [ha] at p; exact p.elim
    | some o =>
      rw [ha] at p J1
      cases o with
      | none => exact .inl ⟨J1, p φ H _ Ext.rfl' sr (.ob hk)⟩
      | some d =>
        obtain ⟨go, yld⟩ := J1
        cases n with
        | zero => exact p.elim
        | succ n =>
          refine .inr ⟨go, fun H' => ∃ φ S, Ext φ1 H1 φ H' ∧ φ[S1.length]? = some Dn ∧ Sr X.K φ S H' ∧ post (Rp X.K) X.K W φ H' σ Q (lcGo it t gt fe (wipeD ρ own) S1.length n (i + 1) S), fun H' w => ⟨n, Nat.lt_succ_self n, w⟩, fun x H' hy => ?_⟩
          obtain ⟨ex2, sr2, rx⟩ := yld x H' hy
          simp only at p
          split at p
          · exact p.elim
          · rename_i ρ1 hp
            have erw := ((er.mono e1).mono (ex.trans ex2)).wipe own
            refine gOf_ok sr2 t x d (wipe σ own) (wipeD ρ own) ρ1 _ erw rx hp fun σ2 er2 sb => ⟨(sb.mono ho).wipe.trans wipe_wipe, φ, ρ1, S, er2, sr2, ?_⟩
            split at p
            · rename_i S2 hc
              rw [hc]
              intro φ3 H3 b e3 sr3 hb
              cases hb
              rw [if_neg Bool.false_ne_true]
              exact ⟨φ3, S2, (ex.trans ex2).trans e3, e3.pre _ _ hk, sr3, post.mono (ex2.trans e3) p⟩
            · rename_i S2 hc
              rw [hc]
              intro φ3 H3 b e3 sr3 hb
              cases hb
              rw [if_pos rfl]
              refine ⟨φ3, ρ1, S2, er2.mono e3, sr3, ?_⟩
              split at p
              · rename_i y S3 hy
                rw [hy]
                intro φ4 H4 yv e4 sr4 ry
                split at p
                · rename_i acc hacc
                  split at p
                  · rename_i hz
                    have hk4 := e4.pre _ _ (e3.pre _ _ hk)
                    obtain ⟨us, g, rs⟩ := sr4.lst hk4 hacc
                    refine ⟨us, g, by rw [rs.length]; exact szOk.lt hz, ?_⟩
                    have ex5 : Ext φ4 H4 φ4 (upd H4 Dn (.lst (us ++ [yv]))) := Ext.put (by rw [g]; trivial)
                    exact ⟨φ4, _, (((ex.trans ex2).trans e3).trans e4).trans ex5, hk4, sr4.put (u := .lst (acc ++ [y])) hk4 ⟨_, upd_same, (rs.append (.cons ry .nil)).mono ex5⟩, post.mono (((ex2.trans e3).trans e4).trans ex5) p⟩
                  · exact p.elim
                · exact p.elim
              · exact p.elim
            · exact p.elim
theorem de_lc {own' : List (Str × Nat)} (h : PE X w (L2.tLc (lf (ItR X.K) X.K W gi) (gOf X.K t) (lT X.K wF gt) (lE X.K wF fe) (own'.map (·.2)))) (ho : ∀ j ∈ t.slots, j ∈ own'.map (·.2)) : DE X W w (eLc gi t gt fe (own'.map (·.2))) :=
  pe_wk h (tLc_of ho)
/-- a comprehension without a test: its test as the hand layer has it -/
theorem tYes_of : ∀ σ H Q, lT X.K W cYes σ H Q → tYes σ H Q := fun σ H Q ⟨φ, ρ, S, er, sr, p⟩ => p φ H true Ext.rfl' sr rfl
end
/-! ### a def -/
def runF (N n : Nat) (b : SF) : FF := fun ds S => match b (ds.map some ++ List.replicate (N - n) none) S with
  | .rt d S' => .ok d S'
  | .nx _ S' => .ok .non S'
  | _ => .no
theorem start_er {K : PySem.W.Frag} {φ : List Addr} {H : Hp} {N : List Str} {vs : List V} {ds : List D} (r : Rps K φ H vs ds) {n : Nat} (hn : vs.length = n) : Er K φ H (L2.start N vs) (ds.map some ++ List.replicate (N.length - n) none) := by
  subst hn
  refine ⟨by simp [L2.start, r.length], fun i d h => ?_⟩
  by_cases hi : i < ds.length
  · rw [List.getElem?_append_left (by simpa using hi), List.getElem?_map] at h
    cases e : ds[i]? with
    | none => rw [e] at h; cases h
    | some d' =>
      rw [e] at h
      cases h
      obtain ⟨v, hv, rv⟩ := r.get e
      refine ⟨v, ?_, rv⟩
      unfold L2.start
      rw [List.getElem?_append_left (by simpa [r.length] using hi), List.getElem?_map, hv]
      rfl
  · rw [List.getElem?_append_right (by simpa using hi), List.getElem?_replicate] at h
    split at h <;> cases h
theorem fn_ok {P : Program} {w : World} {K : PySem.W.Frag} {mg : Str → Option Value} {base : Heap} {x qual : Str} {st : Stmt} {f : Addr} {fd : FuncData} {N ps : List Str} {k : Nat} {b : SF} (F : Fun K x qual st f fd) (S : FnScope N ps (defScope st))
    (hb : ∀ (cdv : Value) (A : Around) (outer : List Env) (s : Shared) (H : Hp) (E : XK), Room k (A.deeper (envOfC qual (defScope st) s.heap.objs.size f cdv)) →
      DSs (cxOf CX0 P w K mg base N qual (defScope st) f cdv A outer s H E).nox wF (defBody st) b) :
    FnOk P w K mg base CX0 (k + 1) f fd ps (spF K ps.length (runF N.length ps.length b)) := by
  refine F.ok S (fun vs H Q E h => h.1) (fun cdv A outer s H vs Q E hr h => ?_)
  obtain ⟨hl, φ, ds, S0, rs, sr, p⟩ := h
  refine ⟨_, hb cdv A outer s H E hr, φ, _, S0, start_er rs hl, sr, ?_⟩
  unfold runF at p
  split at p
  · rename_i d S' e
    rw [e]
    exact fun φ' H' v e' s' r' => p φ' H' v e' s' r'
  · rename_i ρ S' e
    rw [e]
    exact fun φ' σ' H' e' s' r' => p φ' H' .non e' s' .non
  · exact p.elim
end DL
set_option Elab.async false
set_option linter.all false
set_option maxRecDepth 100000
noncomputable section
namespace DL
open PySem PySem.Spec PyProof.Rows L2

section
variable {X : Cx} {W : WX} {e tg iter : Expr} {es : List Expr} {fa : EF} {ga : AF} {pos : Pos}
theorem de_callB {w : Expr} {r : List V → Hp → VK → Prop} {c : FF} (h : PE X w (tCB r (lA X.K W ga))) (hc : Cal X.K r c) : DE X W w (eB c ga) := pe_wk h (tCB_of hc)
/-- targets -/
theorem dg_nm {i : Nat} {t : Expr} (h : PG X t (gName i)) : PG X t (gOf X.K (.nm i)) := by unfold gOf; exact h
theorem dg_tp {ts : List Tg} {t : Expr} (h : PG X t (gTup X.K ts.length (gsOf X.K ts))) : PG X t (gOf X.K (.tp ts)) := by unfold gOf; exact h
theorem dg_ls {ts : List Tg} {t : Expr} (h : PG X t (gLst X.K ts.length (gsOf X.K ts))) : PG X t (gOf X.K (.ls ts)) := by unfold gOf; exact h
theorem dgs_nil : PGs X [] (gsOf X.K []) := by unfold gsOf; exact pgs_nil
theorem dgs_cons {t : Tg} {ts : List Tg} (h : PGs X (e :: es) (gCons (gOf X.K t) (gsOf X.K ts))) : PGs X (e :: es) (gsOf X.K (t :: ts)) := by unfold gsOf; exact h
theorem dts_nil : PTs X [] (lT X.K W cYes) := ⟨fun pins s σ H Q I z => pts_nil.run pins s σ H Q I (tYes_of σ H Q z)⟩
theorem dts_one {gt : TF} (h : DT X W e gt) : PTs X [e] (lT X.K W gt) := pts_one h
theorem ds_setLc {st : Stmt} {i : Nat} {gi : IF} {gt : TF} {fe : EF} {t : Tg} {own' : List (Str × Nat)} (h : PS X st (L2.tAsg (L2.tLc (lf (ItR X.K) X.K W gi) (gOf X.K t) (lT X.K wF gt) (lE X.K wF fe) (own'.map (·.2))) (gName i))) (ho : ∀ j ∈ t.slots, j ∈ own'.map (·.2)) :
    DS X W st (sAsg (.nm i) (eLc gi t gt fe (own'.map (·.2)))) :=
  ds_asg (ps_wk h fun N σ H z => tLc_of ho σ H _ (z.imp fun x H1 q => by unfold gOf at q; exact q))
def eNeg (a : EF) : EF := fun ρ S => (a ρ S).bind fun d S1 => match d with | .int i => .ok (.int (-i)) S1 | _ => .no
theorem de_neg (h : DE X W e fa) : DE X W (.UnaryOp .USub e pos) (eNeg fa) := pe_wk (pe_un un_neg h) fun σ H Q ⟨φ, ρ, S, er, sr, p⟩ =>
  (lf.bind er sr p).imp fun x H1 ⟨φ1, S1, d, e1, sr1, r1, p1⟩ => by
    split at p1
    · cases r1
      exact ⟨_, rfl, p1 φ1 H1 _ Ext.rfl' sr1 (.int _)⟩
    · exact p1.elim
end
/-- the script's slice: a new list of its ints -/
def eRo (a : EF) (lo hi : PF) : EF := fun ρ S => (a ρ S).bind fun d S1 => (lo ρ S1).bind fun l S2 => (hi ρ S2).bind fun u S3 => match d with
  | .ro ns => .ok (.ob S3.length) (S3 ++ [.lst ((cutD ns l u).map D.int)])
  | _ => .no
theorem Rps.ints {K : PySem.W.Frag} {φ : List Addr} {H : Hp} : ∀ ns : List Int, Rps K φ H (ns.map V.int) (ns.map D.int)
  | [] => .nil
  | n :: ns => .cons (.int n) (Rps.ints ns)
theorem cutV_map (ns : List Int) (lo hi : Option Int) : cutV (ns.map V.int) lo hi = (cutD ns lo hi).map V.int := by
  unfold cutV cutD
  rw [List.length_map, List.map_take, List.map_drop]
theorem de_ro {X : Cx} {W : WX} {a : Expr} {lo hi : Option Expr} {fa : EF} {fl fh : PF} {p2 pos : Pos} (ha : DE X W a fa) (hl : DO X W lo fl) (hh : DO X W hi fh) : DE X W (.Subscript a (.Slice lo hi none p2) pos) (eRo fa fl fh) :=
  pe_wk (pe_slice sl_list ha hl hh) fun σ H Q ⟨φ, ρ, S, er, sr, p⟩ => (lf.bind er sr p).imp fun x H1 ⟨φ1, S1, d, e1, sr1, r1, p1⟩ =>
    (lf.bind (er.mono e1) sr1 p1).imp fun l H2 ⟨φ2, S2, l', e2, sr2, r2, p2⟩ => (lf.bind ((er.mono e1).mono e2) sr2 p2).imp fun u H3 ⟨φ3, S3, u', e3, sr3, r3, p3⟩ => by
      cases r2; cases r3
      have r1' := (r1.mono e2).mono e3
      cases d with
      | ro ns =>
        cases r1' with
        | ro h =>
          refine ⟨_, ns.map V.int, rfl, ?_, fun q hq => ?_⟩
          · rcases h with ⟨o, h⟩ | (h | ⟨o, h⟩) | h
            · exact .inl (.inr ⟨o, h⟩)
            · cases h
            · cases h
            · exact .inr h
          rw [cutV_map]
          have e := Ext.newSnoc (φ := φ3) (o := .lst ((cutD ns l u).map V.int)) hq
          exact p3 _ _ _ e (sr3.snoc hq ⟨_, upd_same, Rps.ints _⟩) (.ob (at_snoc sr3 q))
      | _ => exact p3.elim

/-- a def of the text, as the top has left it -/
def FnAt (K : PySem.W.Frag) (mg : Str → Option Value) (x : Str) (st : Stmt) (ps : List Str) : Prop :=
  ∃ a fd, Fun K x x st a fd ∧ mg x = some (.ref a) ∧ Binds K fd ps []
/-- a def that keeps its promise: it does what F says -/
def Def (P : Program) (w : World) (K : PySem.W.Frag) (mg : Str → Option Value) (base : Heap) (x : Str) (ps : List Str) (k n : Nat) (F : FF) : Prop :=
  ∃ a fd, FnOk P w K mg base CX0 k a fd ps (spF K n F) ∧ mg x = some (.ref a) ∧ PySem.W.keepIn K (.ref a) = true ∧ Binds K fd ps []
theorem def_ok {P : Program} {w : World} {K : PySem.W.Frag} {mg : Str → Option Value} {base : Heap} {x : Str} {st : Stmt} {N ps : List Str} {k : Nat} {b : SF} (A : FnAt K mg x st ps) (S : FnScope N ps (defScope st))
    (hb : ∀ (f : Addr) (cdv : Value) (A : Around) (outer : List Env) (s : Shared) (H : Hp) (E : XK), Room k (A.deeper (envOfC x (defScope st) s.heap.objs.size f cdv)) →
      DSs (cxOf CX0 P w K mg base N x (defScope st) f cdv A outer s H E).nox wF (defBody st) b) : Def P w K mg base x ps (k + 1) ps.length (runF N.length ps.length b) := by
  obtain ⟨a, fd, F, g, bi⟩ := A
  exact ⟨a, fd, fn_ok F S (hb a), g, F.kp, bi⟩
theorem de_callD {X : Cx} {W : WX} {k j n : Nat} {ps : List Str} {F : FF} {x : Str} {p pos : Pos} {e : Expr} {es : List Expr} {ga : AF}
    (d : Def X.prog X.w X.K X.mg X.base x ps k n F) (hr : Room j X.A) (hkj : k ≤ j) (hg : Gl X x) (ha : DA X W (e :: es) ga) (hl : aLen ga n) (hdb : (x == ("__debug__" : Str)) = false := by decide)
    (he : starEach (e :: es) X.env = (false, eval e X.env) :: starEach es X.env := by rfl) (hpl : (backTo pos (starEach es X.env)).any (·.1) = false := by rfl) :
    DE X W (.Call (.Name x p) (e :: es) [] pos) (eCall F ga) := by
  obtain ⟨a, fd, G, hm, hk, hb⟩ := d
  exact de_call G (hr.mono hkj) hg hm hk hb ha hl hdb he hpl
theorem fnat_mk {K : PySem.W.Frag} {mg : Str → Option Value} {h : Heap} {x : Str} {st : Stmt} {f : Addr} {ps : List Str} {oc : Value} {od an : Option Addr} {osl : Array (Option Value)} {kV doc pm cdv ct : Value} (X : K.In h) (G : h.Ns mainGlobals mg)
    (a : PySem.W.nsIn K mainGlobals x = some (some (.ref f))) (l : K.lookup f = some ⟨oc, od, .func (PySem.W.fnOf x x (defArgs st) (defBody st) (defScope st) .none kV doc pm an cdv ct), osl⟩)
    (c : PySem.W.codeIn K cdv x = true) (k : PySem.W.keepIn K (.ref f) = true)
    (hb : ∀ (kV doc pm : Value) (an : Option Addr) (cdv ct : Value) (us : List Value), us.length = ps.length → bindArgs (PySem.W.fnOf x x (defArgs st) (defBody st) (defScope st) .none kV doc pm an cdv ct) ⟨us, []⟩ = pure (ps.zip us)) : FnAt K mg x st ps :=
  ⟨f, _, fun_mk l c k, PySem.W.mg_of X G a, (fun_mk l c k).binds hb⟩
/-- the law's promise: True, of every script -/
def spLaw (K : PySem.W.Frag) : Sp := fun vs H Q _ => ∃ (a : Addr) (ns : List Int), vs = [.ref a] ∧ SqL K H a (ns.map V.int) ∧ Only H ∧ ns.length ≤ 63 ∧ ∀ H', Q (.bl true) H'
theorem law_of {P : Program} {w : World} {K : PySem.W.Frag} {mg : Str → Option Value} {base : Heap} {f : Addr} {fd : FuncData} {k : Nat} {ps : List Str} {F : FF} (h : FnOk P w K mg base CX0 k f fd ps (spF K 1 F))
    (hF : ∀ ns : List Int, ns.length ≤ 63 → ∃ S, F [.ro ns] [] = .ok (.bl true) S) : FnOk P w K mg base CX0 k f fd ps (spLaw K) := h.imp fun vs H Q E ⟨a, ns, e, hs, ho, hl, q⟩ => by
  subst e
  obtain ⟨S, hS⟩ := hF ns hl
  refine ⟨rfl, [], [.ro ns], [], .cons (.ro ?_) .nil, ⟨rfl, List.nodup_nil, fun n o h => by simp at h⟩, ?_⟩
  · rcases hs with (h | ⟨o, h⟩) | h
    · rcases ho a with z | ⟨o, xs, z⟩
      · rw [h] at z; cases z
      · rw [h] at z; cases z
    · exact .inl ⟨o, h⟩
    · exact .inr (.inr h)
  · rw [hS]
    intro φ' H' v _ _ r
    cases r
    exact q H'
end DL
namespace DL
open PySem PySem.Spec PyProof.Rows L2
theorem def_no {P : Program} {w : World} {K : PySem.W.Frag} {mg : Str → Option Value} {base : Heap} {x : Str} {st : Stmt} {ps : List Str} {k n : Nat} (A : FnAt K mg x st ps) (hn : ps.length = n) : Def P w K mg base x ps k n (fun _ _ => .no) := by
  obtain ⟨a, fd, F, g, bi⟩ := A
  refine ⟨a, fd, ⟨fun vs H Q E h => h.1.trans hn.symm, fun A outer s H args us vs Q E hr he hb hv h => ?_⟩, g, F.kp, bi⟩
  obtain ⟨_, φ, ds, S, _, _, p⟩ := h
  exact p.elim
end DL
namespace DL
open PySem PySem.Spec PyProof.Rows L2
/-! ### the module's constants -/
def GInt (mg : Str → Option Value) (x : Str) (i : Int) : Prop := ∃ t, mg x = some (.int i t)
def GTup (K : PySem.W.Frag) (mg : Str → Option Value) (x : Str) (ds : List D) : Prop := ∃ a, mg x = some (.ref a) ∧ ∀ φ H, Rp K φ H (.ref a) (.tup ds)
theorem de_gint {X : Cx} {W : WX} {x : Str} {i : Int} {pos : Pos} (h : GInt X.mg x i) (hg : Gl X x) (hd : (x == ("__debug__" : Str)) = false := by decide) : DE X W (.Name x pos) (eC (.int i)) := by
  obtain ⟨t, h⟩ := h
  exact de_con (pe_glob (v := .int i) hg h ⟨t, rfl⟩ hd) fun _ _ => .int i
theorem de_gtup {X : Cx} {W : WX} {x : Str} {ds : List D} {pos : Pos} (h : GTup X.K X.mg x ds) (hg : Gl X x) (hd : (x == ("__debug__" : Str)) = false := by decide) : DE X W (.Name x pos) (eC (.tup ds)) := by
  obtain ⟨a, h, r⟩ := h
  exact de_con (pe_glob (v := .ref a) hg h rfl hd) r
theorem gtup_mk {K : PySem.W.Frag} {mg : Str → Option Value} {x : Str} {a : Addr} {od : Option Addr} {its : Array Value} {n : Nat} {sl : Array (Option Value)} {vs : List V} {ds : List D} (m : mg x = some (.ref a))
    (l : K.lookup a = some ⟨.type "tuple", od, .seq its n, sl⟩) (hz : its.size ≤ sizeLine) (hv : Vals vs its.toList) (hr : ∀ φ H, Rps K φ H vs ds) : GTup K mg x ds :=
  ⟨a, m, fun φ H => .tup (.inr ⟨_, its, n, l, rfl, rfl, hz, hv⟩) (hr φ H)⟩
end DL
namespace DL
open PySem PySem.Spec PyProof.Rows L2
/-- x += e, ints -/
def sAug (i : Nat) (a : EF) : SF := fun ρ S => match ρ[i]? with
  | some (some (.int x)) => (a ρ S).sb ρ fun d S1 => (match d with | .int y => .nx (ρ.set i (some (.int (x + y)))) S1 | _ => .no)
  | _ => .no
theorem ds_aug {X : Cx} {W : WX} {st : Stmt} {i : Nat} {fa : EF} (h : PS X st (L2.tAug i (lE X.K W fa) (ipI fun a b => a + b))) : DS X W st (sAug i fa) := ps_wk h fun N σ H ⟨φ, ρ, S, er, sr, p⟩ => by
  unfold sAug at p
  split at p
  · rename_i x hx
    obtain ⟨v, hv, rv⟩ := er.at' i _ hx
    refine ⟨v, hv, (lf.sb er sr p).imp fun y H1 ⟨φ1, S1, d, e1, sr1, r1, p1⟩ => ?_⟩
    split at p1
    · cases rv; cases r1
      exact ⟨_, _, rfl, rfl, p1 φ1 _ H1 Ext.rfl' sr1 ((er.mono e1).set (.int _) i)⟩
    · exact p1.elim
  · exact p.elim
end DL
set_option Elab.async false
set_option linter.all false
set_option maxRecDepth 100000
noncomputable section
namespace DL
open PySem PySem.Spec PyProof.Rows L2
/-! ### xs[::-1] of a list -/
def eRev (a : EF) : EF := fun ρ S => (a ρ S).bind fun d S1 => match d with
  | .ob n => (match S1[n]? with
    | some (.lst xs) => .ok (.ob S1.length) (S1 ++ [.lst xs.reverse])
    | _ => .no)
  | _ => .no
theorem pe_revL {X : Cx} {e : Expr} {te : TE} {p1 p2 p3 pos : Pos} {k : Nat} (he : PE X e te) :
    PE X (.Subscript e (.Slice none none (some (.UnaryOp .USub (.Constant (.int 1) k p1) p2)) p3) pos) (fun σ H Q => te σ H fun x H1 => ∃ a xs, x = .ref a ∧ SqL X.K H1 a xs ∧ ∀ p, H1 p = none → Q (.ref p) (upd H1 p (.lst xs.reverse))) := by
  refine ⟨fun pins s σ H Q I h => ?_⟩
  refine Subscript_ (thn (he.run pins s σ H _ I h) fun v s1 ⟨x, H1, I1, r1, a, xs, ex, hs, q1⟩ => ?_)
  subst ex
  cases r1
  refine wpAny_Slice ?_
  rw [evalPart_none]
  refine wpAny_pure (wpAny_pure ?_)
  show wpAny _ _ (eval (.UnaryOp .USub (.Constant (.int 1) k p1) p2) X.env) _ _ s1
  refine thn ((pe_un un_neg (pe_int (X := X) (i := 1) (j := k) (pos := p1)) (pos := p2)).run pins s1 σ H1 (fun v H2 => v = .int (-1) ∧ H2 = H1) I1 ⟨1, rfl, rfl, rfl⟩) fun u s2 ⟨y, H2, I2, r2, e1, e2⟩ => ?_
  subst e1; subst e2
  obtain ⟨t, rfl⟩ := r2
  obtain ⟨its, r, ht, hz⟩ := I2.list hs
  have I3 : Inv X pins σ H2 { s2 with heap := s2.heap.push { cls := .type "slice", data := .fields #[.none, .none, .int (-1) t] } } := I2.kept (t' := s2.toks) fun b ob q => Heap.get?_push_of_some _ q
  obtain ⟨its', r', ht', hz'⟩ := I3.list hs
  show wpAny (model X.prog X.w) X.A (subscriptTail e (.Slice none none (some (.UnaryOp .USub (.Constant (.int 1) k p1) p2)) p3) (.ref a) (.ref s2.heap.objs.size)) (EP X pins σ Q) X.xe { s2 with heap := s2.heap.push { cls := .type "slice", data := .fields #[.none, .none, .int (-1) t] } }
  refine tail_any (ops := _) ht'.isList.typeIs slot_list_getitem.lookup ?_ (by with_unfolding_all rfl)
  refine wpAny_getItem_list_slice (hi := none) (lo := none) (st := some (-1)) ht'.isList (Heap.IsSliceOf.new ..) .none .none (.int _ _) (by decide) ?_ (by rw [List.size_toArray, ← r'.length]; exact hz')
  rw [PySem.W.krv_pick]
  refine ⟨.ref _, _, I3.laid (t' := s2.toks) (o := .lst xs.reverse) (fun b ob q => Heap.get?_push_of_some _ q) (Nat.le_refl _) ?_, rfl, q1 _ (I3.hok.fresh (Nat.le_refl _))⟩
  exact ⟨by rw [List.length_reverse]; exact hz', its'.reverse, 0, r'.reverse, Heap.get?_push_size _ rfl⟩
theorem de_rev {X : Cx} {W : WX} {e : Expr} {fa : EF} {p1 p2 p3 pos : Pos} {k : Nat} (ha : DE X W e fa) : DE X W (.Subscript e (.Slice none none (some (.UnaryOp .USub (.Constant (.int 1) k p1) p2)) p3) pos) (eRev fa) :=
  pe_wk (pe_revL ha) fun σ H Q ⟨φ, ρ, S, er, sr, p⟩ => (lf.bind er sr p).imp fun x H1 ⟨φ1, S1, d, e1, sr1, r1, p1⟩ => by
    split at p1
    · split at p1
      · rename_i xs hx
        cases r1 with
        | ob hn =>
          obtain ⟨us, g, rs⟩ := sr1.lst hn hx
          refine ⟨_, us, rfl, .of g, fun q hq => ?_⟩
          have e := Ext.newSnoc (φ := φ1) (o := .lst us.reverse) hq
          exact p1 _ _ _ e (sr1.snoc hq ⟨_, upd_same, rs.reverse.mono e⟩) (.ob (at_snoc sr1 q))
      · exact p1.elim
    · exact p1.elim
/-! ### xs.count(b), truths -/
def eqb (k : Bool) (v : Value) : Bool := match v with
  | .bool b => b == k
  | _ => false
theorem vals_bools : ∀ {bs : List Bool} {us : List Value}, Vals (bs.map V.bl) us → us = bs.map Value.bool
  | [], _, .nil => rfl
  | b :: bs, _, .cons r h => by
    cases r
    rw [vals_bools h]
    rfl
theorem eqb_count (k : Bool) : ∀ bs : List Bool, (bs.map Value.bool).countP (eqb k) = bs.count k
  | [] => rfl
  | b :: bs => by
    rw [List.map_cons, List.countP_cons, List.count_cons, eqb_count k bs]
    rfl
def rCntB (K : PySem.W.Frag) : V → List V → Hp → VK → Prop := fun x xs H Q => ∃ (p : Addr) (bs : List Bool) (k : Bool), x = .ref p ∧ xs = [.bl k] ∧ SqL K H p (bs.map V.bl) ∧ Q (.int (bs.count k : Nat)) H
theorem mt_bcount {X : Cx} : MtR X "list.count" (rCntB X.K) := by
  intro pins s σ H x xs v us Q I rx rxs h
  obtain ⟨p, bs, k, rfl, rfl, hs, q⟩ := h
  cases rx
  obtain ⟨u, rfl, ru⟩ := rxs.one
  cases ru
  obtain ⟨its, rv, ⟨⟨cls, dd, data, sl⟩, n, ho, hc, hdn, hd⟩, hlen⟩ := I.list hs
  simp only at hc hd
  subst hc hd
  have hi := vals_bools rv
  subst hi
  refine call_meets PySem.F.slot_list_count ⟨_, ho, rfl⟩ PySem.F.entry_list_count (PySem.F.args_list_count_2 _ _)
    (SeqAt.list_countAt p _ n dd sl (.bool k) (eqb k)) ⟨ho, fun y hy => ?_, ?_⟩
  · have hy' : y ∈ bs.map Value.bool := List.mem_toArray.mp hy
    obtain ⟨b, _, rfl⟩ := List.mem_map.mp hy'
    exact SeqAt.EqAt.bool_bool b k
  · refine ⟨.int (bs.count k : Nat), H, I.tok _, ⟨s.toks, ?_⟩, q⟩
    show Value.int (((bs.map Value.bool).countP (eqb k) : Nat) : Int) s.toks = Value.int ((bs.count k : Nat) : Int) s.toks
    rw [eqb_count]
def eCnt (a b : EF) : EF := fun ρ S => (a ρ S).bind fun l S1 => match l with
  | .ob n => (match S1[n]? with
    | some (.lst _) => (b ρ S1).bind fun d S2 => (match S2[n]? with
      | some (.lst xs) => (match d, allBl xs with
        | .bl k, some bs => .ok (.int (bs.count k : Nat)) S2
        | _, _ => .no)
      | _ => .no)
    | _ => .no)
  | _ => .no
theorem de_cnt {X : Cx} {W : WX} {w : Expr} {fa fb : EF} (h : PE X w (tBM X.K "list" (rCntB X.K) (lE X.K W fa) (tCons (lE X.K W fb) tNil))) : DE X W w (eCnt fa fb) :=
  pe_wk h fun σ H Q ⟨φ, ρ, S, er, sr, p⟩ => (lf.bind er sr p).imp fun x H1 ⟨φ1, S1, d, e1, sr1, r1, p1⟩ => by
    split at p1
    · split at p1
      · rename_i ys hy
        cases r1 with
        | ob hn =>
          obtain ⟨us, g, rs⟩ := sr1.lst hn hy
          refine ⟨.inl ⟨rfl, _, .of g⟩, ?_⟩
          refine (lf.bind (er.mono e1) sr1 p1).imp fun y H2 ⟨φ2, S2, d2, e2, sr2, r2, p2⟩ => ?_
          split at p2
          · rename_i xs hx
            split at p2
            · rename_i k bs hb
              have hn2 := e2.pre _ _ hn
              obtain ⟨us2, g2, rs2⟩ := sr2.lst hn2 hx
              have := allBl_ok rs2 hb
              subst this
              cases r2
              exact ⟨_, bs, k, rfl, rfl, .of g2, p2 φ2 H2 _ Ext.rfl' sr2 (.int _)⟩
            · exact p2.elim
          · exact p2.elim
      · exact p1.elim
    · exact p1.elim
/-- a chain of two comparisons as a test -/
theorem dt_chain {X : Cx} {W : WX} {a b c : Expr} {fa fb fc : EF} {pos : Pos} {op op' : CmpOp} {r r' : R2} {o o' : OF} (ho : OpR X (compareOp op) r) (hr : Op2 X.K r o) (ho' : OpR X (compareOp op') r') (hr' : Op2 X.K r' o')
    (hb' : ∀ a b S d S', o' a b S = .ok d S' → ∃ k, d = .bl k) (ha : DE X W a fa) (hb : DE X W b fb) (hc : DE X W c fc)
    (h1 : PT X (.Compare a [op, op'] [b, c] pos) (tTest (tChain r r' (lE X.K W fa) (lE X.K W fb) (lE X.K W fc)))) : DT X W (.Compare a [op, op'] [b, c] pos) (tTru (eChain o o' fa fb fc)) :=
  pt_wk h1 fun σ H Q ⟨φ, ρ, S, er, sr, p⟩ => by
    have p0 : post RB X.K W φ H σ Q ((fa ρ S).bind fun x S1 => (fb ρ S1).bind fun y S2 => (o x y S2).bind fun z S3 => match z with
        | .bl true => (fc ρ S3).bind fun w S4 => (o' y w S4).bind fun d S5 => (match truD d S5 with | some k => .ok k S5 | none => .no)
        | .bl false => .ok false S3
        | _ => .no) := by
      unfold tTru eChain at p
      cases e1 : fa ρ S with
      | ok x S1 =>
        rw [e1] at p
        simp only [Res.bind] at p ⊢
        cases e2 : fb ρ S1 with
        | ok y S2 =>
          rw [e2] at p
          simp only at p ⊢
          cases e3 : o x y S2 with
          | ok z S3 =>
            rw [e3] at p
            simp only at p ⊢
            cases z with
            | bl k =>
              cases k with
              | true =>
                simp only at p ⊢
                cases e4 : fc ρ S3 with
                | ok w S4 => rw [e4] at p; exact p
                | ex _ _ => rw [e4] at p; exact p
                | no => rw [e4] at p; exact p
              | false => exact p
            | _ => exact p
          | ex _ _ => rw [e3] at p; exact p
          | no => rw [e3] at p; exact p
        | ex _ _ => rw [e2] at p; exact p
        | no => rw [e2] at p; exact p
      | ex _ _ => rw [e1] at p; exact p
      | no => rw [e1] at p; exact p
    refine (lf.bind er sr p0).imp fun x H1 ⟨φ1, S1, d, e1, sr1, r1, p1⟩ => (lf.bind (er.mono e1) sr1 p1).imp fun y H2 ⟨φ2, S2, d2, e2, sr2, r2, p2⟩ => ?_
    refine hr W φ2 S2 H2 σ x y d d2 _ sr2 (r1.mono e2) r2 ?_
    cases e : o d d2 S2 with
    | ok z S3 =>
      rw [e] at p2
      intro φ' H' zv e' s' rz
      simp only [Res.bind] at p2
      split at p2
      · cases rz
        refine ⟨true, rfl, ?_⟩
        rw [if_pos rfl]
        refine (lf.bind (((er.mono e1).mono e2).mono e') s' (p2.mono e')).imp fun w H4 ⟨φ4, S4, d4, e4, sr4, r4, p4⟩ => ?_
        refine hr' W φ4 S4 H4 σ y w d2 d4 _ sr4 ((r2.mono e').mono e4) r4 ?_
        cases e5 : o' d2 d4 S4 with
        | ok u S5 =>
          rw [e5] at p4
          intro φ5 H5 uv e6 s6 ru
          obtain ⟨k, rfl⟩ := hb' _ _ _ _ _ e5
          cases ru
          exact ⟨k, rfl, p4 φ5 H5 k e6 s6 rfl⟩
        | ex _ _ => rw [e5] at p4; exact p4
        | no => rw [e5] at p4; exact p4
      · cases rz
        refine ⟨false, rfl, ?_⟩
        rw [if_neg Bool.false_ne_true]
        exact ⟨false, rfl, p2 φ' H' _ e' s' rfl⟩
      · exact p2.elim
    | ex c S3 => rw [e] at p2; exact p2
    | no => rw [e] at p2; exact p2
end DL
set_option Elab.async false
set_option linter.all false
set_option maxRecDepth 100000
/-! defs of the text as functions of data -/
noncomputable section
namespace Fx
open PySem L2 DL
def c_is_whole_0 : SF :=
  (sRet (eAnd (eIs (eVar 0) "int") (eAnd (eOp oIsnt (eVar 0) (eC (.bl true))) (eOp oIsnt (eVar 0) (eC (.bl false))))))
def b_is_whole : SF :=
  c_is_whole_0
def F_is_whole : FF := runF 1 1 b_is_whole
def c_in_lowest_terms_0 : SF :=
  (sAsg (.nm 2) (eB cGcd (aCons (eVar 0) (aCons (eVar 1) aNil))))
def c_in_lowest_terms_1 : SF :=
  (sIf (tTru (eOp oLt (eVar 1) (eC (.int 0))))
    (sAsg (.nm 2) (eNeg (eVar 2)))
    sNil)
def c_in_lowest_terms_2 : SF :=
  (sRet (eTup (aCons (eOp oDiv (eVar 0) (eVar 2)) (aCons (eOp oDiv (eVar 1) (eVar 2)) aNil))))
def b_in_lowest_terms : SF :=
  (sSeq c_in_lowest_terms_0
    (sSeq c_in_lowest_terms_1
    c_in_lowest_terms_2))
def F_in_lowest_terms : FF := runF 3 2 b_in_lowest_terms
def c_is_less_0 : SF :=
  (sRet (eOp oLt (eOp oMul (eOp oIx (eVar 0) (eC (.int 0))) (eOp oIx (eVar 1) (eC (.int 1)))) (eOp oMul (eOp oIx (eVar 1) (eC (.int 0))) (eOp oIx (eVar 0) (eC (.int 1))))))
def b_is_less : SF :=
  c_is_less_0
def F_is_less : FF := runF 2 2 b_is_less
def c_floor_of_0 : SF :=
  (sRet (eOp oDiv (eOp oIx (eVar 0) (eC (.int 0))) (eOp oIx (eVar 0) (eC (.int 1)))))
def b_floor_of : SF :=
  c_floor_of_0
def F_floor_of : FF := runF 1 1 b_floor_of
def c_l_pen_0 : SF :=
  (sRet (eLst (aCons (eB cList (aCons (eRo (eVar 0) pNo (pAt (eC (.int 63)))) aNil)) (aCons (eC (.int 0)) (aCons (eC (.int 0)) aNil)))))
def b_l_pen : SF :=
  c_l_pen_0
def F_l_pen : FF := runF 1 1 b_l_pen
def c_l_draw_0 : SF :=
  (sIf (tTru (eOp oGt (eOp oIx (eVar 0) (eC (.int 2))) (eC (.int 0))))
    (sSeq (sAsg (.nm 2) (eOp oMod (eOp oIx (eVar 0) (eC (.int 2))) (eVar 1)))
    (sSeq (sSub (eVar 0) (eC (.int 2)) (eOp oDiv (eOp oIx (eVar 0) (eC (.int 2))) (eVar 1)))
    (sRet (eVar 2))))
    sNil)
def c_l_draw_1 : SF :=
  (sAsg (.nm 3) (eOp oIx (eVar 0) (eC (.int 1))))
def c_l_draw_2 : SF :=
  (sSub (eVar 0) (eC (.int 1)) (eOp oAdd (eVar 3) (eC (.int 1))))
def c_l_draw_3 : SF :=
  (sAsg (.nm 4) (eC (.int 7)))
def c_l_draw_4 : SF :=
  (sIf (tTru (eOp oGt (eB cLen (aCons (eOp oIx (eVar 0) (eC (.int 0))) aNil)) (eC (.int 0))))
    (sAsg (.nm 4) (eOp oIx (eOp oIx (eVar 0) (eC (.int 0))) (eOp oMod (eVar 3) (eB cLen (aCons (eOp oIx (eVar 0) (eC (.int 0))) aNil)))))
    sNil)
def c_l_draw_5 : SF :=
  (sIf (bAnd (tTru (eOp oLt (eVar 3) (eB cLen (aCons (eOp oIx (eVar 0) (eC (.int 0))) aNil)))) (tTru (eOp oGe (eVar 4) (eOp oPow (eC (.int 10)) (eC (.int 18))))))
    (sSeq (sSub (eVar 0) (eC (.int 2)) (eOp oDiv (eVar 4) (eVar 1)))
    (sRet (eOp oMod (eVar 4) (eVar 1))))
    sNil)
def c_l_draw_6 : SF :=
  (sAsg (.nm 5) (eOp oMod (eOp oMul (eOp oAdd (eOp oMod (eVar 4) (eC (.int 2147483629))) (eC (.int 11))) (eOp oAdd (eOp oAdd (eOp oMul (eVar 3) (eVar 3)) (eOp oMul (eC (.int 5)) (eVar 3))) (eC (.int 3)))) (eC (.int 2147483647))))
def c_l_draw_7 : SF :=
  (sAsg (.nm 5) (eOp oMod (eOp oMul (eOp oMod (eOp oAdd (eOp oPow (eVar 5) (eC (.int 3))) (eOp oMul (eC (.int 69621)) (eVar 3))) (eC (.int 2147483587))) (eC (.int 40692))) (eC (.int 2147483399))))
def c_l_draw_8 : SF :=
  (sIf (tTru (eOp oGt (eVar 1) (eOp oPow (eC (.int 10)) (eC (.int 6)))))
    (sAsg (.nm 5) (eOp oAdd (eOp oMul (eVar 5) (eC (.int 2147483629))) (eOp oMod (eOp oMul (eOp oMod (eVar 5) (eC (.int 1000003))) (eC (.int 48271))) (eC (.int 2147483587)))))
    sNil)
def c_l_draw_9 : SF :=
  (sRet (eOp oMod (eOp oDiv (eVar 5) (eC (.int 64))) (eVar 1)))
def b_l_draw : SF :=
  (sSeq c_l_draw_0
    (sSeq c_l_draw_1
    (sSeq c_l_draw_2
    (sSeq c_l_draw_3
    (sSeq c_l_draw_4
    (sSeq c_l_draw_5
    (sSeq c_l_draw_6
    (sSeq c_l_draw_7
    (sSeq c_l_draw_8
    c_l_draw_9)))))))))
def F_l_draw : FF := runF 6 2 b_l_draw
def fu_l_low_0 : Lc → Sto → Nat := fun (ρ : Lc) _ => match ρ[3]? with | some (some (D.int i)) => i.natAbs | _ => 0
def c_l_low_0 : SF :=
  (sPar 2 3 (aCons (eB cAbs (aCons (eVar 0) aNil)) (aCons (eB cAbs (aCons (eVar 1) aNil)) aNil)))
def c_l_low_1_0 : SF :=
  (sPar 2 3 (aCons (eVar 3) (aCons (eOp oMod (eVar 2) (eVar 3)) aNil)))
def c_l_low_1 : SF :=
  (sWh fu_l_low_0 (tTru (eOp oGt (eVar 3) (eC (.int 0))))
    c_l_low_1_0)
def c_l_low_2 : SF :=
  (sIf (tTru (eOp oLt (eVar 1) (eC (.int 0))))
    (sPar 0 1 (aCons (eOp oSub (eC (.int 0)) (eVar 0)) (aCons (eOp oSub (eC (.int 0)) (eVar 1)) aNil)))
    sNil)
def c_l_low_3 : SF :=
  (sRet (eTup (aCons (eOp oDiv (eVar 0) (eVar 2)) (aCons (eOp oDiv (eVar 1) (eVar 2)) aNil))))
def b_l_low : SF :=
  (sSeq c_l_low_0
    (sSeq c_l_low_1
    (sSeq c_l_low_2
    c_l_low_3)))
def F_l_low : FF := runF 4 2 b_l_low
def c_l_less_0 : SF :=
  (sRet (eOp oLt (eOp oMul (eOp oIx (eVar 0) (eC (.int 0))) (eOp oIx (eVar 1) (eC (.int 1)))) (eOp oMul (eOp oIx (eVar 1) (eC (.int 0))) (eOp oIx (eVar 0) (eC (.int 1))))))
def b_l_less : SF :=
  c_l_less_0
def F_l_less : FF := runF 2 2 b_l_less
def c_l_same_0 (F_l_same : FF) : SF :=
  (sIf (tTru (eIs2 (eVar 1) "tuple" "list"))
    (sSeq (sIf (bOr (bNot (tTru (eIs2 (eVar 0) "tuple" "list"))) (tTru (eOp oNe (eIs (eVar 0) "list") (eIs (eVar 1) "list"))))
    (sRet (eC (.bl false)))
    sNil)
    (sSeq (sIf (tTru (eOp oNe (eB cLen (aCons (eVar 0) aNil)) (eB cLen (aCons (eVar 1) aNil))))
    (sRet (eC (.bl false)))
    sNil)
    (sRet (eB cAll (aCons (eLc (iZip (aCons (eVar 0) (aCons (eVar 1) aNil))) (.tp [(.nm 2), (.nm 3)]) cYes (eCall F_l_same (aCons (eVar 2) (aCons (eVar 3) aNil))) [2, 3]) aNil)))))
    sNil)
def c_l_same_1 (F_l_same : FF) : SF :=
  (sIf (bOr (tTru (eOp oIs (eVar 1) (eC .non))) (tTru (eOp oIs (eVar 0) (eC .non))))
    (sRet (eAnd (eOp oIs (eVar 0) (eC .non)) (eOp oIs (eVar 1) (eC .non))))
    sNil)
def c_l_same_2 (F_l_same : FF) : SF :=
  (sIf (bOr (tTru (eOp oNe (eIs (eVar 0) "bool") (eIs (eVar 1) "bool"))) (tTru (eOp oNe (eIs (eVar 0) "str") (eIs (eVar 1) "str"))))
    (sRet (eC (.bl false)))
    sNil)
def c_l_same_3 (F_l_same : FF) : SF :=
  (sIf (tTru (eOp oNe (eIs (eVar 0) "int") (eIs (eVar 1) "int")))
    (sRet (eC (.bl false)))
    sNil)
def c_l_same_4 (F_l_same : FF) : SF :=
  (sRet (eOp oEq (eVar 0) (eVar 1)))
def b_l_same (F_l_same : FF) : SF :=
  (sSeq (c_l_same_0 F_l_same)
    (sSeq (c_l_same_1 F_l_same)
    (sSeq (c_l_same_2 F_l_same)
    (sSeq (c_l_same_3 F_l_same)
    (c_l_same_4 F_l_same)))))
def R_l_same : Nat → FF
  | 0 => fun _ _ => .no
  | d + 1 => runF 4 2 (b_l_same (R_l_same d))
abbrev F_l_same : FF := R_l_same 12
def c_fraction_0 : SF :=
  (sIf (bOr (bNot (tTru (eCall F_is_whole (aCons (eVar 0) aNil)))) (bNot (tTru (eCall F_is_whole (aCons (eVar 1) aNil)))))
    sNo
    sNil)
def c_fraction_1 : SF :=
  (sIf (tTru (eOp oEq (eVar 1) (eC (.int 0))))
    sNo
    sNil)
def c_fraction_2 : SF :=
  (sRet (eCall F_in_lowest_terms (aCons (eVar 0) (aCons (eVar 1) aNil))))
def b_fraction : SF :=
  (sSeq c_fraction_0
    (sSeq c_fraction_1
    c_fraction_2))
def F_fraction : FF := runF 2 2 b_fraction
def c_l_add_0 : SF :=
  (sRet (eCall F_l_low (aCons (eOp oAdd (eOp oMul (eOp oIx (eVar 0) (eC (.int 0))) (eOp oIx (eVar 1) (eC (.int 1)))) (eOp oMul (eOp oIx (eVar 1) (eC (.int 0))) (eOp oIx (eVar 0) (eC (.int 1))))) (aCons (eOp oMul (eOp oIx (eVar 0) (eC (.int 1))) (eOp oIx (eVar 1) (eC (.int 1)))) aNil))))
def b_l_add : SF :=
  c_l_add_0
def F_l_add : FF := runF 2 2 b_l_add
def c_l_sub_0 : SF :=
  (sRet (eCall F_l_low (aCons (eOp oSub (eOp oMul (eOp oIx (eVar 0) (eC (.int 0))) (eOp oIx (eVar 1) (eC (.int 1)))) (eOp oMul (eOp oIx (eVar 1) (eC (.int 0))) (eOp oIx (eVar 0) (eC (.int 1))))) (aCons (eOp oMul (eOp oIx (eVar 0) (eC (.int 1))) (eOp oIx (eVar 1) (eC (.int 1)))) aNil))))
def b_l_sub : SF :=
  c_l_sub_0
def F_l_sub : FF := runF 2 2 b_l_sub
def c_l_number_0 : SF :=
  (sPar 1 2 (aCons (eCall F_l_draw (aCons (eVar 0) (aCons (eC (.int 5)) aNil))) (aCons (eCall F_l_draw (aCons (eVar 0) (aCons (eC (.int 13)) aNil))) aNil)))
def c_l_number_1 : SF :=
  (sIf (tTru (eOp oEq (eVar 1) (eC (.int 2))))
    (sAsg (.nm 2) (eCall F_l_draw (aCons (eVar 0) (aCons (eOp oPow (eC (.int 10)) (eC (.int 12))) aNil))))
    sNil)
def c_l_number_2 : SF :=
  (sIf (tTru (eOp oEq (eVar 1) (eC (.int 3))))
    (sAsg (.nm 2) (eOp oSub (eOp oSub (eOp oPow (eC (.int 10)) (eC (.int 12))) (eC (.int 1))) (eCall F_l_draw (aCons (eVar 0) (aCons (eC (.int 3)) aNil)))))
    sNil)
def c_l_number_3 : SF :=
  (sIf (tTru (eOp oEq (eVar 1) (eC (.int 4))))
    (sFor (iRng (aCons (eC (.int 5)) aNil)) (.nm 3)
    (sAsg (.nm 2) (eOp oAdd (eOp oMul (eOp oMod (eVar 2) (eOp oPow (eC (.int 10)) (eC (.int 48)))) (eOp oPow (eC (.int 10)) (eC (.int 12)))) (eCall F_l_draw (aCons (eVar 0) (aCons (eOp oPow (eC (.int 10)) (eC (.int 12))) aNil))))))
    sNil)
def c_l_number_4 : SF :=
  (sRet (eOp oMul (eVar 2) (eOp oIx (eLst (aCons (eC (.int 1)) (aCons (eNeg (eC (.int 1))) aNil))) (eCall F_l_draw (aCons (eVar 0) (aCons (eC (.int 2)) aNil))))))
def b_l_number : SF :=
  (sSeq c_l_number_0
    (sSeq c_l_number_1
    (sSeq c_l_number_2
    (sSeq c_l_number_3
    c_l_number_4))))
def F_l_number : FF := runF 4 1 b_l_number
def c_is_fraction_0 : SF :=
  (sIf (bOr (bNot (tTru (eIs (eVar 0) "tuple"))) (tTru (eOp oNe (eB cLen (aCons (eVar 0) aNil)) (eC (.int 2)))))
    (sRet (eC (.bl false)))
    sNil)
def c_is_fraction_1 : SF :=
  (sAsg (.tp [(.nm 1), (.nm 2)]) (eVar 0))
def c_is_fraction_2 : SF :=
  (sIf (bOr (bNot (tTru (eIs (eVar 1) "int"))) (bNot (tTru (eIs (eVar 2) "int"))))
    (sRet (eC (.bl false)))
    sNil)
def c_is_fraction_3 : SF :=
  (sIf (bOr (tTru (eOp oIs (eVar 1) (eC (.bl true)))) (bOr (tTru (eOp oIs (eVar 1) (eC (.bl false)))) (tTru (eOp oIs (eVar 2) (eC (.bl true))))))
    (sRet (eC (.bl false)))
    sNil)
def c_is_fraction_4 : SF :=
  (sRet (eOr (eOp oEq (eVar 2) (eC (.int 1))) (eAnd (eOp oGt (eVar 2) (eC (.int 1))) (eOp oEq (eB cGcd (aCons (eVar 1) (aCons (eVar 2) aNil))) (eC (.int 1))))))
def b_is_fraction : SF :=
  (sSeq c_is_fraction_0
    (sSeq c_is_fraction_1
    (sSeq c_is_fraction_2
    (sSeq c_is_fraction_3
    c_is_fraction_4))))
def F_is_fraction : FF := runF 3 1 b_is_fraction
def c_plus_0 : SF :=
  (sAsg (.nm 2) (eOp oAdd (eOp oMul (eOp oIx (eVar 0) (eC (.int 0))) (eOp oIx (eVar 1) (eC (.int 1)))) (eOp oMul (eOp oIx (eVar 1) (eC (.int 0))) (eOp oIx (eVar 0) (eC (.int 1))))))
def c_plus_1 : SF :=
  (sAsg (.nm 3) (eOp oMul (eOp oIx (eVar 0) (eC (.int 1))) (eOp oIx (eVar 1) (eC (.int 1)))))
def c_plus_2 : SF :=
  (sAsg (.nm 4) (eB cGcd (aCons (eVar 2) (aCons (eVar 3) aNil))))
def c_plus_3 : SF :=
  (sRet (eTup (aCons (eOp oDiv (eVar 2) (eVar 4)) (aCons (eOp oDiv (eVar 3) (eVar 4)) aNil))))
def b_plus : SF :=
  (sSeq c_plus_0
    (sSeq c_plus_1
    (sSeq c_plus_2
    c_plus_3)))
def F_plus : FF := runF 5 2 b_plus
def c_minus_0 : SF :=
  (sAsg (.nm 2) (eOp oSub (eOp oMul (eOp oIx (eVar 0) (eC (.int 0))) (eOp oIx (eVar 1) (eC (.int 1)))) (eOp oMul (eOp oIx (eVar 1) (eC (.int 0))) (eOp oIx (eVar 0) (eC (.int 1))))))
def c_minus_1 : SF :=
  (sAsg (.nm 3) (eOp oMul (eOp oIx (eVar 0) (eC (.int 1))) (eOp oIx (eVar 1) (eC (.int 1)))))
def c_minus_2 : SF :=
  (sAsg (.nm 4) (eB cGcd (aCons (eVar 2) (aCons (eVar 3) aNil))))
def c_minus_3 : SF :=
  (sRet (eTup (aCons (eOp oDiv (eVar 2) (eVar 4)) (aCons (eOp oDiv (eVar 3) (eVar 4)) aNil))))
def b_minus : SF :=
  (sSeq c_minus_0
    (sSeq c_minus_1
    (sSeq c_minus_2
    c_minus_3)))
def F_minus : FF := runF 5 2 b_minus
def c_times_0 : SF :=
  (sAsg (.nm 2) (eOp oMul (eOp oIx (eVar 0) (eC (.int 0))) (eOp oIx (eVar 1) (eC (.int 0)))))
def c_times_1 : SF :=
  (sAsg (.nm 3) (eOp oMul (eOp oIx (eVar 0) (eC (.int 1))) (eOp oIx (eVar 1) (eC (.int 1)))))
def c_times_2 : SF :=
  (sAsg (.nm 4) (eB cGcd (aCons (eVar 2) (aCons (eVar 3) aNil))))
def c_times_3 : SF :=
  (sRet (eTup (aCons (eOp oDiv (eVar 2) (eVar 4)) (aCons (eOp oDiv (eVar 3) (eVar 4)) aNil))))
def b_times : SF :=
  (sSeq c_times_0
    (sSeq c_times_1
    (sSeq c_times_2
    c_times_3)))
def F_times : FF := runF 5 2 b_times
def c_over_0 : SF :=
  (sIf (tTru (eOp oEq (eVar 1) (eC (.tup [(.int 0), (.int 1)]))))
    sNo
    sNil)
def c_over_1 : SF :=
  (sRet (eCall F_in_lowest_terms (aCons (eOp oMul (eOp oIx (eVar 0) (eC (.int 0))) (eOp oIx (eVar 1) (eC (.int 1)))) (aCons (eOp oMul (eOp oIx (eVar 0) (eC (.int 1))) (eOp oIx (eVar 1) (eC (.int 0)))) aNil))))
def b_over : SF :=
  (sSeq c_over_0
    c_over_1)
def F_over : FF := runF 2 2 b_over
def c_l_order_right_0 : SF :=
  (sPar 3 4 (aCons (eCall F_is_less (aCons (eVar 0) (aCons (eVar 1) aNil))) (aCons (eCall F_is_less (aCons (eVar 1) (aCons (eVar 0) aNil))) aNil)))
def c_l_order_right_1 : SF :=
  (sIf (bOr (bNot (tTru (eIs (eVar 3) "bool"))) (bOr (bNot (tTru (eIs (eVar 4) "bool"))) (tTru (eOp oNe (eCnt (eLst (aCons (eVar 3) (aCons (eVar 4) aNil))) (eC (.bl true))) (eB cInt (aCons (eOp oNe (eVar 0) (eVar 1)) aNil))))))
    (sRet (eC (.bl false)))
    sNil)
def c_l_order_right_2 : SF :=
  (sIf (bOr (tTru (eOp oNe (eCall F_is_less (aCons (eCall F_plus (aCons (eVar 0) (aCons (eVar 2) aNil))) (aCons (eCall F_plus (aCons (eVar 1) (aCons (eVar 2) aNil))) aNil))) (eVar 3))) (tTru (eCall F_is_less (aCons (eVar 0) (aCons (eVar 0) aNil)))))
    (sRet (eC (.bl false)))
    sNil)
def c_l_order_right_3 : SF :=
  (sIf (tTru (eOp oEq (eOp oIx (eVar 2) (eC (.int 0))) (eC (.int 0))))
    (sRet (eC (.bl true)))
    sNil)
def c_l_order_right_4 : SF :=
  (sRet (eOp oEq (eCall F_is_less (aCons (eCall F_times (aCons (eVar 0) (aCons (eVar 2) aNil))) (aCons (eCall F_times (aCons (eVar 1) (aCons (eVar 2) aNil))) aNil))) (eOp oIx (eLst (aCons (eVar 3) (aCons (eVar 4) aNil))) (eB cInt (aCons (eOp oLt (eOp oIx (eVar 2) (eC (.int 0))) (eC (.int 0))) aNil)))))
def b_l_order_right : SF :=
  (sSeq c_l_order_right_0
    (sSeq c_l_order_right_1
    (sSeq c_l_order_right_2
    (sSeq c_l_order_right_3
    c_l_order_right_4))))
def F_l_order_right : FF := runF 5 3 b_l_order_right
def c_l_sums_0 : SF :=
  (sAsg (.nm 3) (eLst (aCons (eTup (aCons (eCall F_plus (aCons (eVar 0) (aCons (eVar 1) aNil))) (aCons (eCall F_plus (aCons (eVar 1) (aCons (eVar 0) aNil))) aNil))) (aCons (eTup (aCons (eCall F_times (aCons (eVar 0) (aCons (eVar 1) aNil))) (aCons (eCall F_times (aCons (eVar 1) (aCons (eVar 0) aNil))) aNil))) aNil))))
def c_l_sums_1 : SF :=
  (sExpr (eApp (eVar 3) (eTup (aCons (eCall F_plus (aCons (eCall F_plus (aCons (eVar 0) (aCons (eVar 1) aNil))) (aCons (eVar 2) aNil))) (aCons (eCall F_plus (aCons (eVar 0) (aCons (eCall F_plus (aCons (eVar 1) (aCons (eVar 2) aNil))) aNil))) aNil)))))
def c_l_sums_2 : SF :=
  (sExpr (eApp (eVar 3) (eTup (aCons (eCall F_times (aCons (eCall F_times (aCons (eVar 0) (aCons (eVar 1) aNil))) (aCons (eVar 2) aNil))) (aCons (eCall F_times (aCons (eVar 0) (aCons (eCall F_times (aCons (eVar 1) (aCons (eVar 2) aNil))) aNil))) aNil)))))
def c_l_sums_3 : SF :=
  (sExpr (eApp (eVar 3) (eTup (aCons (eCall F_times (aCons (eCall F_plus (aCons (eVar 0) (aCons (eVar 1) aNil))) (aCons (eVar 2) aNil))) (aCons (eCall F_plus (aCons (eCall F_times (aCons (eVar 0) (aCons (eVar 2) aNil))) (aCons (eCall F_times (aCons (eVar 1) (aCons (eVar 2) aNil))) aNil))) aNil)))))
def c_l_sums_4 : SF :=
  (sAsg (.nm 3) (eOp oAdd (eVar 3) (eLst (aCons (eTup (aCons (eCall F_minus (aCons (eCall F_plus (aCons (eVar 0) (aCons (eVar 1) aNil))) (aCons (eVar 1) aNil))) (aCons (eVar 0) aNil))) (aCons (eTup (aCons (eCall F_minus (aCons (eVar 0) (aCons (eVar 0) aNil))) (aCons (eTup (aCons (eC (.int 0)) (aCons (eC (.int 1)) aNil))) aNil))) (aCons (eTup (aCons (eCall F_plus (aCons (eVar 0) (aCons (eTup (aCons (eC (.int 0)) (aCons (eC (.int 1)) aNil))) aNil))) (aCons (eVar 0) aNil))) aNil))))))
def c_l_sums_5 : SF :=
  (sAsg (.nm 3) (eOp oAdd (eVar 3) (eLst (aCons (eTup (aCons (eCall F_times (aCons (eVar 0) (aCons (eTup (aCons (eC (.int 1)) (aCons (eC (.int 1)) aNil))) aNil))) (aCons (eVar 0) aNil))) (aCons (eTup (aCons (eCall F_minus (aCons (eVar 0) (aCons (eVar 1) aNil))) (aCons (eCall F_times (aCons (eTup (aCons (eNeg (eC (.int 1))) (aCons (eC (.int 1)) aNil))) (aCons (eCall F_minus (aCons (eVar 1) (aCons (eVar 0) aNil))) aNil))) aNil))) aNil)))))
def c_l_sums_6 : SF :=
  (sIf (tTru (eOp oNe (eOp oIx (eVar 1) (eC (.int 0))) (eC (.int 0))))
    (sSeq (sAsg (.nm 3) (eOp oAdd (eVar 3) (eLst (aCons (eTup (aCons (eCall F_over (aCons (eCall F_times (aCons (eVar 0) (aCons (eVar 1) aNil))) (aCons (eVar 1) aNil))) (aCons (eVar 0) aNil))) (aCons (eTup (aCons (eCall F_times (aCons (eCall F_over (aCons (eVar 0) (aCons (eVar 1) aNil))) (aCons (eVar 1) aNil))) (aCons (eVar 0) aNil))) aNil)))))
    (sAsg (.nm 3) (eOp oAdd (eVar 3) (eLst (aCons (eTup (aCons (eCall F_over (aCons (eVar 1) (aCons (eVar 1) aNil))) (aCons (eTup (aCons (eC (.int 1)) (aCons (eC (.int 1)) aNil))) aNil))) (aCons (eTup (aCons (eCall F_over (aCons (eVar 0) (aCons (eVar 1) aNil))) (aCons (eCall F_times (aCons (eVar 0) (aCons (eCall F_over (aCons (eTup (aCons (eC (.int 1)) (aCons (eC (.int 1)) aNil))) (aCons (eVar 1) aNil))) aNil))) aNil))) aNil))))))
    sNil)
def c_l_sums_7 : SF :=
  (sRet (eVar 3))
def b_l_sums : SF :=
  (sSeq c_l_sums_0
    (sSeq c_l_sums_1
    (sSeq c_l_sums_2
    (sSeq c_l_sums_3
    (sSeq c_l_sums_4
    (sSeq c_l_sums_5
    (sSeq c_l_sums_6
    c_l_sums_7)))))))
def F_l_sums : FF := runF 4 3 b_l_sums
def c_l_floor_right_0 : SF :=
  (sAsg (.nm 1) (eCall F_floor_of (aCons (eVar 0) aNil)))
def c_l_floor_right_1 : SF :=
  (sIf (bOr (bNot (tTru (eIs (eVar 1) "int"))) (tTru (eIs (eVar 1) "bool")))
    (sRet (eC (.bl false)))
    sNil)
def c_l_floor_right_2 : SF :=
  (sPar 2 3 (aCons (eCall F_fraction (aCons (eVar 1) (aCons (eC (.int 1)) aNil))) (aCons (eCall F_fraction (aCons (eOp oAdd (eVar 1) (eC (.int 1))) (aCons (eC (.int 1)) aNil))) aNil)))
def c_l_floor_right_3 : SF :=
  (sRet (eAnd (eNot (eCall F_is_less (aCons (eVar 0) (aCons (eVar 2) aNil)))) (eCall F_is_less (aCons (eVar 0) (aCons (eVar 3) aNil)))))
def b_l_floor_right : SF :=
  (sSeq c_l_floor_right_0
    (sSeq c_l_floor_right_1
    (sSeq c_l_floor_right_2
    c_l_floor_right_3)))
def F_l_floor_right : FF := runF 4 1 b_l_floor_right
end Fx
set_option Elab.async false
set_option linter.all false
set_option maxRecDepth 100000
/-! how the functions of data are reckoned: equations for simp -/
noncomputable section
namespace DL
open PySem L2
@[simp] theorem bind_ok {α β : Type} (a : α) (S : Sto) (k : α → Sto → Res β) : (Res.ok a S).bind k = k a S := rfl
@[simp] theorem bind_no {α β : Type} (k : α → Sto → Res β) : (Res.no : Res α).bind k = .no := rfl
@[simp] theorem bind_ex {α β : Type} (c : Addr) (S : Sto) (k : α → Sto → Res β) : (Res.ex c S : Res α).bind k = .ex c S := rfl
@[simp] theorem sb_ok {α : Type} (a : α) (S : Sto) (ρ : Lc) (k : α → Sto → SR) : (Res.ok a S).sb ρ k = k a S := rfl
@[simp] theorem sb_no {α : Type} (ρ : Lc) (k : α → Sto → SR) : (Res.no : Res α).sb ρ k = .no := rfl
@[simp] theorem noex_ok {α : Type} (a : α) (S : Sto) : (Res.ok a S).noex = .ok a S := rfl
@[simp] theorem noex_no {α : Type} : (Res.no : Res α).noex = .no := rfl
@[simp] theorem eC_eq (d : D) (ρ : Lc) (S : Sto) : eC d ρ S = .ok d S := rfl
@[simp] theorem eVar_0 (d : D) (ρ : Lc) (S : Sto) : eVar 0 (some d :: ρ) S = .ok d S := rfl
@[simp] theorem eVar_s (i : Nat) (o : Option D) (ρ : Lc) (S : Sto) : eVar (i + 1) (o :: ρ) S = eVar i ρ S := rfl
@[simp] theorem aNil_eq (ρ : Lc) (S : Sto) : aNil ρ S = .ok [] S := rfl
@[simp] theorem aCons_eq (a : EF) (r : AF) (ρ : Lc) (S : Sto) : aCons a r ρ S = (a ρ S).bind fun x S1 => (r ρ S1).bind fun xs S2 => .ok (x :: xs) S2 := rfl
@[simp] theorem eOp_eq (o : OF) (a b : EF) (ρ : Lc) (S : Sto) : eOp o a b ρ S = (a ρ S).bind fun x S1 => (b ρ S1).bind fun y S2 => o x y S2 := rfl
@[simp] theorem eCall_eq (F : FF) (a : AF) (ρ : Lc) (S : Sto) : eCall F a ρ S = (a ρ S).bind fun ds S1 => (F ds S1).noex := rfl
@[simp] theorem eB_eq (F : FF) (a : AF) (ρ : Lc) (S : Sto) : eB F a ρ S = (a ρ S).bind fun ds S1 => F ds S1 := rfl
@[simp] theorem oAdd_int (i j : Int) (S : Sto) : oAdd (.int i) (.int j) S = .ok (.int (i + j)) S := rfl
@[simp] theorem oSub_int (i j : Int) (S : Sto) : oSub (.int i) (.int j) S = .ok (.int (i - j)) S := rfl
@[simp] theorem oLt_int (i j : Int) (S : Sto) : oLt (.int i) (.int j) S = .ok (.bl (decide (i < j))) S := rfl
@[simp] theorem oLe_int (i j : Int) (S : Sto) : oLe (.int i) (.int j) S = .ok (.bl (decide (i ≤ j))) S := rfl
@[simp] theorem oGt_int (i j : Int) (S : Sto) : oGt (.int i) (.int j) S = .ok (.bl (decide (j < i))) S := rfl
@[simp] theorem oGe_int (i j : Int) (S : Sto) : oGe (.int i) (.int j) S = .ok (.bl (decide (j ≤ i))) S := rfl
theorem oMul_int {i j : Int} (S : Sto) (h : mulOk i j = true) : oMul (.int i) (.int j) S = .ok (.int (i * j)) S := by
  show (if mulOk i j = true then _ else _) = _
  rw [if_pos h]
theorem oDiv_int {i j : Int} (S : Sto) (h : divOk i j = true) : oDiv (.int i) (.int j) S = .ok (.int (i.fdiv j)) S := by
  unfold oDiv oI
  simp [h]
theorem oMod_int {i j : Int} (S : Sto) (h : 0 < j) : oMod (.int i) (.int j) S = .ok (.int (i % j)) S := by
  unfold oMod oI
  simp only [gd_of h, if_true]
theorem oPow_int {i j : Int} (S : Sto) (h : 0 ≤ j ∧ j ≤ 1000000 ∧ i.natAbs < 2 ^ 64) : oPow (.int i) (.int j) S = .ok (.int (i ^ j.toNat)) S := by
  unfold oPow oI
  simp only [gd_of h, if_true]
/-- from bounds by powers of two -/
theorem mulOk_of {i j : Int} {a b : Nat} (ha : i.natAbs < 2 ^ a) (hb : j.natAbs < 2 ^ b) (h : a + b ≤ 134217728) : mulOk i j = true := by
  have x := PyProof.Rows.intBits_le ha
  have y := PyProof.Rows.intBits_le hb
  exact gd_of (by omega)
theorem divOk_of {i j : Int} {b : Nat} (h : j ≠ 0) (hb : j.natAbs < 2 ^ b) (h9 : b ≤ 9000) : divOk i j = true := by
  refine gd_of ⟨h, PyProof.noPylong_of_log2 (show j.natAbs.log2 < 9000 from ?_)⟩
  have hn : j.natAbs ≠ 0 := by omega
  have := (Nat.log2_lt hn).mpr hb
  omega
theorem atI_cast {α : Type} (l : List α) (j : Nat) : atI l (j : Int) = l[j]? := by
  unfold atI ixN
  rw [if_pos (Int.natCast_nonneg j)]
  by_cases h : j < l.length
  · rw [if_pos (by omega)]; simp
  · rw [if_neg (by omega)]
    simp only [Option.bind_none]
    exact (List.getElem?_eq_none (by omega)).symm
@[simp] theorem atI_0 {α : Type} (a : α) (l : List α) : atI (a :: l) 0 = some a := atI_cast _ 0
@[simp] theorem atI_1 {α : Type} (a b : α) (l : List α) : atI (a :: b :: l) 1 = some b := atI_cast _ 1
@[simp] theorem atI_2 {α : Type} (a b c : α) (l : List α) : atI (a :: b :: c :: l) 2 = some c := atI_cast _ 2
@[simp] theorem atI_3 {α : Type} (a b c d : α) (l : List α) : atI (a :: b :: c :: d :: l) 3 = some d := atI_cast _ 3
@[simp] theorem oIx_tup (xs : List D) (i : Int) (S : Sto) : oIx (.tup xs) (.int i) S = match atI xs i with | some d => .ok d S | none => .no := rfl
theorem oIx_ob {n : Nat} {xs : List D} {S : Sto} (h : S[n]? = some (.lst xs)) (i : Int) : oIx (.ob n) (.int i) S = match atI xs i with | some d => .ok d S | none => .no := by
  simp only [oIx, h]
  try (cases atI xs i <;> rfl)
@[simp] theorem truD_bl (b : Bool) (S : Sto) : truD (.bl b) S = some b := rfl
@[simp] theorem truD_int (i : Int) (S : Sto) : truD (.int i) S = some (i != 0) := rfl
@[simp] theorem truD_non (S : Sto) : truD .non S = some false := rfl
@[simp] theorem tTru_eq (a : EF) (ρ : Lc) (S : Sto) : tTru a ρ S = (a ρ S).bind fun d S1 => match truD d S1 with | some k => .ok k S1 | none => .no := rfl
@[simp] theorem sSeq_eq (a b : SF) (ρ : Lc) (S : Sto) : sSeq a b ρ S = match a ρ S with | .nx ρ' S' => b ρ' S' | r => r := rfl
@[simp] theorem sRet_eq (a : EF) (ρ : Lc) (S : Sto) : sRet a ρ S = (a ρ S).sb ρ fun d S1 => .rt d S1 := rfl
@[simp] theorem sNil_eq (ρ : Lc) (S : Sto) : sNil ρ S = .nx ρ S := rfl
@[simp] theorem sIf_eq (c : TF) (a b : SF) (ρ : Lc) (S : Sto) : sIf c a b ρ S = (c ρ S).sb ρ fun k S1 => if k = true then a ρ S1 else b ρ S1 := rfl
@[simp] theorem sAsg_nm (i : Nat) (a : EF) (ρ : Lc) (S : Sto) : sAsg (.nm i) a ρ S = (a ρ S).sb ρ fun d S1 => .nx (ρ.set i (some d)) S1 := by
  unfold sAsg; rfl
@[simp] theorem sPar_eq (i j : Nat) (a : AF) (ρ : Lc) (S : Sto) : sPar i j a ρ S = (a ρ S).sb ρ fun ds S1 => match ds with | [x, y] => .nx ((ρ.set i (some x)).set j (some y)) S1 | _ => .no := rfl
@[simp] theorem cGcd_int (i j : Int) (S : Sto) : cGcd [.int i, .int j] S = .ok (.int ((Nat.gcd i.natAbs j.natAbs : Nat) : Int)) S := rfl
@[simp] theorem cAbs_int (i : Int) (S : Sto) : cAbs [.int i] S = .ok (.int (if i < 0 then -i else i)) S := rfl
@[simp] theorem eNeg_eq (a : EF) (ρ : Lc) (S : Sto) : eNeg a ρ S = (a ρ S).bind fun d S1 => match d with | .int i => .ok (.int (-i)) S1 | _ => .no := rfl
@[simp] theorem szOk_le {n : Nat} : (szOk n = true) = (n ≤ 1000000) := propext ⟨fun h => of_gd h, fun h => gd_of h⟩
@[simp] theorem eTup_eq (a : AF) (ρ : Lc) (S : Sto) : eTup a ρ S = (a ρ S).bind fun ds S1 => if szOk ds.length then .ok (.tup ds) S1 else .no := rfl
@[simp] theorem eLst_eq (a : AF) (ρ : Lc) (S : Sto) : eLst a ρ S = (a ρ S).bind fun ds S1 => if szOk ds.length then .ok (.ob S1.length) (S1 ++ [.lst ds]) else .no := rfl
@[simp] theorem sSub_eq (o i a : EF) (ρ : Lc) (S : Sto) : sSub o i a ρ S = (a ρ S).sb ρ fun d S1 => (o ρ S1).sb ρ fun l S2 => (i ρ S2).sb ρ fun k S3 => match l, k with
  | .ob n, .int k => (match S3[n]? with
    | some (.lst xs) => (match ixN xs.length k with
      | some j => .nx ρ (S3.set n (.lst (xs.set j d)))
      | none => .no)
    | _ => .no)
  | _, _ => .no := rfl
@[simp] theorem ixN_31 : ixN 3 1 = some 1 := rfl
@[simp] theorem ixN_32 : ixN 3 2 = some 2 := rfl
@[simp] theorem bAnd_eq (a b : TF) (ρ : Lc) (S : Sto) : bAnd a b ρ S = (a ρ S).bind fun k S1 => if k = true then b ρ S1 else .ok false S1 := rfl
@[simp] theorem bOr_eq (a b : TF) (ρ : Lc) (S : Sto) : bOr a b ρ S = (a ρ S).bind fun k S1 => if k = true then .ok true S1 else b ρ S1 := rfl
@[simp] theorem bNot_eq (a : TF) (ρ : Lc) (S : Sto) : bNot a ρ S = (a ρ S).bind fun k S1 => .ok (!k) S1 := rfl
@[simp] theorem eIf_eq (c : TF) (a b : EF) (ρ : Lc) (S : Sto) : eIf c a b ρ S = (c ρ S).bind fun k S1 => if k = true then a ρ S1 else b ρ S1 := rfl
@[simp] theorem eNot_eq (a : EF) (ρ : Lc) (S : Sto) : eNot a ρ S = (a ρ S).bind fun d S1 => match truD d S1 with | some k => .ok (.bl (!k)) S1 | none => .no := rfl
@[simp] theorem eAnd_eq (a b : EF) (ρ : Lc) (S : Sto) : eAnd a b ρ S = (a ρ S).bind fun d S1 => match truD d S1 with | some true => b ρ S1 | some false => .ok d S1 | none => .no := rfl
@[simp] theorem eOr_eq (a b : EF) (ρ : Lc) (S : Sto) : eOr a b ρ S = (a ρ S).bind fun d S1 => match truD d S1 with | some true => .ok d S1 | some false => b ρ S1 | none => .no := rfl
theorem cLen_ob {n : Nat} {xs : List D} {S : Sto} (h : S[n]? = some (.lst xs)) : cLen [.ob n] S = .ok (.int xs.length) S := by simp only [cLen, h]
@[simp] theorem cLen_tup (xs : List D) (S : Sto) : cLen [.tup xs] S = .ok (.int xs.length) S := rfl
@[simp] theorem eRo_eq (ns : List Int) (i : Int) (ρ : Lc) (S : Sto) : eRo (eVar 0) pNo (pAt (eC (.int i))) (some (.ro ns) :: ρ) S = .ok (.ob S.length) (S ++ [.lst ((cutD ns none (some i)).map D.int)]) := rfl
@[simp] theorem cList_tup (xs : List D) (S : Sto) : cList [.tup xs] S = .ok (.ob S.length) (S ++ [.lst xs]) := rfl
theorem cList_ob {n : Nat} {xs : List D} {S : Sto} (h : S[n]? = some (.lst xs)) : cList [.ob n] S = .ok (.ob S.length) (S ++ [.lst xs]) := by simp only [cList, h]
@[simp] theorem cInt_int (i : Int) (S : Sto) : cInt [.int i] S = .ok (.int i) S := rfl
@[simp] theorem cInt_bl (b : Bool) (S : Sto) : cInt [.bl b] S = .ok (.int (if b then 1 else 0)) S := rfl
theorem runF_eq (N n : Nat) (b : SF) (ds : List D) (S : Sto) : runF N n b ds S = match b (ds.map some ++ List.replicate (N - n) none) S with | .rt d S' => .ok d S' | .nx _ S' => .ok .non S' | _ => .no := rfl
theorem seq_nx {a : SF} {ρ ρ' : Lc} {S S' : Sto} (h : a ρ S = .nx ρ' S') (b : SF) : sSeq a b ρ S = b ρ' S' := by simp only [sSeq, h]
theorem seq_rt {a : SF} {ρ : Lc} {d : D} {S S' : Sto} (h : a ρ S = .rt d S') (b : SF) : sSeq a b ρ S = .rt d S' := by simp only [sSeq, h]
theorem run_rt {N n : Nat} {b : SF} {ds : List D} {S S' : Sto} {d : D} (h : b (ds.map some ++ List.replicate (N - n) none) S = .rt d S') : runF N n b ds S = .ok d S' := by simp only [runF, h]
/-- what is wanted of a result -/
def Wp {α : Type} (r : Res α) (Q : α → Sto → Prop) : Prop := ∃ d S', r = .ok d S' ∧ Q d S'
theorem wp_ok {α : Type} {d : α} {S : Sto} {Q : α → Sto → Prop} (h : Q d S) : Wp (.ok d S) Q := ⟨d, S, rfl, h⟩
theorem Wp.imp {α : Type} {r : Res α} {Q Q' : α → Sto → Prop} (h : Wp r Q) (hq : ∀ d S, Q d S → Q' d S) : Wp r Q' := let ⟨d, S, e, q⟩ := h; ⟨d, S, e, hq d S q⟩
end DL
set_option Elab.async false
set_option linter.all false
set_option maxRecDepth 100000
noncomputable section
namespace DL
open PySem L2
@[simp] theorem kb_NoneType_int : kitB "NoneType" "int" = some false := by decide +kernel
@[simp] theorem kb_NoneType_bool : kitB "NoneType" "bool" = some false := by decide +kernel
@[simp] theorem kb_NoneType_str : kitB "NoneType" "str" = some false := by decide +kernel
@[simp] theorem kb_NoneType_list : kitB "NoneType" "list" = some false := by decide +kernel
@[simp] theorem kb_NoneType_tuple : kitB "NoneType" "tuple" = some false := by decide +kernel
@[simp] theorem kb_bool_int : kitB "bool" "int" = some true := by decide +kernel
@[simp] theorem kb_bool_bool : kitB "bool" "bool" = some true := by decide +kernel
@[simp] theorem kb_bool_str : kitB "bool" "str" = some false := by decide +kernel
@[simp] theorem kb_bool_list : kitB "bool" "list" = some false := by decide +kernel
@[simp] theorem kb_bool_tuple : kitB "bool" "tuple" = some false := by decide +kernel
@[simp] theorem kb_int_int : kitB "int" "int" = some true := by decide +kernel
@[simp] theorem kb_int_bool : kitB "int" "bool" = some false := by decide +kernel
@[simp] theorem kb_int_str : kitB "int" "str" = some false := by decide +kernel
@[simp] theorem kb_int_list : kitB "int" "list" = some false := by decide +kernel
@[simp] theorem kb_int_tuple : kitB "int" "tuple" = some false := by decide +kernel
@[simp] theorem kb_str_int : kitB "str" "int" = some false := by decide +kernel
@[simp] theorem kb_str_bool : kitB "str" "bool" = some false := by decide +kernel
@[simp] theorem kb_str_str : kitB "str" "str" = some true := by decide +kernel
@[simp] theorem kb_str_list : kitB "str" "list" = some false := by decide +kernel
@[simp] theorem kb_str_tuple : kitB "str" "tuple" = some false := by decide +kernel
@[simp] theorem kb_tuple_int : kitB "tuple" "int" = some false := by decide +kernel
@[simp] theorem kb_tuple_bool : kitB "tuple" "bool" = some false := by decide +kernel
@[simp] theorem kb_tuple_str : kitB "tuple" "str" = some false := by decide +kernel
@[simp] theorem kb_tuple_list : kitB "tuple" "list" = some false := by decide +kernel
@[simp] theorem kb_tuple_tuple : kitB "tuple" "tuple" = some true := by decide +kernel
@[simp] theorem kb_list_int : kitB "list" "int" = some false := by decide +kernel
@[simp] theorem kb_list_bool : kitB "list" "bool" = some false := by decide +kernel
@[simp] theorem kb_list_str : kitB "list" "str" = some false := by decide +kernel
@[simp] theorem kb_list_list : kitB "list" "list" = some true := by decide +kernel
@[simp] theorem kb_list_tuple : kitB "list" "tuple" = some false := by decide +kernel
@[simp] theorem kb_dict_int : kitB "dict" "int" = some false := by decide +kernel
@[simp] theorem kb_dict_bool : kitB "dict" "bool" = some false := by decide +kernel
@[simp] theorem kb_dict_str : kitB "dict" "str" = some false := by decide +kernel
@[simp] theorem kb_dict_list : kitB "dict" "list" = some false := by decide +kernel
@[simp] theorem kb_dict_tuple : kitB "dict" "tuple" = some false := by decide +kernel
@[simp] theorem tyD_non (S : Sto) : tyD .non S = some "NoneType" := rfl
@[simp] theorem tyD_bl (b : Bool) (S : Sto) : tyD (.bl b) S = some "bool" := rfl
@[simp] theorem tyD_int (b : Int) (S : Sto) : tyD (.int b) S = some "int" := rfl
@[simp] theorem tyD_str (b : Str) (S : Sto) : tyD (.str b) S = some "str" := rfl
@[simp] theorem tyD_tup (b : List D) (S : Sto) : tyD (.tup b) S = some "tuple" := rfl
theorem tyD_ob {n : Nat} {xs : List D} {S : Sto} (h : S[n]? = some (.lst xs)) : tyD (.ob n) S = some "list" := by simp only [tyD, h]
theorem tyD_dic {n : Nat} {xs : List (Key × D)} {S : Sto} (h : S[n]? = some (.dic xs)) : tyD (.ob n) S = some "dict" := by simp only [tyD, h]
@[simp] theorem eIs_eq (a : EF) (b : String) (ρ : Lc) (S : Sto) : eIs a b ρ S = (a ρ S).bind fun d S1 => match isD d S1 b with | some k => .ok (.bl k) S1 | none => .no := rfl
@[simp] theorem isD_eq (d : D) (S : Sto) (b : String) : isD d S b = match tyD d S with | some t => kitB t b | none => none := rfl
@[simp] theorem eIs2_eq (a : EF) (b c : String) (ρ : Lc) (S : Sto) : eIs2 a b c ρ S = (a ρ S).bind fun d S1 => match tyD d S1 with
  | some t => (match kitB t b, kitB t c with
    | some k, some l => .ok (.bl (k || l)) S1
    | _, _ => .no)
  | none => .no := rfl
/-! equality of flat data -/
theorem shaped_of {d : PyData} (h1 : d.canLay0 = true) (h2 : d.depth ≤ 64) : SeqAt.shaped d = true := Bool.and_eq_true_iff.mpr ⟨h1, decide_eq_true h2⟩
@[simp] theorem shaped_bool (b : Bool) : SeqAt.shaped (.bool b) = true := by simp [SeqAt.shaped, PyData.canLay0, PyData.depth]
@[simp] theorem shaped_int (b : Int) : SeqAt.shaped (.int b) = true := by simp [SeqAt.shaped, PyData.canLay0, PyData.depth]
@[simp] theorem oEqG_bl2 (n a b : Bool) (S : Sto) : oEqG n (.bl a) (.bl b) S = .ok (.bl ((a == b) != n)) S := by
  simp [oEqG, pyOf, PyData.eqv]
@[simp] theorem oEqG_int2 (n : Bool) (a b : Int) (S : Sto) : oEqG n (.int a) (.int b) S = .ok (.bl ((a == b) != n)) S := by
  simp [oEqG, pyOf, PyData.eqv]
@[simp] theorem oEq_bl2 (a b : Bool) (S : Sto) : oEq (.bl a) (.bl b) S = .ok (.bl (a == b)) S := by simp [oEq]
@[simp] theorem oNe_bl2 (a b : Bool) (S : Sto) : oNe (.bl a) (.bl b) S = .ok (.bl (a != b)) S := by simp [oNe, bne]
@[simp] theorem oEq_int2 (a b : Int) (S : Sto) : oEq (.int a) (.int b) S = .ok (.bl (a == b)) S := by simp [oEq]
@[simp] theorem oNe_int2 (a b : Int) (S : Sto) : oNe (.int a) (.int b) S = .ok (.bl (a != b)) S := by simp [oNe, bne]
@[simp] theorem oIs_bl (a b : Bool) (S : Sto) : oIs (.bl a) (.bl b) S = .ok (.bl (decide (a = b))) S := by simp [oIs, oIsG, isBlD]
@[simp] theorem oIsnt_bl (a b : Bool) (S : Sto) : oIsnt (.bl a) (.bl b) S = .ok (.bl (!decide (a = b))) S := by simp [oIsnt, oIsG, isBlD, Bool.bne_true]
@[simp] theorem oIs_non (d : D) (S : Sto) : oIs d .non S = match isNonD d with | some k => .ok (.bl k) S | none => .no := by unfold oIs oIsG; cases isNonD d <;> simp
@[simp] theorem isNon_bl (b : Bool) : isNonD (.bl b) = some false := rfl
@[simp] theorem isNon_int (b : Int) : isNonD (.int b) = some false := rfl
@[simp] theorem isNon_str (b : Str) : isNonD (.str b) = some false := rfl
@[simp] theorem isNon_tup (b : List D) : isNonD (.tup b) = some false := rfl
@[simp] theorem isNon_ob (b : Nat) : isNonD (.ob b) = some false := rfl
@[simp] theorem isNon_non : isNonD .non = some true := rfl
end DL
set_option Elab.async false
set_option linter.all false
set_option maxRecDepth 100000
/-! what the law's own helpers do -/
namespace Fx
open PySem L2 DL
/-- the pen stands at 2, the script's ints at 1; at most k draws are behind -/
def Pen (S : Sto) (ns : List Int) (k : Nat) : Prop := ∃ a r : Int, S[2]? = some (.lst [.ob 1, .int a, .int r]) ∧ S[1]? = some (.lst (ns.map D.int)) ∧ 0 ≤ a ∧ a ≤ k
/-- nothing but the pen is otherwise -/
def Fr (S S' : Sto) : Prop := S.length ≤ S'.length ∧ ∀ (n : Nat) (o : O), n ≠ 2 → S[n]? = some o → S'[n]? = some o
theorem Fr.refl {S : Sto} : Fr S S := ⟨Nat.le_refl _, fun _ _ _ h => h⟩
theorem Fr.trans {S S1 S2 : Sto} (a : Fr S S1) (b : Fr S1 S2) : Fr S S2 := ⟨Nat.le_trans a.1 b.1, fun n o h q => b.2 n o h (a.2 n o h q)⟩
theorem Fr.set {S : Sto} {o : O} : Fr S (S.set 2 o) := ⟨by rw [List.length_set]; exact Nat.le_refl _, fun n u h q => by rw [List.getElem?_set_ne (Ne.symm h)]; exact q⟩
theorem Fr.app {S e : Sto} : Fr S (S ++ e) := ⟨by simp, fun n u h q => by rw [List.getElem?_append_left (List.getElem?_eq_some_iff.mp q).1]; exact q⟩
theorem Pen.app {S e : Sto} {ns : List Int} {k : Nat} (h : Pen S ns k) : Pen (S ++ e) ns k := by
  obtain ⟨a, r, h1, h2, h3⟩ := h
  exact ⟨a, r, by rw [List.getElem?_append_left (List.getElem?_eq_some_iff.mp h1).1]; exact h1, by rw [List.getElem?_append_left (List.getElem?_eq_some_iff.mp h2).1]; exact h2, h3⟩
theorem Pen.mono {S : Sto} {ns : List Int} {k j : Nat} (h : Pen S ns k) (hj : k ≤ j) : Pen S ns j := by
  obtain ⟨a, r, h1, h2, h3, h4⟩ := h
  exact ⟨a, r, h1, h2, h3, by omega⟩
theorem Pen.pen {S : Sto} {ns : List Int} {k : Nat} {a r a' r' : Int} (h1 : S[2]? = some (.lst [.ob 1, .int a, .int r])) (h2 : S[1]? = some (.lst (ns.map D.int))) (h3 : 0 ≤ a') (h4 : a' ≤ k) : Pen (S.set 2 (.lst [.ob 1, .int a', .int r'])) ns k := by
  have hl := (List.getElem?_eq_some_iff.mp h1).1
  exact ⟨a', r', by rw [List.getElem?_set_self hl], by rw [List.getElem?_set_ne (by decide)]; exact h2, h3, h4⟩
section
variable {S : Sto} {ns : List Int} {m a r : Int} {o2 o3 o4 o5 : Option D}
theorem draw0 (h1 : S[2]? = some (.lst [.ob 1, .int a, .int r])) (hr : ¬ 0 < r) : c_l_draw_0 [some (.ob 2), some (.int m), o2, o3, o4, o5] S = .nx [some (.ob 2), some (.int m), o2, o3, o4, o5] S := by
  simp [c_l_draw_0, oIx_ob h1, hr]
theorem draw0r (h1 : S[2]? = some (.lst [.ob 1, .int a, .int r])) (hr : 0 < r) (hm : 0 < m) (dm : ∀ x, divOk x m = true) : c_l_draw_0 [some (.ob 2), some (.int m), o2, o3, o4, o5] S = .rt (.int (r % m)) (S.set 2 (.lst [.ob 1, .int a, .int (r.fdiv m)])) := by
  simp [c_l_draw_0, oIx_ob h1, hr, oMod_int _ hm, oDiv_int _ (dm _), h1]
theorem draw1 (h1 : S[2]? = some (.lst [.ob 1, .int a, .int r])) : c_l_draw_1 [some (.ob 2), some (.int m), o2, o3, o4, o5] S = .nx [some (.ob 2), some (.int m), o2, some (.int a), o4, o5] S := by
  simp [c_l_draw_1, oIx_ob h1]
theorem draw2 (h1 : S[2]? = some (.lst [.ob 1, .int a, .int r])) : c_l_draw_2 [some (.ob 2), some (.int m), o2, some (.int a), o4, o5] S = .nx [some (.ob 2), some (.int m), o2, some (.int a), o4, o5] (S.set 2 (.lst [.ob 1, .int (a + 1), .int r])) := by
  simp [c_l_draw_2, h1]
theorem draw3 : c_l_draw_3 [some (.ob 2), some (.int m), o2, some (.int a), o4, o5] S = .nx [some (.ob 2), some (.int m), o2, some (.int a), some (.int 7), o5] S := by
  simp [c_l_draw_3]
theorem draw4 {a' : Int} (h1 : S[2]? = some (.lst [.ob 1, .int a', .int r])) (h2 : S[1]? = some (.lst (ns.map D.int))) (h3 : 0 ≤ a) : ∃ c : Int, c_l_draw_4 [some (.ob 2), some (.int m), o2, some (.int a), some (.int 7), o5] S = .nx [some (.ob 2), some (.int m), o2, some (.int a), some (.int c), o5] S := by
  by_cases hz : 0 < ns.length
  · have hz2 : (0 : Int) < ns.length := by omega
    have hc : ∃ c, atI (ns.map D.int) (a % (ns.length : Int)) = some (.int c) := by
      have h5 := Int.emod_nonneg a (show (ns.length : Int) ≠ 0 by omega)
      have h6 := Int.emod_lt_of_pos a hz2
      obtain ⟨j, hj⟩ : ∃ j : Nat, a % (ns.length : Int) = j := ⟨_, (Int.toNat_of_nonneg h5).symm⟩
      rw [hj, atI_cast, List.getElem?_map, List.getElem?_eq_getElem (by omega)]
      exact ⟨_, rfl⟩
    obtain ⟨c, hc⟩ := hc
    exact ⟨c, by simp [c_l_draw_4, oIx_ob h1, cLen_ob h2, hz, oMod_int _ hz2, oIx_ob h2, hc]⟩
  · exact ⟨7, by simp [c_l_draw_4, oIx_ob h1, cLen_ob h2, hz]⟩
theorem draw5 {a' c : Int} (h1 : S[2]? = some (.lst [.ob 1, .int a', .int r])) (h2 : S[1]? = some (.lst (ns.map D.int))) (hm : 0 < m) (dm : ∀ x, divOk x m = true) :
    c_l_draw_5 [some (.ob 2), some (.int m), o2, some (.int a), some (.int c), o5] S = .nx [some (.ob 2), some (.int m), o2, some (.int a), some (.int c), o5] S ∨
    c_l_draw_5 [some (.ob 2), some (.int m), o2, some (.int a), some (.int c), o5] S = .rt (.int (c % m)) (S.set 2 (.lst [.ob 1, .int a', .int (c.fdiv m)])) := by
  have g : ∀ (S : Sto), oPow (.int 10) (.int 18) S = .ok (.int 1000000000000000000) S := fun S => oPow_int S (by decide)
  by_cases hb1 : a < (ns.length : Int)
  · by_cases hb2 : 1000000000000000000 ≤ c
    · exact .inr (by simp [c_l_draw_5, oIx_ob h1, cLen_ob h2, hb1, hb2, g, h1, oMod_int _ hm, oDiv_int _ (dm _)])
    · exact .inl (by simp [c_l_draw_5, oIx_ob h1, cLen_ob h2, hb1, hb2, g])
  · exact .inl (by simp [c_l_draw_5, oIx_ob h1, cLen_ob h2, hb1])
theorem modB (x : Int) {p : Int} (hp : 0 < p) : 0 ≤ x % p ∧ x % p < p := ⟨Int.emod_nonneg _ (by omega), Int.emod_lt_of_pos _ hp⟩
theorem draw6 {c : Int} (h3 : 0 ≤ a) (h4 : a ≤ 1000000000000) : ∃ x : Int, c_l_draw_6 [some (.ob 2), some (.int m), o2, some (.int a), some (.int c), o5] S = .nx [some (.ob 2), some (.int m), o2, some (.int a), some (.int c), some (.int (x % 2147483647))] S := by
  have haa : 0 ≤ a * a ∧ a * a ≤ 1000000000000 * 1000000000000 := ⟨Int.mul_nonneg h3 h3, Int.mul_le_mul h4 h4 h3 (by decide)⟩
  have g1 : mulOk (c % 2147483629 + 11) (a * a + 5 * a + 3) = true := by
    have := modB c (p := 2147483629) (by decide)
    exact mulOk_of (a := 40) (b := 90) (by omega) (by omega) (by decide)
  have g2 : mulOk a a = true := mulOk_of (a := 41) (b := 41) (by omega) (by omega) (by decide)
  have g3 : mulOk 5 a = true := mulOk_of (a := 41) (b := 41) (by omega) (by omega) (by decide)
  exact ⟨(c % 2147483629 + 11) * (a * a + 5 * a + 3), by simp [c_l_draw_6, oMod_int, g1, g2, g3, oMul_int]⟩
theorem draw7 {c x : Int} (h3 : 0 ≤ a) (h4 : a ≤ 1000000000000) : ∃ y : Int, c_l_draw_7 [some (.ob 2), some (.int m), o2, some (.int a), some (.int c), some (.int (x % 2147483647))] S = .nx [some (.ob 2), some (.int m), o2, some (.int a), some (.int c), some (.int (y % 2147483399))] S := by
  have h5 := modB x (p := 2147483647) (by decide)
  have g1 : ∀ S, oPow (.int (x % 2147483647)) (.int 3) S = .ok (.int ((x % 2147483647) ^ 3)) S := fun S => oPow_int S ⟨by decide, by decide, by omega⟩
  have g4 : mulOk 69621 a = true := mulOk_of (a := 41) (b := 41) (by omega) (by omega) (by decide)
  have g5 : ∀ x : Int, mulOk (x % 2147483587) 40692 = true := fun x => by
    have := modB x (p := 2147483587) (by decide)
    exact mulOk_of (a := 41) (b := 41) (by omega) (by omega) (by decide)
  exact ⟨((x % 2147483647) ^ 3 + 69621 * a) % 2147483587 * 40692, by simp [c_l_draw_7, oMod_int, g1, g4, g5, oMul_int]⟩
theorem draw8 {c y : Int} : ∃ z : Int, c_l_draw_8 [some (.ob 2), some (.int m), o2, some (.int a), some (.int c), some (.int (y % 2147483399))] S = .nx [some (.ob 2), some (.int m), o2, some (.int a), some (.int c), some (.int z)] S := by
  have h5 := modB y (p := 2147483399) (by decide)
  have g1 : ∀ S, oPow (.int 10) (.int 6) S = .ok (.int 1000000) S := fun S => oPow_int S (by decide)
  have g4 : mulOk (y % 2147483399) 2147483629 = true := mulOk_of (a := 41) (b := 41) (by omega) (by decide) (by decide)
  have g5 : ∀ x : Int, mulOk (x % 1000003) 48271 = true := fun x => by
    have := modB x (p := 1000003) (by decide)
    exact mulOk_of (a := 41) (b := 41) (by omega) (by omega) (by decide)
  by_cases h : 1000000 < m
  · exact ⟨y % 2147483399 * 2147483629 + y % 2147483399 % 1000003 * 48271 % 2147483587, by simp [c_l_draw_8, oMod_int, g1, g4, g5, oMul_int, h]⟩
  · exact ⟨y % 2147483399, by simp [c_l_draw_8, g1, h]⟩
theorem draw9 {c z : Int} (hm : 0 < m) : c_l_draw_9 [some (.ob 2), some (.int m), o2, some (.int a), some (.int c), some (.int z)] S = .rt (.int ((z.fdiv 64) % m)) S := by
  have g : ∀ x : Int, divOk x 64 = true := fun x => divOk_of (b := 10) (by decide) (by decide) (by decide)
  simp [c_l_draw_9, oMod_int _ hm, oDiv_int _ (g _)]
end
theorem draw_ok {S : Sto} {ns : List Int} {k : Nat} {m : Int} (h : Pen S ns k) (hk : k ≤ 1000000000000) (hm : 0 < m) (hm2 : m.natAbs < 2 ^ 200) :
    ∃ v S', F_l_draw [.ob 2, .int m] S = .ok (.int v) S' ∧ 0 ≤ v ∧ v < m ∧ Pen S' ns (k + 1) ∧ Fr S S' ∧ S'.length = S.length := by
  obtain ⟨a, r, h1, h2, h3, h4⟩ := h
  have hl := (List.getElem?_eq_some_iff.mp h1).1
  have dm : ∀ x, divOk x m = true := fun x => divOk_of (by omega) hm2 (by decide)
  have nn : ∀ x : Int, 0 ≤ x % m ∧ x % m < m := fun x => modB x hm
  have fin : ∀ (x a' r' : Int), 0 ≤ a' → a' ≤ a + 1 → F_l_draw [.ob 2, .int m] S = .ok (.int (x % m)) (S.set 2 (.lst [.ob 1, .int a', .int r'])) →
      ∃ v S', F_l_draw [.ob 2, .int m] S = .ok (.int v) S' ∧ 0 ≤ v ∧ v < m ∧ Pen S' ns (k + 1) ∧ Fr S S' ∧ S'.length = S.length :=
    fun x a' r' h5 h6 e => ⟨_, _, e, (nn x).1, (nn x).2, Pen.pen h1 h2 h5 (by omega), Fr.set, by simp⟩
  by_cases hr : 0 < r
  · refine fin r a (r.fdiv m) h3 (by omega) (run_rt ?_)
    exact seq_rt (draw0r h1 hr hm dm) _
  · have q1 : (S.set 2 (.lst [.ob 1, .int (a + 1), .int r]))[2]? = some (.lst [.ob 1, .int (a + 1), .int r]) := by rw [List.getElem?_set_self hl]
    have q2 : (S.set 2 (.lst [.ob 1, .int (a + 1), .int r]))[1]? = some (.lst (ns.map D.int)) := by rw [List.getElem?_set_ne (by decide)]; exact h2
    obtain ⟨c, e4⟩ := draw4 (m := m) (o2 := none) (o5 := none) q1 q2 h3
    have pre : ∀ R, (sSeq c_l_draw_5 (sSeq c_l_draw_6 (sSeq c_l_draw_7 (sSeq c_l_draw_8 c_l_draw_9)))) [some (.ob 2), some (.int m), none, some (.int a), some (.int c), none] (S.set 2 (.lst [.ob 1, .int (a + 1), .int r])) = R → b_l_draw [some (.ob 2), some (.int m), none, none, none, none] S = R := fun R e => by
      unfold b_l_draw
      rw [seq_nx (draw0 h1 hr), seq_nx (draw1 h1), seq_nx (draw2 h1), seq_nx draw3, seq_nx e4]
      exact e
    rcases draw5 (m := m) (a := a) (c := c) (o2 := none) (o5 := none) q1 q2 hm dm with e5 | e5
    · obtain ⟨x, e6⟩ := draw6 (S := S.set 2 (.lst [.ob 1, .int (a + 1), .int r])) (m := m) (c := c) (o2 := none) (o5 := none) h3 (by omega)
      obtain ⟨y, e7⟩ := draw7 (S := S.set 2 (.lst [.ob 1, .int (a + 1), .int r])) (m := m) (c := c) (x := x) (o2 := none) h3 (by omega)
      obtain ⟨z, e8⟩ := draw8 (S := S.set 2 (.lst [.ob 1, .int (a + 1), .int r])) (m := m) (a := a) (c := c) (y := y) (o2 := none)
      refine fin (z.fdiv 64) (a + 1) r (by omega) (by omega) (run_rt (pre _ ?_))
      rw [seq_nx e5, seq_nx e6, seq_nx e7, seq_nx e8]
      exact draw9 hm
    · refine fin c (a + 1) (c.fdiv m) (by omega) (by omega) (run_rt (pre _ ?_))
      rw [seq_rt e5, List.set_set]
end Fx
set_option Elab.async false
set_option linter.all false
set_option maxRecDepth 100000
/-! fractions: the program's and the law's -/
namespace Fx
open PySem L2 DL
/-- a fraction as data -/
def fq (q : Rat) : D := .tup [.int q.num, .int q.den]
/-- numbers of at most n bits -/
def Bq (n : Nat) (q : Rat) : Prop := q.num.natAbs < 2 ^ n ∧ q.den < 2 ^ n
theorem Bq.mono {n m : Nat} {q : Rat} (h : Bq n q) (hm : n ≤ m) : Bq m q :=
  ⟨Nat.lt_of_lt_of_le h.1 (Nat.pow_le_pow_right (by decide) hm), Nat.lt_of_lt_of_le h.2 (Nat.pow_le_pow_right (by decide) hm)⟩
theorem divOk_any {i j : Int} (hj : j ≠ 0) (hi : i.natAbs < 2 ^ 13000) : divOk i j = true := by
  refine gd_of ⟨hj, ?_⟩
  by_cases h : j.natAbs.log2 < 9000
  · exact PyProof.noPylong_of_log2 h
  · have h1 : i.natAbs.log2 < 13000 := PySem.Flt.log2_lt_of (by decide) hi
    show (decide ((if j == 0 then 0 else j.natAbs.log2 / 30 + 1) > 300) && decide ((if i == 0 then 0 else i.natAbs.log2 / 30 + 1) > (if j == 0 then 0 else j.natAbs.log2 / 30 + 1) + 150)) = false
    rw [if_neg (show ¬ (j == 0) = true by simpa using hj)]
    have k : ¬ ((if i == 0 then 0 else i.natAbs.log2 / 30 + 1) > j.natAbs.log2 / 30 + 1 + 150) := by
      split <;> omega
    rw [decide_eq_false k, Bool.and_false]
/-- the two forms of a quotient by the greatest common divisor -/
theorem low_pos {a b : Int} (hb : 0 < b) : a.fdiv (Nat.gcd a.natAbs b.natAbs : Nat) = (Rat.divInt a b).num ∧ b.fdiv (Nat.gcd a.natAbs b.natAbs : Nat) = ((Rat.divInt a b).den : Int) := by
  rw [Rat.num_divInt, Rat.den_divInt, if_neg (by omega), Int.sign_eq_one_of_pos hb, Int.one_mul]
  have e : (Int.gcd b a : Int) = (Nat.gcd a.natAbs b.natAbs : Nat) := by rw [Int.gcd, Nat.gcd_comm]
  rw [e, Int.fdiv_eq_ediv_of_nonneg _ (Int.natCast_nonneg _), Int.fdiv_eq_ediv_of_nonneg _ (Int.natCast_nonneg _)]
  refine ⟨rfl, ?_⟩
  rw [Int.gcd, Nat.gcd_comm, Int.natCast_ediv]
  congr 1
  omega
theorem low_neg {a b : Int} (hb : b < 0) : a.fdiv (-((Nat.gcd a.natAbs b.natAbs : Nat) : Int)) = (Rat.divInt a b).num ∧ b.fdiv (-((Nat.gcd a.natAbs b.natAbs : Nat) : Int)) = ((Rat.divInt a b).den : Int) := by
  have d1 : ((Nat.gcd a.natAbs b.natAbs : Nat) : Int) ∣ a := Int.ofNat_dvd_left.mpr (Nat.gcd_dvd_left _ _)
  have d2 : ((Nat.gcd a.natAbs b.natAbs : Nat) : Int) ∣ b := Int.ofNat_dvd_left.mpr (Nat.gcd_dvd_right _ _)
  rw [Int.fdiv_eq_ediv_of_dvd (Int.neg_dvd.mpr d1), Int.fdiv_eq_ediv_of_dvd (Int.neg_dvd.mpr d2), Int.ediv_neg, Int.ediv_neg, ← Int.neg_ediv_of_dvd d1, ← Int.neg_ediv_of_dvd d2]
  have e : Rat.divInt a b = Rat.divInt (-a) (-b) := (Rat.neg_divInt_neg a b).symm
  have := low_pos (a := -a) (b := -b) (by omega)
  rw [Int.natAbs_neg, Int.natAbs_neg, Int.fdiv_eq_ediv_of_nonneg _ (Int.natCast_nonneg _), Int.fdiv_eq_ediv_of_nonneg _ (Int.natCast_nonneg _)] at this
  rw [e]
  exact this
theorem gcd_ne {a b : Int} (hb : b ≠ 0) : ((Nat.gcd a.natAbs b.natAbs : Nat) : Int) ≠ 0 := by
  intro h
  have h2 : Nat.gcd a.natAbs b.natAbs = 0 := by exact_mod_cast h
  have := Nat.eq_zero_of_gcd_eq_zero_right h2
  omega
theorem lowest_ok {a b : Int} (S : Sto) (hb : b ≠ 0) (ha2 : a.natAbs < 2 ^ 13000) (hb2 : b.natAbs < 2 ^ 13000) : F_in_lowest_terms [.int a, .int b] S = .ok (fq (Rat.divInt a b)) S := by
  have hg := gcd_ne (a := a) hb
  by_cases h : b < 0
  · have e := low_neg (a := a) h
    have hg' : -((Nat.gcd a.natAbs b.natAbs : Nat) : Int) ≠ 0 := by omega
    unfold F_in_lowest_terms b_in_lowest_terms
    refine run_rt ?_
    rw [seq_nx (ρ' := [some (.int a), some (.int b), some (.int (Nat.gcd a.natAbs b.natAbs : Nat))]) (S' := S) (by simp [c_in_lowest_terms_0]), seq_nx (ρ' := [some (.int a), some (.int b), some (.int (-(Nat.gcd a.natAbs b.natAbs : Nat)))]) (S' := S) (by simp [c_in_lowest_terms_1, h])]
    simp [c_in_lowest_terms_2, oDiv_int _ (divOk_any hg' ha2), oDiv_int _ (divOk_any hg' hb2), fq, e.1, e.2]
  · have e := low_pos (a := a) (b := b) (by omega)
    unfold F_in_lowest_terms b_in_lowest_terms
    refine run_rt ?_
    rw [seq_nx (ρ' := [some (.int a), some (.int b), some (.int (Nat.gcd a.natAbs b.natAbs : Nat))]) (S' := S) (by simp [c_in_lowest_terms_0]), seq_nx (ρ' := [some (.int a), some (.int b), some (.int (Nat.gcd a.natAbs b.natAbs : Nat))]) (S' := S) (by simp [c_in_lowest_terms_1, h])]
    simp [c_in_lowest_terms_2, oDiv_int _ (divOk_any hg ha2), oDiv_int _ (divOk_any hg hb2), fq, e.1, e.2]
theorem euclid (o0 o1 : Option D) (S : Sto) : ∀ (n : Nat) (x y : Nat), y ≤ n →
    whGo (tTru (eOp oGt (eVar 3) (eC (.int 0)))) c_l_low_1_0 n [o0, o1, some (.int x), some (.int y)] S = .nx [o0, o1, some (.int (Nat.gcd x y : Nat)), some (.int 0)] S
  | n, x, 0, _ => by unfold whGo; simp
  | 0, x, y + 1, h => by omega
  | n + 1, x, y + 1, h => by
    have h1 : (0 : Int) < ((y + 1 : Nat) : Int) := by omega
    have e : c_l_low_1_0 [o0, o1, some (.int x), some (.int ((y + 1 : Nat) : Int))] S = .nx [o0, o1, some (.int ((y + 1 : Nat) : Int)), some (.int ((x % (y + 1) : Nat) : Int))] S := by
      simp only [c_l_low_1_0, sPar_eq, aCons_eq, aNil_eq, eVar_s, eVar_0, bind_ok, sb_ok, eOp_eq, oMod_int _ h1, List.set_cons_succ, List.set_cons_zero]
      rfl
    unfold whGo
    simp only [tTru_eq, eOp_eq, eVar_s, eVar_0, bind_ok, eC_eq, oGt_int, decide_eq_true h1, truD_bl, sb_ok, if_true, e]
    rw [euclid o0 o1 S n (y + 1) (x % (y + 1)) (by have := Nat.mod_lt x (show 0 < y + 1 by omega); omega)]
    rw [Nat.gcd_comm (y + 1), ← Nat.gcd_rec, Nat.gcd_comm]
theorem abs_nat (i : Int) : (if i < 0 then -i else i) = (i.natAbs : Int) := by split <;> omega
theorem l_low_ok {a b : Int} (S : Sto) (hb : b ≠ 0) (ha2 : a.natAbs < 2 ^ 13000) (hb2 : b.natAbs < 2 ^ 13000) : F_l_low [.int a, .int b] S = .ok (fq (Rat.divInt a b)) S := by
  have hg := gcd_ne (a := a) hb
  have ha3 : (0 - a).natAbs < 2 ^ 13000 := by rw [show (0 - a).natAbs = a.natAbs by omega]; exact ha2
  have hb3 : (0 - b).natAbs < 2 ^ 13000 := by rw [show (0 - b).natAbs = b.natAbs by omega]; exact hb2
  unfold F_l_low b_l_low
  refine run_rt ?_
  rw [seq_nx (ρ' := [some (.int a), some (.int b), some (.int (a.natAbs : Int)), some (.int (b.natAbs : Int))]) (S' := S) (by simp [c_l_low_0, abs_nat])]
  rw [seq_nx (ρ' := [some (.int a), some (.int b), some (.int (Nat.gcd a.natAbs b.natAbs : Nat)), some (.int 0)]) (S' := S) (by
    unfold c_l_low_1 sWh
    exact euclid _ _ S _ a.natAbs b.natAbs (by simp [fu_l_low_0]))]
  by_cases h : b < 0
  · have e := low_neg (a := a) h
    rw [seq_nx (ρ' := [some (.int (0 - a)), some (.int (0 - b)), some (.int (Nat.gcd a.natAbs b.natAbs : Nat)), some (.int 0)]) (S' := S) (by simp [c_l_low_2, h])]
    have d1 : ((Nat.gcd a.natAbs b.natAbs : Nat) : Int) ∣ a := Int.ofNat_dvd_left.mpr (Nat.gcd_dvd_left _ _)
    have d2 : ((Nat.gcd a.natAbs b.natAbs : Nat) : Int) ∣ b := Int.ofNat_dvd_left.mpr (Nat.gcd_dvd_right _ _)
    have e1 : (0 - a).fdiv (Nat.gcd a.natAbs b.natAbs : Nat) = (Rat.divInt a b).num := by
      rw [← e.1, Int.fdiv_eq_ediv_of_dvd (Int.neg_dvd.mpr d1), Int.ediv_neg, Int.zero_sub, Int.fdiv_eq_ediv_of_dvd (Int.dvd_neg.mpr d1), Int.neg_ediv_of_dvd d1]
    have e2 : (0 - b).fdiv (Nat.gcd a.natAbs b.natAbs : Nat) = ((Rat.divInt a b).den : Int) := by
      rw [← e.2, Int.fdiv_eq_ediv_of_dvd (Int.neg_dvd.mpr d2), Int.ediv_neg, Int.zero_sub, Int.fdiv_eq_ediv_of_dvd (Int.dvd_neg.mpr d2), Int.neg_ediv_of_dvd d2]
    simp only [c_l_low_3, sRet_eq, eTup_eq, aCons_eq, aNil_eq, eOp_eq, eVar_s, eVar_0, bind_ok, oDiv_int _ (divOk_any hg ha3), oDiv_int _ (divOk_any hg hb3), e1, e2, fq, sb_ok]
    rw [if_pos (by rw [szOk_le]; simp)]
    rfl
  · have e := low_pos (a := a) (b := b) (by omega)
    rw [seq_nx (ρ' := [some (.int a), some (.int b), some (.int (Nat.gcd a.natAbs b.natAbs : Nat)), some (.int 0)]) (S' := S) (by simp [c_l_low_2, h])]
    simp [c_l_low_3, oDiv_int _ (divOk_any hg ha2), oDiv_int _ (divOk_any hg hb2), fq, e.1, e.2]
end Fx
set_option Elab.async false
set_option linter.all false
set_option maxRecDepth 100000
namespace DL
open PySem L2
@[simp] theorem put_nm (i : Nat) (d : D) (ρ : Lc) (S : Sto) : Tg.put (.nm i) d ρ S = some (ρ.set i (some d)) := by simp [Tg.put]
@[simp] theorem put_tp (ts : List Tg) (ds : List D) (ρ : Lc) (S : Sto) : Tg.put (.tp ts) (.tup ds) ρ S = Tg.puts ts ds ρ S := by simp [Tg.put]
@[simp] theorem puts_nil (ρ : Lc) (S : Sto) : Tg.puts [] [] ρ S = some ρ := by simp [Tg.puts]
@[simp] theorem puts_cons (t : Tg) (ts : List Tg) (d : D) (ds : List D) (ρ : Lc) (S : Sto) : Tg.puts (t :: ts) (d :: ds) ρ S = match Tg.put t d ρ S with | some ρ' => Tg.puts ts ds ρ' S | none => none := by
  simp only [Tg.puts]
  try (cases Tg.put t d ρ S <;> rfl)
@[simp] theorem sAsg_tp (ts : List Tg) (a : EF) (ρ : Lc) (S : Sto) : sAsg (.tp ts) a ρ S = (a ρ S).sb ρ fun d S1 => match Tg.put (.tp ts) d ρ S1 with | some ρ' => .nx ρ' S1 | none => .no := rfl
end DL
namespace Fx
open PySem L2 DL
theorem Bq_divInt {a b : Int} {n : Nat} (hb : b ≠ 0) (ha : a.natAbs < 2 ^ n) (hb2 : b.natAbs < 2 ^ n) : Bq n (Rat.divInt a b) := by
  constructor
  · rw [Rat.num_divInt]
    refine Nat.lt_of_le_of_lt (Int.natAbs_ediv_le_natAbs _ _) ?_
    rw [Int.natAbs_mul]
    have : b.sign.natAbs = 1 := by rw [Int.natAbs_sign, if_neg hb]
    rw [this, Nat.one_mul]
    exact ha
  · rw [Rat.den_divInt, if_neg hb]
    exact Nat.lt_of_le_of_lt (Nat.div_le_self _ _) hb2
theorem den_ne (q : Rat) : (q.den : Int) ≠ 0 := by
  have := q.den_nz
  omega
theorem mul_lt {i j : Int} {a b : Nat} (ha : i.natAbs < 2 ^ a) (hb : j.natAbs < 2 ^ b) : (i * j).natAbs < 2 ^ (a + b) := wide_lt ha hb
theorem pow_mono {x n m : Nat} (h : x < 2 ^ n) (hm : n ≤ m) : x < 2 ^ m := Nat.lt_of_lt_of_le h (Nat.pow_le_pow_right (by decide) hm)
theorem add_lt {i j : Int} {n : Nat} (ha : i.natAbs < 2 ^ n) (hb : j.natAbs < 2 ^ n) : (i + j).natAbs < 2 ^ (n + 1) := by
  rw [Nat.pow_succ]; omega
theorem sub_lt {i j : Int} {n : Nat} (ha : i.natAbs < 2 ^ n) (hb : j.natAbs < 2 ^ n) : (i - j).natAbs < 2 ^ (n + 1) := by
  rw [Nat.pow_succ]; omega
theorem den_abs (q : Rat) : (q.den : Int).natAbs = q.den := Int.natAbs_natCast _
section
variable {p q : Rat} {n m : Nat}
theorem dd_ne : (p.den : Int) * (q.den : Int) ≠ 0 := by
  have := den_ne p
  have := den_ne q
  exact Int.mul_ne_zero (by assumption) (by assumption)
/-- what is asked of the numbers of a sum -/
theorem sum_ok (hp : Bq n p) (hq : Bq m q) : (p.num * q.den + q.num * p.den).natAbs < 2 ^ (n + m + 1) ∧ (p.num * q.den - q.num * p.den).natAbs < 2 ^ (n + m + 1) ∧ ((p.den : Int) * (q.den : Int)).natAbs < 2 ^ (n + m + 1) ∧ ((p.den : Int) * (q.den : Int)).natAbs < 2 ^ (n + m) ∧ (p.num * q.num).natAbs < 2 ^ (n + m) ∧
    mulOk p.num q.den = mulOk p.num q.den := by
  have h1 : (p.num * (q.den : Int)).natAbs < 2 ^ (n + m) := mul_lt hp.1 (by rw [den_abs]; exact hq.2)
  have h2 : (q.num * (p.den : Int)).natAbs < 2 ^ (n + m) := by rw [Nat.add_comm]; exact mul_lt hq.1 (by rw [den_abs]; exact hp.2)
  have h3 : ((p.den : Int) * (q.den : Int)).natAbs < 2 ^ (n + m) := mul_lt (by rw [den_abs]; exact hp.2) (by rw [den_abs]; exact hq.2)
  exact ⟨add_lt h1 h2, sub_lt h1 h2, pow_mono h3 (by omega), h3, mul_lt hp.1 hq.1, rfl⟩
theorem mok (hp : Bq n p) (hq : Bq m q) (h : n + m ≤ 100000) : mulOk p.num q.den = true ∧ mulOk q.num p.den = true ∧ mulOk (p.den : Int) q.den = true ∧ mulOk p.num q.num = true :=
  ⟨mulOk_of hp.1 (by rw [den_abs]; exact hq.2) (by omega), mulOk_of hq.1 (by rw [den_abs]; exact hp.2) (by omega), mulOk_of (by rw [den_abs]; exact hp.2) (by rw [den_abs]; exact hq.2) (by omega), mulOk_of hp.1 hq.1 (by omega)⟩
theorem add_eq : Rat.divInt (p.num * q.den + q.num * p.den) (p.den * q.den) = p + q := by
  rw [Rat.add_def', ← Rat.divInt_ofNat]; rfl
theorem sub_eq : Rat.divInt (p.num * q.den - q.num * p.den) (p.den * q.den) = p - q := by
  rw [Rat.sub_def', ← Rat.divInt_ofNat]; rfl
theorem mul_eq : Rat.divInt (p.num * q.num) (p.den * q.den) = p * q := by
  rw [Rat.mul_def', ← Rat.divInt_ofNat]; rfl
theorem Bq_add (hp : Bq n p) (hq : Bq m q) : Bq (n + m + 1) (p + q) := by
  obtain ⟨h1, h2, h3, h4, h5, _⟩ := sum_ok hp hq
  rw [← add_eq]; exact Bq_divInt dd_ne h1 h3
theorem Bq_sub (hp : Bq n p) (hq : Bq m q) : Bq (n + m + 1) (p - q) := by
  obtain ⟨h1, h2, h3, h4, h5, _⟩ := sum_ok hp hq
  rw [← sub_eq]; exact Bq_divInt dd_ne h2 h3
theorem Bq_mul (hp : Bq n p) (hq : Bq m q) : Bq (n + m) (p * q) := by
  obtain ⟨h1, h2, h3, h4, h5, _⟩ := sum_ok hp hq
  rw [← mul_eq]; exact Bq_divInt dd_ne h5 h4
theorem l_add_ok (hp : Bq n p) (hq : Bq m q) (h : n + m + 1 ≤ 13000) (S : Sto) : F_l_add [fq p, fq q] S = .ok (fq (p + q)) S := by
  obtain ⟨h1, h2, h3, h4, h5, _⟩ := sum_ok hp hq
  obtain ⟨g1, g2, g3, g4⟩ := mok hp hq (by omega)
  have e := l_low_ok S (dd_ne (p := p) (q := q)) (pow_mono h1 h) (pow_mono h3 h)
  rw [add_eq] at e
  unfold F_l_add b_l_add
  refine run_rt ?_
  simp only [fq] at e ⊢
  simp [c_l_add_0, oMul_int, g1, g2, g3, e]
theorem l_sub_ok (hp : Bq n p) (hq : Bq m q) (h : n + m + 1 ≤ 13000) (S : Sto) : F_l_sub [fq p, fq q] S = .ok (fq (p - q)) S := by
  obtain ⟨h1, h2, h3, h4, h5, _⟩ := sum_ok hp hq
  obtain ⟨g1, g2, g3, g4⟩ := mok hp hq (by omega)
  have e := l_low_ok S (dd_ne (p := p) (q := q)) (pow_mono h2 h) (pow_mono h3 h)
  rw [sub_eq] at e
  unfold F_l_sub b_l_sub
  refine run_rt ?_
  simp only [fq] at e ⊢
  simp [c_l_sub_0, oMul_int, g1, g2, g3, e]
theorem lt_cross : (p.num * q.den < q.num * p.den) = (p < q) := propext (Rat.lt_iff p q).symm
theorem l_less_ok (hp : Bq n p) (hq : Bq m q) (h : n + m ≤ 100000) (S : Sto) : F_l_less [fq p, fq q] S = .ok (.bl (decide (p < q))) S := by
  obtain ⟨g1, g2, g3, g4⟩ := mok hp hq h
  unfold F_l_less b_l_less
  refine run_rt ?_
  simp only [fq]
  simp [c_l_less_0, oMul_int, g1, g2, lt_cross]
theorem low_eq {a b : Int} (hb : 0 < b) : Int.fdiv a (Nat.gcd a.natAbs b.natAbs : Nat) = (Rat.divInt a b).num ∧ Int.fdiv b (Nat.gcd a.natAbs b.natAbs : Nat) = ((Rat.divInt a b).den : Int) := low_pos hb
theorem dd_pos : 0 < (p.den : Int) * (q.den : Int) := Int.mul_pos (by have := p.den_pos; omega) (by have := q.den_pos; omega)
theorem plus_ok (hp : Bq n p) (hq : Bq m q) (h : n + m + 1 ≤ 13000) (S : Sto) : F_plus [fq p, fq q] S = .ok (fq (p + q)) S := by
  obtain ⟨h1, h2, h3, h4, h5, _⟩ := sum_ok hp hq
  obtain ⟨g1, g2, g3, g4⟩ := mok hp hq (by omega)
  have hb := dd_pos (p := p) (q := q)
  have e1 : (Rat.divInt (p.num * q.den + q.num * p.den) ((p.den : Int) * (q.den : Int))) = p + q := add_eq
  have x0 : c_plus_0 [some (fq p), some (fq q), none, none, none] S = .nx [some (fq p), some (fq q), some (.int (p.num * q.den + q.num * p.den)), none, none] S := by
    simp only [fq]
    simp [c_plus_0, oMul_int, g1, g2]
  have x1 : ∀ o, c_plus_1 [some (fq p), some (fq q), o, none, none] S = .nx [some (fq p), some (fq q), o, some (.int ((p.den : Int) * (q.den : Int))), none] S := fun o => by
    simp only [fq]
    simp [c_plus_1, oMul_int, g3]
  have x2 : ∀ a b : Int, c_plus_2 [some (fq p), some (fq q), some (.int a), some (.int b), none] S = .nx [some (fq p), some (fq q), some (.int a), some (.int b), some (.int (Nat.gcd a.natAbs b.natAbs : Nat))] S := fun a b => by
    simp [c_plus_2]
  have x3 : ∀ a b : Int, 0 < b → a.natAbs < 2 ^ 13000 → b.natAbs < 2 ^ 13000 → c_plus_3 [some (fq p), some (fq q), some (.int a), some (.int b), some (.int (Nat.gcd a.natAbs b.natAbs : Nat))] S = .rt (fq (Rat.divInt a b)) S := fun a b hb ha hb' => by
    have hg := gcd_ne (a := a) (b := b) (by omega)
    have e := low_pos (a := a) hb
    simp [c_plus_3, oDiv_int _ (divOk_any hg ha), oDiv_int _ (divOk_any hg hb'), fq, e.1, e.2]
  unfold F_plus b_plus
  refine run_rt ?_
  refine (seq_nx x0 _).trans ((seq_nx (x1 _) _).trans ((seq_nx (x2 _ _) _).trans ((x3 _ _ hb (pow_mono h1 h) (pow_mono h3 h)).trans ?_)))
  rw [e1]
theorem minus_ok (hp : Bq n p) (hq : Bq m q) (h : n + m + 1 ≤ 13000) (S : Sto) : F_minus [fq p, fq q] S = .ok (fq (p - q)) S := by
  obtain ⟨h1, h2, h3, h4, h5, _⟩ := sum_ok hp hq
  obtain ⟨g1, g2, g3, g4⟩ := mok hp hq (by omega)
  have hb := dd_pos (p := p) (q := q)
  have e1 : (Rat.divInt (p.num * q.den - q.num * p.den) ((p.den : Int) * (q.den : Int))) = p - q := sub_eq
  have x0 : c_minus_0 [some (fq p), some (fq q), none, none, none] S = .nx [some (fq p), some (fq q), some (.int (p.num * q.den - q.num * p.den)), none, none] S := by
    simp only [fq]
    simp [c_minus_0, oMul_int, g1, g2]
  have x1 : ∀ o, c_minus_1 [some (fq p), some (fq q), o, none, none] S = .nx [some (fq p), some (fq q), o, some (.int ((p.den : Int) * (q.den : Int))), none] S := fun o => by
    simp only [fq]
    simp [c_minus_1, oMul_int, g3]
  have x2 : ∀ a b : Int, c_minus_2 [some (fq p), some (fq q), some (.int a), some (.int b), none] S = .nx [some (fq p), some (fq q), some (.int a), some (.int b), some (.int (Nat.gcd a.natAbs b.natAbs : Nat))] S := fun a b => by
    simp [c_minus_2]
  have x3 : ∀ a b : Int, 0 < b → a.natAbs < 2 ^ 13000 → b.natAbs < 2 ^ 13000 → c_minus_3 [some (fq p), some (fq q), some (.int a), some (.int b), some (.int (Nat.gcd a.natAbs b.natAbs : Nat))] S = .rt (fq (Rat.divInt a b)) S := fun a b hb ha hb' => by
    have hg := gcd_ne (a := a) (b := b) (by omega)
    have e := low_pos (a := a) hb
    simp [c_minus_3, oDiv_int _ (divOk_any hg ha), oDiv_int _ (divOk_any hg hb'), fq, e.1, e.2]
  unfold F_minus b_minus
  refine run_rt ?_
  refine (seq_nx x0 _).trans ((seq_nx (x1 _) _).trans ((seq_nx (x2 _ _) _).trans ((x3 _ _ hb (pow_mono h2 h) (pow_mono h3 h)).trans ?_)))
  rw [e1]
theorem times_ok (hp : Bq n p) (hq : Bq m q) (h : n + m + 1 ≤ 13000) (S : Sto) : F_times [fq p, fq q] S = .ok (fq (p * q)) S := by
  obtain ⟨h1, h2, h3, h4, h5, _⟩ := sum_ok hp hq
  obtain ⟨g1, g2, g3, g4⟩ := mok hp hq (by omega)
  have hb := dd_pos (p := p) (q := q)
  have e1 : (Rat.divInt (p.num * q.num) ((p.den : Int) * (q.den : Int))) = p * q := mul_eq
  have x0 : c_times_0 [some (fq p), some (fq q), none, none, none] S = .nx [some (fq p), some (fq q), some (.int (p.num * q.num)), none, none] S := by
    simp only [fq]
    simp [c_times_0, oMul_int, g4]
  have x1 : ∀ o, c_times_1 [some (fq p), some (fq q), o, none, none] S = .nx [some (fq p), some (fq q), o, some (.int ((p.den : Int) * (q.den : Int))), none] S := fun o => by
    simp only [fq]
    simp [c_times_1, oMul_int, g3]
  have x2 : ∀ a b : Int, c_times_2 [some (fq p), some (fq q), some (.int a), some (.int b), none] S = .nx [some (fq p), some (fq q), some (.int a), some (.int b), some (.int (Nat.gcd a.natAbs b.natAbs : Nat))] S := fun a b => by
    simp [c_times_2]
  have x3 : ∀ a b : Int, 0 < b → a.natAbs < 2 ^ 13000 → b.natAbs < 2 ^ 13000 → c_times_3 [some (fq p), some (fq q), some (.int a), some (.int b), some (.int (Nat.gcd a.natAbs b.natAbs : Nat))] S = .rt (fq (Rat.divInt a b)) S := fun a b hb ha hb' => by
    have hg := gcd_ne (a := a) (b := b) (by omega)
    have e := low_pos (a := a) hb
    simp [c_times_3, oDiv_int _ (divOk_any hg ha), oDiv_int _ (divOk_any hg hb'), fq, e.1, e.2]
  unfold F_times b_times
  refine run_rt ?_
  refine (seq_nx x0 _).trans ((seq_nx (x1 _) _).trans ((seq_nx (x2 _ _) _).trans ((x3 _ _ hb (pow_mono (pow_mono h5 (Nat.le_succ _)) h) (pow_mono h3 h)).trans ?_)))
  rw [e1]
theorem is_less_ok (hp : Bq n p) (hq : Bq m q) (h : n + m ≤ 100000) (S : Sto) : F_is_less [fq p, fq q] S = .ok (.bl (decide (p < q))) S := by
  obtain ⟨g1, g2, g3, g4⟩ := mok hp hq h
  unfold F_is_less b_is_less
  refine run_rt ?_
  simp only [fq]
  simp [c_is_less_0, oMul_int, g1, g2, lt_cross]
theorem floor_of_ok (hp : Bq n p) (h : n ≤ 13000) (S : Sto) : F_floor_of [fq p] S = .ok (.int p.floor) S := by
  have g : divOk p.num p.den = true := divOk_any (den_ne p) (pow_mono hp.1 h)
  unfold F_floor_of b_floor_of
  refine run_rt ?_
  simp only [fq]
  simp [c_floor_of_0, oDiv_int _ g, Rat.floor_def, Int.fdiv_eq_ediv_of_nonneg]
theorem fraction_ok {a b : Int} (S : Sto) (hb : b ≠ 0) (ha2 : a.natAbs < 2 ^ 13000) (hb2 : b.natAbs < 2 ^ 13000) : F_fraction [.int a, .int b] S = .ok (fq (Rat.divInt a b)) S := by
  have e := lowest_ok S hb ha2 hb2
  have w : ∀ i : Int, F_is_whole [.int i] S = .ok (.bl true) S := fun i => by
    unfold F_is_whole b_is_whole
    refine run_rt ?_
    simp [c_is_whole_0, oIsnt, oIsG, isBlD]
  unfold F_fraction b_fraction
  refine run_rt ?_
  simp only [fq] at e ⊢
  simp [c_fraction_0, c_fraction_1, c_fraction_2, w, hb, e]
theorem is_fraction_ok (S : Sto) : F_is_fraction [fq p] S = .ok (.bl true) S := by
  have r : (p.num.natAbs.gcd p.den) = 1 := p.reduced
  have d := p.den_nz
  have d2 : (p.den : Int) = 1 ∨ (1 : Int) < p.den := by omega
  unfold F_is_fraction b_is_fraction
  refine run_rt ?_
  simp only [fq]
  rcases d2 with d2 | d2
  · simp [c_is_fraction_0, c_is_fraction_1, c_is_fraction_2, c_is_fraction_3, c_is_fraction_4, d2, oIs, oIsG, isBlD]
  · have d3 : ¬ (p.den : Int) = 1 := by omega
    have d4 : ((p.den : Int) == 1) = false := beq_eq_false_iff_ne.mpr d3
    simp [c_is_fraction_0, c_is_fraction_1, c_is_fraction_2, c_is_fraction_3, c_is_fraction_4, r, d2, d3, d4, oIs, oIsG, isBlD]
end
end Fx
set_option Elab.async false
set_option linter.all false
set_option maxRecDepth 100000
/-! loops, comprehensions -/
namespace DL
open PySem L2
/-- a store with more behind it -/
theorem at_app {S e : Sto} {n : Nat} {o : O} (h : S[n]? = some o) : (S ++ e)[n]? = some o := by
  rw [List.getElem?_append_left (List.getElem?_eq_some_iff.mp h).1]; exact h
theorem at_k {T e : Sto} {j : Nat} : (T ++ e)[T.length + j]? = e[j]? := by
  rw [List.getElem?_append_right (by omega)]; simp
@[simp] theorem at_end {S : Sto} {o : O} : (S ++ [o])[S.length]? = some o := by simp
theorem for_gen {it : Itd} {t : Tg} {b : SF} {n : Nat} (P : Nat → Lc → Sto → Prop)
    (step : ∀ i ρ S, i < n → P i ρ S → ∃ d ρ1 ρ' S', it.at' i S = some (some d) ∧ t.put d ρ S = some ρ1 ∧ b ρ1 S = .nx ρ' S' ∧ P (i + 1) ρ' S')
    (stop : ∀ ρ S, P n ρ S → it.at' n S = some none) : ∀ m i ρ S, n ≤ m + i → i ≤ n → P i ρ S → ∃ ρ' S', forGo it t b m i ρ S = .nx ρ' S' ∧ P n ρ' S' := by
  intro m
  induction m with
  | zero =>
    intro i ρ S h1 h2 p
    have : i = n := by omega
    subst this
    exact ⟨ρ, S, by unfold forGo; simp only [stop _ _ p], p⟩
  | succ m ih =>
    intro i ρ S h1 h2 p
    by_cases hi : i = n
    · subst hi
      exact ⟨ρ, S, by unfold forGo; simp only [stop _ _ p], p⟩
    · obtain ⟨d, ρ1, ρ', S', e1, e2, e3, q⟩ := step i ρ S (by omega) p
      obtain ⟨ρ'', S'', e4, r⟩ := ih (i + 1) ρ' S' (by omega) (by omega) q
      exact ⟨ρ'', S'', by unfold forGo; simp only [e1, e2, e3, e4], r⟩
theorem for_lst {a : EF} {j : Nat} {b : SF} {ρ : Lc} {S S1 : Sto} {n : Nat} {xs : List D} (P : Nat → Lc → Sto → Prop)
    (ha : a ρ S = .ok (.ob n) S1) (h0 : P 0 ρ S1) (hl : ∀ i ρ S, P i ρ S → S[n]? = some (.lst xs))
    (step : ∀ (i : Nat) (h : i < xs.length) ρ S, P i ρ S → ∃ ρ' S', b (ρ.set j (some xs[i])) S = .nx ρ' S' ∧ P (i + 1) ρ' S') :
    ∃ ρ' S', sFor (iLst a) (.nm j) b ρ S = .nx ρ' S' ∧ P xs.length ρ' S' := by
  have l1 := hl _ _ _ h0
  have e : sFor (iLst a) (.nm j) b ρ S = forGo (.lst n) (.nm j) b xs.length 0 ρ S1 := by
    simp [sFor, iLst, ha, l1, Itd.size]
  rw [e]
  refine for_gen (n := xs.length) P (fun i ρ S hi p => ?_) (fun ρ S p => ?_) _ _ _ _ (by omega) (by omega) h0
  · obtain ⟨ρ', S', e1, q⟩ := step i hi ρ S p
    exact ⟨xs[i], ρ.set j (some xs[i]), ρ', S', by simp [Itd.at', hl _ _ _ p, hi], by simp, e1, q⟩
  · simp [Itd.at', hl _ _ _ p]
theorem for_rng {n : Nat} {j : Nat} {b : SF} {ρ : Lc} {S : Sto} (P : Nat → Lc → Sto → Prop) (hn : (n : Int) < 2 ^ 62) (h0 : P 0 ρ S)
    (step : ∀ (i : Nat) (h : i < n) ρ S, P i ρ S → ∃ ρ' S', b (ρ.set j (some (.int i))) S = .nx ρ' S' ∧ P (i + 1) ρ' S') :
    ∃ ρ' S', sFor (iRng (aCons (eC (.int n)) aNil)) (.nm j) b ρ S = .nx ρ' S' ∧ P n ρ' S' := by
  have g : gd (-(2 ^ 62) ≤ (n : Int) ∧ (n : Int) < 2 ^ 62) = true := gd_of ⟨by omega, hn⟩
  have e : sFor (iRng (aCons (eC (.int n)) aNil)) (.nm j) b ρ S = forGo (.rng 0 n) (.nm j) b n 0 ρ S := by
    unfold sFor iRng
    simp only [aCons_eq, eC_eq, aNil_eq, bind_ok, g, if_true, sb_ok, Int.toNat_natCast, Itd.size]
  rw [e]
  refine for_gen (n := n) P (fun i ρ S hi p => ?_) (fun ρ S p => ?_) _ _ _ _ (by omega) (by omega) h0
  · obtain ⟨ρ', S', e1, q⟩ := step i hi ρ S p
    exact ⟨.int i, ρ.set j (some (.int i)), ρ', S', by simp [Itd.at', hi], by simp, e1, q⟩
  · simp [Itd.at']
theorem lc_gen {it : Itd} {t : Tg} {e : EF} {ρ : Lc} {k n : Nat} (P : Nat → List D → Sto → Prop)
    (step : ∀ i acc S, i < n → P i acc S → ∃ d ρ1 y S3, it.at' i S = some (some d) ∧ t.put d ρ S = some ρ1 ∧ e ρ1 S = .ok y S3 ∧ S3[k]? = some (.lst acc) ∧ acc.length ≤ 1000000 ∧ P (i + 1) (acc ++ [y]) (S3.set k (.lst (acc ++ [y]))))
    (stop : ∀ acc S, P n acc S → it.at' n S = some none) :
    ∀ m i acc S, n ≤ m + i → i ≤ n → P i acc S → ∃ acc' S', lcGo it t cYes e ρ k m i S = .ok (.ob k) S' ∧ P n acc' S' := by
  intro m
  induction m with
  | zero =>
    intro i acc S h1 h2 p
    have : i = n := by omega
    subst this
    exact ⟨acc, S, by unfold lcGo; simp only [stop _ _ p], p⟩
  | succ m ih =>
    intro i acc S h1 h2 p
    by_cases hi : i = n
    · subst hi
      exact ⟨acc, S, by unfold lcGo; simp only [stop _ _ p], p⟩
    · obtain ⟨d, ρ1, y, S3, e1, e2, e3, e4, e5, q⟩ := step i acc S (by omega) p
      obtain ⟨acc'', S'', e6, r⟩ := ih (i + 1) _ _ (by omega) (by omega) q
      have g : szOk acc.length = true := by simpa using e5
      exact ⟨acc'', S'', by unfold lcGo; simp only [e1, e2, cYes, e3, e4, g, if_true, e6], r⟩
/-- a comprehension whose element leaves the store as it was -/
theorem lc_map {α : Type} {a : EF} {j : Nat} {e : EF} {own : List Nat} {ρ : Lc} {S S1 : Sto} {n : Nat} {qs : List α} (g f : α → D)
    (ha : a ρ S = .ok (.ob n) S1) (h1 : S1[n]? = some (.lst (qs.map g))) (hq : qs.length ≤ 1000000)
    (step : ∀ q ∈ qs, ∀ S2, e ((wipeD ρ own).set j (some (g q))) S2 = .ok (f q) S2) :
    eLc (iLst a) (.nm j) cYes e own ρ S = .ok (.ob S1.length) (S1 ++ [.lst (qs.map f)]) := by
  have hn := (List.getElem?_eq_some_iff.mp h1).1
  have e1 : eLc (iLst a) (.nm j) cYes e own ρ S = lcGo (.lst n) (.nm j) cYes e (wipeD ρ own) S1.length qs.length 0 (S1 ++ [.lst []]) := by
    simp [eLc, iLst, ha, h1, Itd.size]
  rw [e1]
  have main := lc_gen (it := .lst n) (t := .nm j) (e := e) (ρ := wipeD ρ own) (k := S1.length) (n := qs.length)
    (fun i acc S => S = S1 ++ [.lst acc] ∧ acc = (qs.take i).map f) (by
      intro i acc S hi ⟨p1, p2⟩
      refine ⟨g qs[i], _, f qs[i], S, ?_, put_nm _ _ _ _, step _ (List.getElem_mem hi) _, ?_, ?_, ?_, ?_⟩
      · simp [Itd.at', p1, at_app h1, hi]
      · rw [p1]; simp
      · rw [p2]; simp; omega
      · rw [p1]; simp
      · rw [p2, List.take_succ, List.map_append]; simp [hi]) (by
      intro acc S ⟨p1, p2⟩
      simp [Itd.at', p1, at_app h1]) qs.length 0 [] (S1 ++ [.lst []]) (by omega) (by omega) (by simp)
  obtain ⟨acc, S', e2, e3, e4⟩ := main
  rw [e2, e3, e4]; simp
@[simp] theorem pNo_eq (ρ : Lc) (S : Sto) : pNo ρ S = .ok none S := rfl
@[simp] theorem pAt_eq (a : EF) (ρ : Lc) (S : Sto) : pAt a ρ S = (a ρ S).bind fun d S1 => match d with | .int i => .ok (some i) S1 | _ => .no := rfl
@[simp] theorem eSl_eq (a : EF) (lo hi : PF) (ρ : Lc) (S : Sto) : eSl a lo hi ρ S = (a ρ S).bind fun d S1 => (lo ρ S1).bind fun l S2 => (hi ρ S2).bind fun u S3 => oSl d l u S3 := rfl
theorem oSl_ob {n : Nat} {xs : List D} {S : Sto} (h : S[n]? = some (.lst xs)) (l u : Option Int) : oSl (.ob n) l u S = .ok (.ob S.length) (S ++ [.lst (cutD xs l u)]) := by
  simp only [oSl, h]
theorem oAdd_ob {n m : Nat} {xs ys : List D} {S : Sto} (h1 : S[n]? = some (.lst xs)) (h2 : S[m]? = some (.lst ys)) (h : xs.length + ys.length ≤ 1000000) : oAdd (.ob n) (.ob m) S = .ok (.ob S.length) (S ++ [.lst (xs ++ ys)]) := by
  have g : szOk (xs.length + ys.length) = true := by simpa using h
  simp only [oAdd, h1, h2]
  simp [h]
theorem eLst_ok {a : AF} {ρ : Lc} {S S1 : Sto} {ds : List D} (h : a ρ S = .ok ds S1) (hl : ds.length ≤ 1000000) : eLst a ρ S = .ok (.ob S1.length) (S1 ++ [.lst ds]) := by
  simp [h, hl]
end DL
set_option Elab.async false
set_option linter.all false
set_option maxRecDepth 100000
/-! the law's pen, numbers, sameness -/
namespace Fx
open PySem L2 DL
theorem Pen.lt {S : Sto} {ns : List Int} {k : Nat} (h : Pen S ns k) : 2 < S.length := by
  obtain ⟨a, r, h1, h2⟩ := h
  exact (List.getElem?_eq_some_iff.mp h1).1
theorem l_pen_ok (ns : List Int) : ∃ ms S, F_l_pen [.ro ns] [] = .ok (.ob 2) S ∧ Pen S ms 0 ∧ S.length = 3 := by
  refine ⟨cutD ns none (some 63), [.lst ((cutD ns none (some 63)).map D.int), .lst ((cutD ns none (some 63)).map D.int), .lst [.ob 1, .int 0, .int 0]], ?_, ⟨0, 0, rfl, rfl, by decide, by decide⟩, rfl⟩
  unfold F_l_pen b_l_pen
  refine run_rt ?_
  simp [c_l_pen_0, cList]
/-- after some draws -/
def Nu (ns : List Int) (S0 S : Sto) (k : Nat) (f : Int) : Prop := Pen S ns k ∧ Fr S0 S ∧ 0 ≤ f ∧ f < 1000000000000000000000000000000000000000000000000000000000000
section
variable {S0 S : Sto} {ns : List Int} {k : Nat} {w f : Int} {o3 : Option D}
theorem num0 (h : Pen S ns k) (hk : k + 2 ≤ 1000000000000) : ∃ w f S', c_l_number_0 [some (.ob 2), none, none, none] S = .nx [some (.ob 2), some (.int w), some (.int f), none] S' ∧ Nu ns S S' (k + 2) f := by
  obtain ⟨w, S1, e1, a1, a2, p1, r1, _⟩ := draw_ok (m := 5) h (by omega) (by decide) (by decide)
  obtain ⟨f, S2, e2, b1, b2, p2, r2, _⟩ := draw_ok (m := 13) p1 (by omega) (by decide) (by decide)
  exact ⟨w, f, S2, by simp [c_l_number_0, e1, e2], p2, r1.trans r2, b1, by omega⟩
theorem pow12 (S : Sto) : oPow (.int 10) (.int 12) S = .ok (.int 1000000000000) S := oPow_int S (by decide)
theorem pow48 (S : Sto) : oPow (.int 10) (.int 48) S = .ok (.int 1000000000000000000000000000000000000000000000000) S := oPow_int S (by decide)
theorem num1 (h : Nu ns S0 S k f) (hk : k + 1 ≤ 1000000000000) : ∃ f' S', c_l_number_1 [some (.ob 2), some (.int w), some (.int f), o3] S = .nx [some (.ob 2), some (.int w), some (.int f'), o3] S' ∧ Nu ns S0 S' (k + 1) f' := by
  obtain ⟨h1, h2, h3, h4⟩ := h
  by_cases hw : w = 2
  · obtain ⟨f', S1, e1, a1, a2, p1, r1, _⟩ := draw_ok (m := 1000000000000) h1 (by omega) (by decide) (by decide)
    exact ⟨f', S1, by simp [c_l_number_1, hw, pow12, e1], p1, h2.trans r1, a1, by omega⟩
  · exact ⟨f, S, by simp [c_l_number_1, hw], h1.mono (by omega), h2, h3, h4⟩
theorem num2 (h : Nu ns S0 S k f) (hk : k + 1 ≤ 1000000000000) : ∃ f' S', c_l_number_2 [some (.ob 2), some (.int w), some (.int f), o3] S = .nx [some (.ob 2), some (.int w), some (.int f'), o3] S' ∧ Nu ns S0 S' (k + 1) f' := by
  obtain ⟨h1, h2, h3, h4⟩ := h
  by_cases hw : w = 3
  · obtain ⟨f', S1, e1, a1, a2, p1, r1, _⟩ := draw_ok (m := 3) h1 (by omega) (by decide) (by decide)
    exact ⟨1000000000000 - 1 - f', S1, by simp [c_l_number_2, hw, pow12, e1], p1, h2.trans r1, by omega, by omega⟩
  · exact ⟨f, S, by simp [c_l_number_2, hw], h1.mono (by omega), h2, h3, h4⟩
theorem num3 (h : Nu ns S0 S k f) (hk : k + 5 ≤ 1000000000000) : ∃ f' o3' S', c_l_number_3 [some (.ob 2), some (.int w), some (.int f), o3] S = .nx [some (.ob 2), some (.int w), some (.int f'), o3'] S' ∧ Nu ns S0 S' (k + 5) f' := by
  by_cases hw : w = 4
  · have main := for_rng (n := 5) (j := 3) (ρ := [some (.ob 2), some (.int w), some (.int f), o3]) (S := S)
      (b := sAsg (.nm 2) (eOp oAdd (eOp oMul (eOp oMod (eVar 2) (eOp oPow (eC (.int 10)) (eC (.int 48)))) (eOp oPow (eC (.int 10)) (eC (.int 12)))) (eCall F_l_draw (aCons (eVar 0) (aCons (eOp oPow (eC (.int 10)) (eC (.int 12))) aNil)))))
      (fun i ρ S => ∃ f' o, ρ = [some (.ob 2), some (.int w), some (.int f'), o] ∧ Nu ns S0 S (k + i) f') (by decide) ⟨f, o3, rfl, h⟩ (by
        rintro i hi ρ S ⟨f', o, rfl, h1, h2, h3, h4⟩
        obtain ⟨d, S1, e1, a1, a2, p1, r1, _⟩ := draw_ok (m := 1000000000000) h1 (by omega) (by decide) (by decide)
        have hm := modB f' (p := 1000000000000000000000000000000000000000000000000) (by decide)
        have g : mulOk (f' % 1000000000000000000000000000000000000000000000000) 1000000000000 = true := mulOk_of (a := 180) (b := 180) (by omega) (by decide) (by decide)
        exact ⟨_, S1, by simp [pow12, pow48, oMod_int, oMul_int _ g, e1]; rfl, f' % 1000000000000000000000000000000000000000000000000 * 1000000000000 + d, _, rfl, p1, h2.trans r1, by omega, by omega⟩)
    obtain ⟨ρ', S', e1, f', o, rfl, e3⟩ := main
    exact ⟨f', o, S', by unfold c_l_number_3; simp only [sIf_eq, tTru_eq, eOp_eq, eVar_s, eVar_0, bind_ok, eC_eq, oEq_int2, hw, truD_bl, beq_self_eq_true, sb_ok, if_true]; rw [hw] at e1; exact e1, e3⟩
  · obtain ⟨h1, h2, h3, h4⟩ := h
    exact ⟨f, o3, S, by simp [c_l_number_3, hw], h1.mono (by omega), h2, h3, h4⟩
theorem num4 (h : Nu ns S0 S k f) (hk : k + 1 ≤ 1000000000000) : ∃ v S', c_l_number_4 [some (.ob 2), some (.int w), some (.int f), o3] S = .rt (.int v) S' ∧ Pen S' ns (k + 1) ∧ Fr S0 S' ∧ v.natAbs < 2 ^ 200 := by
  obtain ⟨h1, h2, h3, h4⟩ := h
  obtain ⟨d, S1, e1, a1, a2, p1, r1, _⟩ := draw_ok (m := 2) (h1.app (e := [.lst [.int 1, .int (-1)]])) (by omega) (by decide) (by decide)
  have hl := h1.lt
  have l1 : S1[S.length]? = some (.lst [.int 1, .int (-1)]) := r1.2 _ _ (by omega) at_end
  have g1 : ∀ i : Int, i.natAbs < 4 → mulOk f i = true := fun i hi => mulOk_of (a := 200) (b := 2) (by omega) hi (by decide)
  have hd : d = 0 ∨ d = 1 := by omega
  rcases hd with rfl | rfl
  · exact ⟨f, S1, by simp [c_l_number_4, e1, oIx_ob l1, oMul_int _ (g1 1 (by decide))], p1, (h2.trans Fr.app).trans r1, by omega⟩
  · exact ⟨-f, S1, by simp [c_l_number_4, e1, oIx_ob l1, oMul_int _ (g1 (-1) (by decide))], p1, (h2.trans Fr.app).trans r1, by omega⟩
end
theorem number_ok {S : Sto} {ns : List Int} {k : Nat} (h : Pen S ns k) (hk : k + 10 ≤ 1000000000000) :
    ∃ v S', F_l_number [.ob 2] S = .ok (.int v) S' ∧ v.natAbs < 2 ^ 200 ∧ Pen S' ns (k + 10) ∧ Fr S S' := by
  obtain ⟨w, f0, S0, e0, p0⟩ := num0 h (by omega)
  obtain ⟨f1, S1, e1, p1⟩ := num1 (w := w) (o3 := none) p0 (by omega)
  obtain ⟨f2, S2, e2, p2⟩ := num2 (w := w) (o3 := none) p1 (by omega)
  obtain ⟨f3, o3, S3, e3, p3⟩ := num3 (w := w) (o3 := none) p2 (by omega)
  obtain ⟨v, S4, e4, p4, r4, b4⟩ := num4 (w := w) (o3 := o3) p3 (by omega)
  refine ⟨v, S4, ?_, b4, p4, r4⟩
  unfold F_l_number b_l_number
  refine run_rt ?_
  show sSeq _ _ [some (.ob 2), none, none, none] S = _
  rw [seq_nx e0, seq_nx e1, seq_nx e2, seq_nx e3]
  exact e4
end Fx
set_option Elab.async false
set_option linter.all false
set_option maxRecDepth 100000
/-! sameness of flat data -/
namespace DL
open PySem L2
instance : Inhabited D := ⟨.non⟩
end DL
namespace Fx
open PySem L2 DL
/-- the same, so many layers deep -/
inductive Sm (S : Sto) : Nat → D → D → Prop where
  | int {d : Nat} (i : Int) : Sm S d (.int i) (.int i)
  | bl {d : Nat} (b : Bool) : Sm S d (.bl b) (.bl b)
  | non {d : Nat} : Sm S d .non .non
  | tup {d : Nat} {xs ys : List D} (hl : xs.length = ys.length) (h3 : ys.length ≤ 1000000) (h : ∀ (i : Nat) (h1 : i < xs.length) (h2 : i < ys.length), Sm S d xs[i] ys[i]) : Sm S (d + 1) (.tup xs) (.tup ys)
  | ob {d n m : Nat} {xs ys : List D} (hn : S[n]? = some (.lst xs)) (hm : S[m]? = some (.lst ys)) (hl : xs.length = ys.length) (h3 : ys.length ≤ 1000000) (h : ∀ (i : Nat) (h1 : i < xs.length) (h2 : i < ys.length), Sm S d xs[i] ys[i]) : Sm S (d + 1) (.ob n) (.ob m)
theorem Sm.app {S e : Sto} {d : Nat} {a b : D} (h : Sm S d a b) : Sm (S ++ e) d a b := by
  induction h with
  | int i => exact .int i
  | bl i => exact .bl i
  | non => exact .non
  | tup hl h3 h ih => exact .tup hl h3 ih
  | ob hn hm hl h3 h ih => exact .ob (at_app hn) (at_app hm) hl h3 ih
theorem all_ok {S : Sto} {n : Nat} {k : Nat} (h : S[n]? = some (.lst (List.replicate k (.bl true)))) : cAll [.ob n] S = .ok (.bl true) S := by
  have e : ∀ k, allBl (List.replicate k (.bl true)) = some (List.replicate k true) := fun k => by
    induction k with
    | zero => rfl
    | succ k ih => rw [List.replicate_succ, allBl, ih]; rfl
  have f : ∀ k, (List.replicate k true).all id = true := fun k => by
    induction k with
    | zero => rfl
    | succ k ih => rw [List.replicate_succ, List.all_cons, ih]; rfl
  simp only [cAll, h, e]
  simp
theorem same_ok : ∀ (D : Nat) {S : Sto} {d : Nat} {a b : DL.D}, Sm S d a b → d < D → ∃ e, R_l_same D [a, b] S = .ok (.bl true) (S ++ e) := by
  intro D
  induction D with
  | zero => intro S d a b h hd; omega
  | succ D ih =>
    intro S d a b h hd
    have fin : ∀ (xs ys : List DL.D) (it : Itd) (n d : Nat), n ≤ 1000000 → xs.length = n → ys.length = n → (∀ (i : Nat) (h1 : i < xs.length) (h2 : i < ys.length), Sm S d xs[i] ys[i]) → d < D →
        (∀ i e, (h : i < n) → it.at' i (S ++ e) = some (some (.tup [xs[i]!, ys[i]!]))) → (∀ e, it.at' n (S ++ e) = some none) → ∀ ρ, ρ.length = 4 →
        ∃ e, lcGo it (.tp [.nm 2, .nm 3]) cYes (eCall (R_l_same D) (aCons (eVar 2) (aCons (eVar 3) aNil))) ρ S.length n 0 (S ++ [.lst []]) = .ok (.ob S.length) (S ++ .lst (List.replicate n (.bl true)) :: e) := by
      intro xs ys it n d hn hx hy hs hd h1 h2 ρ hρ
      have main := lc_gen (it := it) (t := .tp [.nm 2, .nm 3]) (e := eCall (R_l_same D) (aCons (eVar 2) (aCons (eVar 3) aNil))) (ρ := ρ) (k := S.length) (n := n)
        (fun i acc S' => acc = List.replicate i (.bl true) ∧ ∃ e, S' = S ++ .lst acc :: e) (by
          rintro i acc S' hi ⟨p1, e, p2⟩
          have sm := hs i (by omega) (by omega)
          obtain ⟨e', e3⟩ := ih (sm.app (e := .lst acc :: e)) hd
          refine ⟨_, (ρ.set 2 (some xs[i]!)).set 3 (some ys[i]!), .bl true, S ++ .lst acc :: e ++ e', by rw [p2]; exact h1 i _ hi, by simp, ?_, ?_, ?_, ?_⟩
          · match ρ, hρ with
            | [a, b, c, d], _ =>
              simp only [List.set, eCall_eq, aCons_eq, eVar_s, eVar_0, aNil_eq, bind_ok, p2]
              rw [getElem!_pos xs i (by omega), getElem!_pos ys i (by omega), e3]
              rfl
          · simp
          · rw [p1]; simp; omega
          · exact ⟨by rw [p1, List.replicate_succ'], e ++ e', by simp⟩) (by
          rintro acc S' ⟨p1, e, p2⟩
          rw [p2]; exact h2 _) n 0 [] (S ++ [.lst []]) (by omega) (by omega) ⟨rfl, [], rfl⟩
      obtain ⟨acc, S', e1, e2, e, e3⟩ := main
      exact ⟨e, by rw [e1, e3, e2]⟩
    show ∃ e, runF 4 2 (b_l_same (R_l_same D)) [a, b] S = _
    cases h with
    | int i =>
      refine ⟨[], run_rt ?_⟩
      simp [b_l_same, c_l_same_0, c_l_same_1, c_l_same_2, c_l_same_3, c_l_same_4]
    | bl i =>
      refine ⟨[], run_rt ?_⟩
      simp [b_l_same, c_l_same_0, c_l_same_1, c_l_same_2, c_l_same_3, c_l_same_4]
    | non =>
      refine ⟨[], run_rt ?_⟩
      simp [b_l_same, c_l_same_0, c_l_same_1]
    | tup hl h3 h =>
      rename_i d xs ys
      obtain ⟨e, e1⟩ := fin xs ys (.zipT xs ys) ys.length d h3 hl rfl h (by omega) (fun i e h => by simp [Itd.at', h, hl]) (fun e => by simp [Itd.at', hl]) [some (.tup xs), some (.tup ys), none, none] rfl
      refine ⟨.lst (List.replicate ys.length (.bl true)) :: e, run_rt ?_⟩
      · unfold b_l_same
        refine (seq_rt (d := .bl true) (S' := S ++ .lst (List.replicate ys.length (.bl true)) :: e) ?_ _)
        have e2 : (eLc (iZip (aCons (eVar 0) (aCons (eVar 1) aNil))) (.tp [(.nm 2), (.nm 3)]) cYes (eCall (R_l_same D) (aCons (eVar 2) (aCons (eVar 3) aNil))) [2, 3]) [some (.tup xs), some (.tup ys), none, none] S = .ok (.ob S.length) (S ++ .lst (List.replicate ys.length (.bl true)) :: e) := by
          unfold eLc
          simp only [DL.iZip, aCons_eq, eVar_s, eVar_0, aNil_eq, bind_ok, wipeD, Itd.size, List.set, hl]
          exact e1
        have e3 : cAll [.ob S.length] (S ++ .lst (List.replicate ys.length (.bl true)) :: e) = .ok (.bl true) (S ++ .lst (List.replicate ys.length (.bl true)) :: e) := all_ok (k := ys.length) (by simp)
        simp [c_l_same_0, hl, e2, e3]
    | ob hn hm hl h3 h =>
      rename_i d n m xs ys
      obtain ⟨e, e1⟩ := fin xs ys (.zipL n m) ys.length d h3 hl rfl h (by omega) (fun i e h => by simp [Itd.at', h, hl, at_app hn, at_app hm]) (fun e => by simp [Itd.at', hl, at_app hn, at_app hm]) [some (.ob n), some (.ob m), none, none] rfl
      refine ⟨.lst (List.replicate ys.length (.bl true)) :: e, run_rt ?_⟩
      · unfold b_l_same
        refine (seq_rt (d := .bl true) (S' := S ++ .lst (List.replicate ys.length (.bl true)) :: e) ?_ _)
        have e2 : (eLc (iZip (aCons (eVar 0) (aCons (eVar 1) aNil))) (.tp [(.nm 2), (.nm 3)]) cYes (eCall (R_l_same D) (aCons (eVar 2) (aCons (eVar 3) aNil))) [2, 3]) [some (.ob n), some (.ob m), none, none] S = .ok (.ob S.length) (S ++ .lst (List.replicate ys.length (.bl true)) :: e) := by
          unfold eLc
          simp only [DL.iZip, aCons_eq, eVar_s, eVar_0, aNil_eq, bind_ok, wipeD, Itd.size, List.set, hl, hn, hm]
          exact e1
        have e3 : cAll [.ob S.length] (S ++ .lst (List.replicate ys.length (.bl true)) :: e) = .ok (.bl true) (S ++ .lst (List.replicate ys.length (.bl true)) :: e) := all_ok (k := ys.length) (by simp)
        simp [c_l_same_0, hl, e2, e3, tyD_ob hn, tyD_ob hm, cLen_ob hn, cLen_ob hm]
end Fx
set_option Elab.async false
set_option linter.all false
set_option maxRecDepth 100000
/-! lists of fractions, drawn fractions -/
namespace Fx
open PySem L2 DL
theorem cutD_map {α β : Type} (f : α → β) (xs : List α) (l u : Option Int) : cutD (xs.map f) l u = (cutD xs l u).map f := by
  simp [cutD, List.map_take, List.map_drop]
theorem cutD_mem {α : Type} {xs : List α} {l u : Option Int} {x : α} (h : x ∈ cutD xs l u) : x ∈ xs := List.mem_of_mem_drop (List.mem_of_mem_take h)
theorem cutD_len {α : Type} {xs : List α} {l u : Option Int} : (cutD xs l u).length ≤ xs.length := by
  simp only [cutD, List.length_take, List.length_drop]; omega
@[simp] theorem fq_at0 (q : Rat) (S : Sto) : oIx (fq q) (.int 0) S = .ok (.int q.num) S := rfl
@[simp] theorem fq_at1 (q : Rat) (S : Sto) : oIx (fq q) (.int 1) S = .ok (.int q.den) S := rfl
theorem fq_floor (q : Rat) : fq (Rat.ofInt q.floor) = .tup [.int q.floor, .int 1] := rfl
theorem fq_one : fq 1 = .tup [.int 1, .int 1] := rfl
theorem fq_zero : fq 0 = .tup [.int 0, .int 1] := rfl
theorem fq_neg (q : Rat) : fq (-q) = .tup [.int (0 - q.num), .int q.den] := by
  simp [fq, Rat.neg_num, Rat.neg_den]
theorem Bq_neg {q : Rat} {n : Nat} (h : Bq n q) : Bq n (-q) := ⟨by rw [Rat.neg_num]; have := h.1; omega, by rw [Rat.neg_den]; exact h.2⟩
theorem Bq_one : Bq 1 (1 : Rat) := ⟨by decide, by decide⟩
theorem Bq_zero : Bq 1 (0 : Rat) := ⟨by decide, by decide⟩
theorem Bq_int {i : Int} {n : Nat} (h : i.natAbs < 2 ^ n) (hn : 1 ≤ n) : Bq n (Rat.ofInt i) := ⟨h, pow_mono (n := 1) (show 1 < 2 ^ 1 by decide) hn⟩
theorem Bq_floor {q : Rat} {n : Nat} (h : Bq n q) (hn : 1 ≤ n) : Bq n (Rat.ofInt q.floor) := by
  refine Bq_int ?_ hn
  rw [Rat.floor_def]
  exact Nat.lt_of_le_of_lt (Int.natAbs_ediv_le_natAbs _ _) h.1
/-- a part in 10 ** 40 -/
def tiny : Rat := ⟨1, 10000000000000000000000000000000000000000, by decide, by simp⟩
theorem fq_tiny : fq tiny = .tup [.int 1, .int 10000000000000000000000000000000000000000] := rfl
theorem Bq_tiny : Bq 134 tiny := ⟨by decide, by decide⟩
theorem up13 {x : Nat} (h : x < 2 ^ 200) : x < 2 ^ 13000 := pow_mono (n := 200) (m := 13000) h (by decide)
/-- a fraction drawn -/
theorem rat_ok {S : Sto} {ns : List Int} {k : Nat} {o0 : Option D} {ρ : Lc} (h : Pen S ns k) (hk : k + 20 ≤ 1000000000000) :
    ∃ q S', eCall F_l_low (aCons (eCall F_l_number (aCons (eVar 1) aNil)) (aCons (eOr (eCall F_l_number (aCons (eVar 1) aNil)) (eC (.int 1))) aNil)) (o0 :: some (.ob 2) :: ρ) S = .ok (fq q) S' ∧ Bq 200 q ∧ Pen S' ns (k + 20) ∧ Fr S S' := by
  obtain ⟨a, S1, e1, b1, p1, r1⟩ := number_ok h (by omega)
  obtain ⟨b, S2, e2, b2, p2, r2⟩ := number_ok p1 (by omega)
  by_cases hb : b = 0
  · have one : (1 : Int).natAbs < 2 ^ 200 := by decide
    have e3 := l_low_ok S2 (a := a) (b := 1) (by decide) (up13 b1) (up13 one)
    exact ⟨Rat.divInt a 1, S2, by simp [e1, e2, hb, e3], Bq_divInt (by decide) b1 one, p2, r1.trans r2⟩
  · have e3 := l_low_ok S2 (a := a) (b := b) hb (up13 b1) (up13 b2)
    have hb2 : (b != 0) = true := by simpa using hb
    exact ⟨_, S2, by simp [e1, e2, hb2, e3], Bq_divInt hb b1 b2, p2, r1.trans r2⟩
end Fx
set_option Elab.async false
set_option linter.all false
set_option maxRecDepth 100000
/-! loops, wider -/
namespace DL
open PySem L2
theorem for_lstG {a : EF} {t : Tg} {b : SF} {ρ : Lc} {S S1 : Sto} {n : Nat} {xs : List D} (P : Nat → Lc → Sto → Prop)
    (ha : a ρ S = .ok (.ob n) S1) (h0 : P 0 ρ S1) (hl : ∀ i ρ S, P i ρ S → S[n]? = some (.lst xs))
    (step : ∀ (i : Nat) (h : i < xs.length) ρ S, P i ρ S → ∃ ρ1 ρ' S', t.put xs[i] ρ S = some ρ1 ∧ b ρ1 S = .nx ρ' S' ∧ P (i + 1) ρ' S') :
    ∃ ρ' S', sFor (iLst a) t b ρ S = .nx ρ' S' ∧ P xs.length ρ' S' := by
  have l1 := hl _ _ _ h0
  have e : sFor (iLst a) t b ρ S = forGo (.lst n) t b xs.length 0 ρ S1 := by
    simp [sFor, iLst, ha, l1, Itd.size]
  rw [e]
  refine for_gen (n := xs.length) P (fun i ρ S hi p => ?_) (fun ρ S p => ?_) _ _ _ _ (by omega) (by omega) h0
  · obtain ⟨ρ1, ρ', S', e0, e1, q⟩ := step i hi ρ S p
    exact ⟨xs[i], ρ1, ρ', S', by simp [Itd.at', hl _ _ _ p, hi], e0, e1, q⟩
  · simp [Itd.at', hl _ _ _ p]
theorem for_rngG {n : Nat} {j : Nat} {a : AF} {b : SF} {ρ : Lc} {S S1 : Sto} (P : Nat → Lc → Sto → Prop) (hn : (n : Int) < 2 ^ 62) (ha : a ρ S = .ok [.int n] S1) (h0 : P 0 ρ S1)
    (step : ∀ (i : Nat) (h : i < n) ρ S, P i ρ S → ∃ ρ' S', b (ρ.set j (some (.int i))) S = .nx ρ' S' ∧ P (i + 1) ρ' S') :
    ∃ ρ' S', sFor (iRng a) (.nm j) b ρ S = .nx ρ' S' ∧ P n ρ' S' := by
  have g : gd (-(2 ^ 62) ≤ (n : Int) ∧ (n : Int) < 2 ^ 62) = true := gd_of ⟨by omega, hn⟩
  have e : sFor (iRng a) (.nm j) b ρ S = forGo (.rng 0 n) (.nm j) b n 0 ρ S1 := by
    unfold sFor iRng
    simp only [ha, bind_ok, g, if_true, sb_ok, Int.toNat_natCast, Itd.size]
  rw [e]
  refine for_gen (n := n) P (fun i ρ S hi p => ?_) (fun ρ S p => ?_) _ _ _ _ (by omega) (by omega) h0
  · obtain ⟨ρ', S', e1, q⟩ := step i hi ρ S p
    exact ⟨.int i, ρ.set j (some (.int i)), ρ', S', by simp [Itd.at', hi], by simp, e1, q⟩
  · simp [Itd.at']
end DL
namespace Fx
open PySem L2 DL
theorem same_fq {S : Sto} {D : Nat} {q : Rat} (h : 1 < D) : ∃ e, R_l_same D [fq q, fq q] S = .ok (.bl true) (S ++ e) :=
  same_ok D (d := 1) (.tup rfl (by simp) (fun i h1 h2 => match i, h1 with | 0, _ => .int _ | 1, _ => .int _)) h
end Fx
set_option Elab.async false
set_option linter.all false
set_option maxRecDepth 100000
/-! quotients, equality of fractions, lists of pairs -/
namespace DL
open PySem L2
@[simp] theorem ixN_30 : ixN 3 0 = some 0 := rfl
theorem oEqG_tup2 (n : Bool) (a b c d : Int) (S : Sto) : oEqG n (.tup [.int a, .int b]) (.tup [.int c, .int d]) S = .ok (.bl (decide (a = c ∧ b = d) != n)) S := by
  have h : ∀ x y : Int, SeqAt.shaped (.tuple [.int x, .int y]) = true := fun x y => by
    simp [SeqAt.shaped, PyData.canLay0, PyData.depth, PyData.canLayAll0, PyData.depthAll]
  have e : PyData.eqv (.tuple [.int a, .int b]) (.tuple [.int c, .int d]) = decide (a = c ∧ b = d) := by
    simp [PyData.eqv, PyData.eqvAll]
    rfl
  simp [oEqG, pyOf, pyOf.pyAll, h, e]
theorem put_ls {ts : List Tg} {ds : List D} {n : Nat} {ρ : Lc} {S : Sto} (h : S[n]? = some (.lst ds)) : Tg.put (.ls ts) (.ob n) ρ S = Tg.puts ts ds ρ S := by
  simp only [Tg.put, h]
theorem eApp_ok {a b : EF} {ρ : Lc} {S S1 S2 : Sto} {n : Nat} {xs ys : List D} {d : D} (h1 : a ρ S = .ok (.ob n) S1) (h2 : S1[n]? = some (.lst ys)) (h3 : b ρ S1 = .ok d S2) (h4 : S2[n]? = some (.lst xs)) (h5 : xs.length ≤ 1000000) : eApp a b ρ S = .ok .non (S2.set n (.lst (xs ++ [d]))) := by
  have g : szOk xs.length = true := by simpa using h5
  simp only [eApp, h1, bind_ok, h2, h3, h4, g, if_true]
@[simp] theorem sExpr_eq (a : EF) (ρ : Lc) (S : Sto) : sExpr a ρ S = (a ρ S).sb ρ fun _ S1 => .nx ρ S1 := rfl
theorem eRev_ob {a : EF} {ρ : Lc} {S S1 : Sto} {n : Nat} {xs : List D} (h1 : a ρ S = .ok (.ob n) S1) (h2 : S1[n]? = some (.lst xs)) : eRev a ρ S = .ok (.ob S1.length) (S1 ++ [.lst xs.reverse]) := by
  simp only [eRev, h1, bind_ok, h2]
theorem eCnt_ob {a b : EF} {ρ : Lc} {S S1 : Sto} {n : Nat} {x y k : Bool} (h1 : a ρ S = .ok (.ob n) S1) (h2 : S1[n]? = some (.lst [.bl x, .bl y])) (h3 : b ρ S1 = .ok (.bl k) S1) : eCnt a b ρ S = .ok (.int ([x, y].count k : Nat)) S1 := by
  simp [eCnt, h1, h2, h3, allBl]
end DL
namespace Fx
open PySem L2 DL
theorem oEq_fq (p q : Rat) (S : Sto) : oEq (fq p) (fq q) S = .ok (.bl (decide (p = q))) S := by
  have h : (p.num = q.num ∧ (p.den : Int) = (q.den : Int)) = (p = q) := propext ⟨fun h => Rat.ext h.1 (by omega), fun h => by rw [h]; exact ⟨rfl, rfl⟩⟩
  simp only [oEq, fq, oEqG_tup2]
  simp [h]
theorem oNe_fq (p q : Rat) (S : Sto) : oNe (fq p) (fq q) S = .ok (.bl (!decide (p = q))) S := by
  have h : (p.num = q.num ∧ (p.den : Int) = (q.den : Int)) = (p = q) := propext ⟨fun h => Rat.ext h.1 (by omega), fun h => by rw [h]; exact ⟨rfl, rfl⟩⟩
  simp only [oNe, fq, oEqG_tup2]
  simp [h]
section
variable {p q r : Rat} {n m : Nat}
theorem div_eq (p q : Rat) : Rat.divInt (p.num * q.den) (p.den * q.num) = p / q := by
  rw [Rat.div_def, Rat.inv_def, ← Rat.divInt_mul_divInt, Rat.divInt_ofNat, Rat.mkRat_self]
theorem num_ne (h : q ≠ 0) : q.num ≠ 0 := fun e => h (Rat.num_eq_zero.mp e)
theorem Bq_div (hp : Bq n p) (hq : Bq m q) (h : q ≠ 0) : Bq (n + m) (p / q) := by
  rw [← div_eq]
  exact Bq_divInt (Int.mul_ne_zero (den_ne p) (num_ne h)) (mul_lt hp.1 (by rw [den_abs]; exact hq.2)) (mul_lt (by rw [den_abs]; exact hp.2) hq.1)
theorem over_ok (hp : Bq n p) (hq : Bq m q) (h : n + m + 1 ≤ 13000) (h0 : q ≠ 0) (S : Sto) : F_over [fq p, fq q] S = .ok (fq (p / q)) S := by
  have e0 : oEq (fq q) (.tup [.int 0, .int 1]) S = .ok (.bl false) S := by
    rw [← fq_zero, oEq_fq, decide_eq_false h0]
  have g1 : mulOk p.num q.den = true := mulOk_of hp.1 (by rw [den_abs]; exact hq.2) (by omega)
  have g2 : mulOk (p.den : Int) q.num = true := mulOk_of (by rw [den_abs]; exact hp.2) hq.1 (by omega)
  have h1 : (p.num * (q.den : Int)).natAbs < 2 ^ (n + m) := mul_lt hp.1 (by rw [den_abs]; exact hq.2)
  have h2 : ((p.den : Int) * q.num).natAbs < 2 ^ (n + m) := mul_lt (by rw [den_abs]; exact hp.2) hq.1
  have e := lowest_ok S (Int.mul_ne_zero (den_ne p) (num_ne h0)) (pow_mono h1 (by omega)) (pow_mono h2 (by omega))
  rw [div_eq] at e
  unfold F_over b_over
  refine run_rt ?_
  rw [seq_nx (ρ' := [some (fq p), some (fq q)]) (S' := S) (by simp [c_over_0, e0])]
  simp [c_over_1, oMul_int, g1, g2, e]
/-- a fraction and a fraction -/
def dup (q : Rat) : D := .tup [fq q, fq q]
end
end Fx
set_option Elab.async false
set_option linter.all false
set_option maxRecDepth 100000
noncomputable section
namespace Lk06
open PySem L2 DL Fx
def c_law_0 : SF :=
  (sAsg (.nm 1) (eCall F_l_pen (aCons (eVar 0) aNil)))
def c_law_1_0 : SF :=
  (sAsg (.nm 3) (eCall F_l_low (aCons (eCall F_l_number (aCons (eVar 1) aNil)) (aCons (eOr (eCall F_l_number (aCons (eVar 1) aNil)) (eC (.int 1))) aNil))))
def c_law_1_1 : SF :=
  (sAsg (.nm 4) (eCall F_l_low (aCons (eCall F_l_number (aCons (eVar 1) aNil)) (aCons (eOr (eCall F_l_number (aCons (eVar 1) aNil)) (eC (.int 1))) aNil))))
def c_law_1_2 : SF :=
  (sPar 5 6 (aCons (eTup (aCons (eC (.int 1)) (aCons (eOp oPow (eC (.int 10)) (eC (.int 40))) aNil))) (aCons (eTup (aCons (eOp oDiv (eOp oIx (eVar 3) (eC (.int 0))) (eOp oIx (eVar 3) (eC (.int 1)))) (aCons (eC (.int 1)) aNil))) aNil)))
def c_law_1_3 : SF :=
  (sAsg (.nm 7) (eLst (aCons (eVar 3) (aCons (eVar 4) (aCons (eCall F_l_add (aCons (eVar 3) (aCons (eVar 5) aNil))) (aCons (eCall F_l_sub (aCons (eVar 3) (aCons (eVar 5) aNil))) (aCons (eCall F_l_add (aCons (eVar 3) (aCons (eTup (aCons (eC (.int 1)) (aCons (eC (.int 1)) aNil))) aNil))) (aCons (eCall F_l_sub (aCons (eVar 3) (aCons (eTup (aCons (eC (.int 1)) (aCons (eC (.int 1)) aNil))) aNil))) aNil))))))))
def c_law_1_4 : SF :=
  (sAsg (.nm 7) (eOp oAdd (eVar 7) (eLst (aCons (eVar 6) (aCons (eCall F_l_sub (aCons (eVar 6) (aCons (eVar 5) aNil))) (aCons (eCall F_l_add (aCons (eVar 6) (aCons (eVar 5) aNil))) (aCons (eTup (aCons (eOp oSub (eC (.int 0)) (eOp oIx (eVar 3) (eC (.int 0)))) (aCons (eOp oIx (eVar 3) (eC (.int 1))) aNil))) (aCons (eTup (aCons (eC (.int 0)) (aCons (eC (.int 1)) aNil))) (aCons (eVar 3) aNil)))))))))
def c_law_1_5 : SF :=
  (sAsg (.nm 7) (eLc (iLst (eVar 7)) (.nm 8) cYes (eCall F_fraction (aCons (eOp oIx (eVar 8) (eC (.int 0))) (aCons (eOp oIx (eVar 8) (eC (.int 1))) aNil))) [8]))
def c_law_1_6_0 : SF :=
  (sIf (bNot (tTru (eCall F_l_same (aCons (eCall F_floor_of (aCons (eVar 9) aNil)) (aCons (eOp oDiv (eOp oIx (eVar 9) (eC (.int 0))) (eOp oIx (eVar 9) (eC (.int 1)))) aNil)))))
    (sRet (eC (.bl false)))
    sNil)
def c_law_1_6_1_0 : SF :=
  (sAsg (.nm 11) (eLst (aCons (eCall F_l_less (aCons (eVar 9) (aCons (eVar 10) aNil))) (aCons (eCall F_l_less (aCons (eVar 10) (aCons (eVar 9) aNil))) aNil))))
def c_law_1_6_1_1 : SF :=
  (sIf (bNot (tTru (eCall F_l_same (aCons (eLst (aCons (eCall F_is_less (aCons (eVar 9) (aCons (eVar 10) aNil))) (aCons (eCall F_is_less (aCons (eVar 10) (aCons (eVar 9) aNil))) aNil))) (aCons (eVar 11) aNil)))))
    (sRet (eC (.bl false)))
    sNil)
def c_law_1_6_1 : SF :=
  (sFor (iLst (eOp oAdd (eSl (eVar 7) pNo (pAt (eC (.int 4)))) (eLst (aCons (eVar 9) aNil)))) (.nm 10)
    (sSeq c_law_1_6_1_0
    c_law_1_6_1_1))
def c_law_1_6 : SF :=
  (sFor (iLst (eVar 7)) (.nm 9)
    (sSeq c_law_1_6_0
    c_law_1_6_1))
def c_law_1 : SF :=
  (sFor (iRng (aCons (eC (.int 3)) aNil)) (.nm 2)
    (sSeq c_law_1_0
    (sSeq c_law_1_1
    (sSeq c_law_1_2
    (sSeq c_law_1_3
    (sSeq c_law_1_4
    (sSeq c_law_1_5
    c_law_1_6)))))))
def c_law_2 : SF :=
  (sRet (eC (.bl true)))
def b_law : SF :=
  (sSeq c_law_0
    (sSeq c_law_1
    c_law_2))
def F_law : FF := runF 12 1 b_law
end Lk06
set_option Elab.async false
set_option linter.all false
set_option maxRecDepth 100000
/-! less and floor: the law's own steps -/
namespace Lk06
open PySem L2 DL Fx
section
variable {S : Sto} {ns : List Int} {k n : Nat} {qs : List Rat} {q r : Rat} {x0 x2 x3 x4 x5 x6 x7 x8 x9 x10 x11 : Option D}
/-- one with another -/
theorem inner (h : Pen S ns k) (hq : Bq 400 q) (hr : Bq 400 r) : ∃ y S', (sSeq c_law_1_6_1_0 c_law_1_6_1_1) [x0, some (.ob 2), x2, x3, x4, x5, x6, x7, x8, some (fq q), some (fq r), x11] S =
    .nx [x0, some (.ob 2), x2, x3, x4, x5, x6, x7, x8, some (fq q), some (fq r), y] S' ∧ Pen S' ns k ∧ Fr S S' := by
  have a1 := fun S => l_less_ok hq hr (by decide) S
  have a2 := fun S => l_less_ok hr hq (by decide) S
  have b1 := fun S => is_less_ok hq hr (by decide) S
  have b2 := fun S => is_less_ok hr hq (by decide) S
  have sm : Sm (S ++ [.lst [.bl (decide (q < r)), .bl (decide (r < q))], .lst [.bl (decide (q < r)), .bl (decide (r < q))]]) 1 (.ob (S.length + 1)) (.ob S.length) :=
    .ob (xs := [.bl (decide (q < r)), .bl (decide (r < q))]) (ys := [.bl (decide (q < r)), .bl (decide (r < q))]) (by simp) (by simp) rfl (by simp) (fun i h1 h2 => match i, h1 with | 0, _ => .bl _ | 1, _ => .bl _)
  obtain ⟨e, e1⟩ := same_ok 12 sm (by decide)
  refine ⟨some (.ob S.length), S ++ [.lst [.bl (decide (q < r)), .bl (decide (r < q))], .lst [.bl (decide (q < r)), .bl (decide (r < q))]] ++ e, ?_, h.app.app, Fr.app.trans Fr.app⟩
  rw [seq_nx (ρ' := [x0, some (.ob 2), x2, x3, x4, x5, x6, x7, x8, some (fq q), some (fq r), some (.ob S.length)]) (S' := S ++ [.lst [.bl (decide (q < r)), .bl (decide (r < q))]]) (by simp [c_law_1_6_1_0, a1, a2])]
  simp only [List.append_assoc, List.cons_append, List.nil_append] at e1
  simp [c_law_1_6_1_1, b1, b2, e1]
/-- one with some -/
theorem outer (h : Pen S ns k) (hn : n ≠ 2) (hl : S[n]? = some (.lst (qs.map fq))) (hs : qs.length ≤ 1000) (hb : ∀ q ∈ qs, Bq 400 q) (hq : Bq 400 q) : ∃ y z S', (sSeq c_law_1_6_0 c_law_1_6_1) [x0, some (.ob 2), x2, x3, x4, x5, x6, some (.ob n), x8, some (fq q), x10, x11] S =
    .nx [x0, some (.ob 2), x2, x3, x4, x5, x6, some (.ob n), x8, some (fq q), y, z] S' ∧ Pen S' ns k ∧ Fr S S' := by
  have a1 := fun S => floor_of_ok hq (by decide) S
  have g : divOk q.num q.den = true := divOk_any (den_ne q) (pow_mono (n := 400) (m := 13000) hq.1 (by decide))
  obtain ⟨e, e1⟩ := same_ok 12 (.int (S := S) (d := 0) q.floor) (by decide)
  have f : q.num.fdiv q.den = q.floor := by rw [Rat.floor_def, Int.fdiv_eq_ediv_of_nonneg _ (Int.natCast_nonneg _)]
  rw [seq_nx (ρ' := [x0, some (.ob 2), x2, x3, x4, x5, x6, some (.ob n), x8, some (fq q), x10, x11]) (S' := S ++ e) (by simp [c_law_1_6_0, a1, oDiv_int _ g, f, e1])]
  have hl2 := at_app (e := e) hl
  have hc : (cutD (qs.map fq) none (some 4)).length + 1 ≤ 1000000 := by
    have := cutD_len (xs := qs.map fq) (l := none) (u := some 4)
    rw [List.length_map] at this
    omega
  have ha : ∀ (T : Sto) (ρ : Lc), T[n]? = some (.lst (qs.map fq)) → ρ = [x0, some (.ob 2), x2, x3, x4, x5, x6, some (.ob n), x8, some (fq q), x10, x11] → (eOp oAdd (eSl (eVar 7) pNo (pAt (eC (.int 4)))) (eLst (aCons (eVar 9) aNil))) ρ T = .ok (.ob (T.length + 2)) (T ++ [.lst (cutD (qs.map fq) none (some 4)), .lst [fq q], .lst ((cutD qs none (some 4) ++ [q]).map fq)]) := by
    rintro T ρ hl2 rfl
    have e3 := oAdd_ob (S := T ++ [.lst (cutD (qs.map fq) none (some 4)), .lst [fq q]]) (n := T.length) (m := T.length + 1) (xs := cutD (qs.map fq) none (some 4)) (ys := [fq q]) (at_k (j := 0)) (at_k (j := 1)) hc
    simp only [List.length_append, List.append_assoc, List.cons_append, List.nil_append, List.length_cons, List.length_nil, Nat.zero_add] at e3
    simp only [cutD_map] at e3
    simp [oSl_ob hl2, e3, cutD_map]
  have main := for_lst (a := eOp oAdd (eSl (eVar 7) pNo (pAt (eC (.int 4)))) (eLst (aCons (eVar 9) aNil))) (j := 10) (b := sSeq c_law_1_6_1_0 c_law_1_6_1_1)
    (xs := (cutD qs none (some 4) ++ [q]).map fq) (fun i ρ S' => ∃ y z, ρ = [x0, some (.ob 2), x2, x3, x4, x5, x6, some (.ob n), x8, some (fq q), y, z] ∧ Pen S' ns k ∧ Fr (S ++ e ++ [.lst (cutD (qs.map fq) none (some 4)), .lst [fq q], .lst ((cutD qs none (some 4) ++ [q]).map fq)]) S')
    (ha _ _ hl2 rfl) ⟨_, _, rfl, (h.app.app), Fr.refl⟩ (by
      rintro i ρ S' ⟨y, z, rfl, p, r⟩
      refine r.2 _ _ ?_ (at_k (j := 2))
      have := h.lt
      simp only [List.length_append]; omega) (by
      rintro i hi ρ S' ⟨y, z, rfl, p, r⟩
      have hm : ∃ r, Bq 400 r ∧ ((cutD qs none (some 4) ++ [q]).map fq)[i] = fq r := by
        rw [List.length_map] at hi
        refine ⟨(cutD qs none (some 4) ++ [q])[i], ?_, by rw [List.getElem_map]⟩
        have := List.getElem_mem hi
        rcases List.mem_append.mp this with h1 | h1
        · exact hb _ (cutD_mem h1)
        · rw [List.mem_singleton.mp h1]; exact hq
      obtain ⟨w, hw, he⟩ := hm
      rw [he]
      obtain ⟨y', S'', e4, p', r'⟩ := inner (x0 := x0) (x2 := x2) (x3 := x3) (x4 := x4) (x5 := x5) (x6 := x6) (x7 := some (.ob n)) (x8 := x8) (x11 := z) p hq hw
      exact ⟨_, S'', e4, _, _, rfl, p', r.trans r'⟩)
  obtain ⟨ρ', S', e5, y, z, rfl, p, r⟩ := main
  exact ⟨y, z, S', e5, p, (Fr.app.trans Fr.app).trans r⟩
/-- all of some -/
theorem loop (h : Pen S ns k) (hn : n ≠ 2) (hl : S[n]? = some (.lst (qs.map fq))) (hs : qs.length ≤ 1000) (hb : ∀ q ∈ qs, Bq 400 q) : ∃ x y z S', c_law_1_6 [x0, some (.ob 2), x2, x3, x4, x5, x6, some (.ob n), x8, x9, x10, x11] S =
    .nx [x0, some (.ob 2), x2, x3, x4, x5, x6, some (.ob n), x8, x, y, z] S' ∧ Pen S' ns k ∧ Fr S S' := by
  have main := for_lst (a := eVar 7) (j := 9) (b := sSeq c_law_1_6_0 c_law_1_6_1) (n := n) (S := S) (S1 := S) (ρ := [x0, some (.ob 2), x2, x3, x4, x5, x6, some (.ob n), x8, x9, x10, x11])
    (xs := qs.map fq) (fun i ρ S' => ∃ x y z, ρ = [x0, some (.ob 2), x2, x3, x4, x5, x6, some (.ob n), x8, x, y, z] ∧ Pen S' ns k ∧ Fr S S')
    (by simp) ⟨_, _, _, rfl, h, Fr.refl⟩ (fun i ρ S' ⟨x, y, z, _, p, r⟩ => r.2 _ _ hn hl) (by
      rintro i hi ρ S' ⟨x, y, z, rfl, p, r⟩
      rw [List.length_map] at hi
      obtain ⟨y', z', S'', e4, p', r'⟩ := outer (q := qs[i]) (x0 := x0) (x2 := x2) (x3 := x3) (x4 := x4) (x5 := x5) (x6 := x6) (x8 := x8) (x10 := y) (x11 := z) p hn (r.2 _ _ hn hl) hs hb (hb _ (List.getElem_mem hi))
      rw [List.getElem_map]
      exact ⟨_, S'', e4, _, _, _, rfl, p', r.trans r'⟩)
  obtain ⟨ρ', S', e5, x, y, z, rfl, p, r⟩ := main
  exact ⟨x, y, z, S', e5, p, r⟩
end
end Lk06
set_option Elab.async false
set_option linter.all false
set_option maxRecDepth 100000
/-! less and floor: the law is true -/
namespace Lk06
open PySem L2 DL Fx
theorem pow40 (S : Sto) : oPow (.int 10) (.int 40) S = .ok (.int 10000000000000000000000000000000000000000) S := oPow_int S (by decide)
section
variable {S : Sto} {ns : List Int} {k n : Nat} {qs : List Rat} {q r : Rat} {x0 x2 x3 x4 x5 x6 x7 x8 x9 x10 x11 : Option D}
theorem s2 (hq : Bq 200 q) : c_law_1_2 [x0, some (.ob 2), x2, some (fq q), x4, x5, x6, x7, x8, x9, x10, x11] S = .nx [x0, some (.ob 2), x2, some (fq q), x4, some (fq tiny), some (fq (Rat.ofInt q.floor)), x7, x8, x9, x10, x11] S := by
  have g : divOk q.num q.den = true := divOk_any (den_ne q) (pow_mono (n := 200) (m := 13000) hq.1 (by decide))
  have f : q.num.fdiv q.den = q.floor := by rw [Rat.floor_def, Int.fdiv_eq_ediv_of_nonneg _ (Int.natCast_nonneg _)]
  rw [fq_tiny, fq_floor]
  simp [c_law_1_2, pow40, oDiv_int _ g, f]
theorem s3 (hq : Bq 200 q) : c_law_1_3 [x0, some (.ob 2), x2, some (fq q), some (fq r), some (fq tiny), x6, x7, x8, x9, x10, x11] S = .nx [x0, some (.ob 2), x2, some (fq q), some (fq r), some (fq tiny), x6, some (.ob S.length), x8, x9, x10, x11] (S ++ [.lst ([q, r, q + tiny, q - tiny, q + 1, q - 1].map fq)]) := by
  have a1 := fun S => l_add_ok hq Bq_tiny (by decide) S
  have a2 := fun S => l_sub_ok hq Bq_tiny (by decide) S
  have a3 := fun S => l_add_ok hq Bq_one (by decide) S
  have a4 := fun S => l_sub_ok hq Bq_one (by decide) S
  rw [fq_one] at a3 a4
  simp [c_law_1_3, a1, a2, a3, a4]
theorem s4 (hq : Bq 200 q) {w : Rat} (hw : Bq 200 w) (h7 : S[n]? = some (.lst (qs.map fq))) (hl : qs.length ≤ 1000) : c_law_1_4 [x0, some (.ob 2), x2, some (fq q), x4, some (fq tiny), some (fq w), some (.ob n), x8, x9, x10, x11] S = .nx [x0, some (.ob 2), x2, some (fq q), x4, some (fq tiny), some (fq w), some (.ob (S.length + 1)), x8, x9, x10, x11] (S ++ [.lst ([w, w - tiny, w + tiny, -q, 0, q].map fq), .lst ((qs ++ [w, w - tiny, w + tiny, -q, 0, q]).map fq)]) := by
  have a1 := fun S => l_add_ok hw Bq_tiny (by decide) S
  have a2 := fun S => l_sub_ok hw Bq_tiny (by decide) S
  have e3 := oAdd_ob (S := S ++ [.lst ([w, w - tiny, w + tiny, -q, 0, q].map fq)]) (at_app h7) (at_end) (by simp; omega)
  simp only [List.map_cons, List.map_nil, fq_neg, fq_zero, Int.zero_sub, List.append_assoc, List.cons_append, List.nil_append, List.length_append, List.length_cons, List.length_nil, Nat.zero_add, List.map_append] at e3 ⊢
  simp [c_law_1_4, a1, a2, e3]
theorem s5 (hb : ∀ q ∈ qs, Bq 400 q) (h7 : S[n]? = some (.lst (qs.map fq))) (hl : qs.length ≤ 1000) : c_law_1_5 [x0, some (.ob 2), x2, x3, x4, x5, x6, some (.ob n), x8, x9, x10, x11] S = .nx [x0, some (.ob 2), x2, x3, x4, x5, x6, some (.ob S.length), x8, x9, x10, x11] (S ++ [.lst (qs.map fq)]) := by
  have main := lc_map (a := eVar 7) (j := 8) (e := eCall F_fraction (aCons (eOp oIx (eVar 8) (eC (.int 0))) (aCons (eOp oIx (eVar 8) (eC (.int 1))) aNil))) (own := [8])
    (ρ := [x0, some (.ob 2), x2, x3, x4, x5, x6, some (.ob n), x8, x9, x10, x11]) (S := S) (qs := qs) fq fq (by simp) h7 (by omega) (by
      intro q hq S2
      have b := hb q hq
      have e := fraction_ok S2 (den_ne q) (pow_mono (n := 400) (m := 13000) b.1 (by decide)) (by rw [den_abs]; exact pow_mono (n := 400) (m := 13000) b.2 (by decide))
      rw [Rat.divInt_ofNat, Rat.mkRat_self] at e
      simp [wipeD, e])
  simp only [c_law_1_5, sAsg_nm, main, sb_ok, List.set]
theorem turn (h : Pen S ns k) (hk : k + 40 ≤ 1000000000000) : ∃ y3 y4 y5 y6 y7 y9 y10 y11 S',
    (sSeq c_law_1_0 (sSeq c_law_1_1 (sSeq c_law_1_2 (sSeq c_law_1_3 (sSeq c_law_1_4 (sSeq c_law_1_5 c_law_1_6)))))) [x0, some (.ob 2), x2, x3, x4, x5, x6, x7, x8, x9, x10, x11] S =
    .nx [x0, some (.ob 2), x2, y3, y4, y5, y6, y7, x8, y9, y10, y11] S' ∧ Pen S' ns (k + 40) := by
  obtain ⟨q, S1, e1, b1, p1, r1⟩ := rat_ok (o0 := x0) (ρ := [x2, x3, x4, x5, x6, x7, x8, x9, x10, x11]) h (by omega)
  obtain ⟨r, S2, e2, b2, p2, r2⟩ := rat_ok (o0 := x0) (ρ := [x2, some (fq q), x4, x5, x6, x7, x8, x9, x10, x11]) p1 (by omega)
  have bf := Bq_floor b1 (by decide)
  have e3 := s3 (S := S2) (r := r) (x0 := x0) (x2 := x2) (x6 := some (fq (Rat.ofInt q.floor))) (x7 := x7) (x8 := x8) (x9 := x9) (x10 := x10) (x11 := x11) b1
  have e4 := s4 (S := S2 ++ [.lst ([q, r, q + tiny, q - tiny, q + 1, q - 1].map fq)]) (x0 := x0) (x2 := x2) (x4 := some (fq r)) (x8 := x8) (x9 := x9) (x10 := x10) (x11 := x11) b1 bf at_end (by simp)
  have l2 := p2.lt
  generalize hqs : [q, r, q + tiny, q - tiny, q + 1, q - 1] ++ [Rat.ofInt q.floor, Rat.ofInt q.floor - tiny, Rat.ofInt q.floor + tiny, -q, 0, q] = qs at e4
  have hl : qs.length ≤ 1000 := by rw [← hqs]; simp
  have hb : ∀ q ∈ qs, Bq 400 q := by
    have b3 := (Bq_add b1 Bq_tiny).mono (m := 400) (by decide)
    have b4 := (Bq_sub b1 Bq_tiny).mono (m := 400) (by decide)
    have b5 := (Bq_add b1 Bq_one).mono (m := 400) (by decide)
    have b6 := (Bq_sub b1 Bq_one).mono (m := 400) (by decide)
    have b7 := (Bq_add bf Bq_tiny).mono (m := 400) (by decide)
    have b8 := (Bq_sub bf Bq_tiny).mono (m := 400) (by decide)
    have b9 := (Bq_neg b1).mono (m := 400) (by decide)
    have b10 := Bq_zero.mono (m := 400) (by decide)
    have b11 := b1.mono (m := 400) (by decide)
    have b12 := b2.mono (m := 400) (by decide)
    have b13 := bf.mono (m := 400) (by decide)
    rw [← hqs]
    simp only [List.cons_append, List.nil_append, List.forall_mem_cons, List.not_mem_nil, false_implies, implies_true, and_true]
    exact ⟨b11, b12, b3, b4, b5, b6, b13, b8, b7, b9, b10, b11⟩
  generalize hT : S2 ++ [.lst ([q, r, q + tiny, q - tiny, q + 1, q - 1].map fq)] = T at e3 e4
  have pT : Pen T ns (k + 40) := by rw [← hT]; exact p2.app
  have lT : 2 < T.length := pT.lt
  have e5 := s5 (S := T ++ [.lst ([Rat.ofInt q.floor, Rat.ofInt q.floor - tiny, Rat.ofInt q.floor + tiny, -q, 0, q].map fq), .lst (qs.map fq)]) (n := T.length + 1) (x0 := x0) (x2 := x2) (x3 := some (fq q)) (x4 := some (fq r)) (x5 := some (fq tiny)) (x6 := some (fq (Rat.ofInt q.floor))) (x8 := x8) (x9 := x9) (x10 := x10) (x11 := x11) hb (at_k (j := 1)) hl
  generalize hU : T ++ [.lst ([Rat.ofInt q.floor, Rat.ofInt q.floor - tiny, Rat.ofInt q.floor + tiny, -q, 0, q].map fq), .lst (qs.map fq)] = U at e4 e5
  have pU : Pen U ns (k + 40) := by rw [← hU]; exact pT.app
  have lU : 2 < U.length := pU.lt
  obtain ⟨x, y, z, S', e6, p', r'⟩ := loop (x0 := x0) (x2 := x2) (x3 := some (fq q)) (x4 := some (fq r)) (x5 := some (fq tiny)) (x6 := some (fq (Rat.ofInt q.floor))) (x8 := x8) (x9 := x9) (x10 := x10) (x11 := x11) (n := U.length) (pU.app (e := [.lst (qs.map fq)])) (by omega) at_end hl hb
  have all := (seq_nx (show c_law_1_0 [x0, some (.ob 2), x2, x3, x4, x5, x6, x7, x8, x9, x10, x11] S = .nx [x0, some (.ob 2), x2, some (fq q), x4, x5, x6, x7, x8, x9, x10, x11] S1 from by simp only [c_law_1_0, sAsg_nm, e1, sb_ok, List.set]) (sSeq c_law_1_1 (sSeq c_law_1_2 (sSeq c_law_1_3 (sSeq c_law_1_4 (sSeq c_law_1_5 c_law_1_6)))))).trans
    ((seq_nx (show c_law_1_1 [x0, some (.ob 2), x2, some (fq q), x4, x5, x6, x7, x8, x9, x10, x11] S1 = .nx [x0, some (.ob 2), x2, some (fq q), some (fq r), x5, x6, x7, x8, x9, x10, x11] S2 from by simp only [c_law_1_1, sAsg_nm, e2, sb_ok, List.set]) _).trans
    ((seq_nx (s2 b1) _).trans ((seq_nx e3 _).trans ((seq_nx e4 _).trans ((seq_nx e5 _).trans e6)))))
  exact ⟨_, _, _, _, _, _, _, _, S', all, p'⟩
end
theorem law_true : ∀ ns : List Int, ns.length ≤ 63 → ∃ S, F_law [.ro ns] [] = .ok (.bl true) S := by
  intro ns _
  obtain ⟨ms, S, e, p, _⟩ := l_pen_ok ns
  have main := for_rng (n := 3) (j := 2) (b := sSeq c_law_1_0 (sSeq c_law_1_1 (sSeq c_law_1_2 (sSeq c_law_1_3 (sSeq c_law_1_4 (sSeq c_law_1_5 c_law_1_6)))))) (S := S)
    (ρ := [some (.ro ns), some (.ob 2), none, none, none, none, none, none, none, none, none, none])
    (fun i ρ S => ∃ x2 x3 x4 x5 x6 x7 x8 x9 x10 x11, ρ = [some (.ro ns), some (.ob 2), x2, x3, x4, x5, x6, x7, x8, x9, x10, x11] ∧ Pen S ms (40 * i)) (by decide)
    ⟨_, _, _, _, _, _, _, _, _, _, rfl, p⟩ (by
      rintro i hi ρ S ⟨x2, x3, x4, x5, x6, x7, x8, x9, x10, x11, rfl, p⟩
      obtain ⟨y3, y4, y5, y6, y7, y9, y10, y11, S', e1, p'⟩ := turn (x0 := some (.ro ns)) (x2 := some (.int i)) (x3 := x3) (x4 := x4) (x5 := x5) (x6 := x6) (x7 := x7) (x8 := x8) (x9 := x9) (x10 := x10) (x11 := x11) p (by omega)
      exact ⟨_, S', e1, _, _, _, _, _, _, _, _, _, _, rfl, p'⟩)
  obtain ⟨ρ', S', e1, _⟩ := main
  refine ⟨S', run_rt ?_⟩
  show b_law [some (.ro ns), none, none, none, none, none, none, none, none, none, none, none] [] = _
  unfold b_law
  rw [seq_nx (ρ' := [some (.ro ns), some (.ob 2), none, none, none, none, none, none, none, none, none, none]) (S' := S) (by simp [c_law_0, e])]
  rw [seq_nx (show c_law_1 _ _ = _ from e1)]
  simp [c_law_2]
end Lk06
set_option Elab.async false
set_option linter.all false
set_option maxRecDepth 100000
namespace Lk06
open PySem PySem.Spec PyProof.Rows L2 DL Fx
def top (i : Nat) : Stmt := PySem.Challenge.pw_beatlanes_k06_less_and_floor.main.body.getD i (.Pass ⟨0, 0, 0, 0⟩)
abbrev s_is_whole : Stmt := top 5
abbrev s_in_lowest_terms : Stmt := top 7
abbrev s_is_less : Stmt := top 8
abbrev s_floor_of : Stmt := top 9
abbrev s_l_pen : Stmt := top 11
abbrev s_l_draw : Stmt := top 12
abbrev s_l_low : Stmt := top 13
abbrev s_l_less : Stmt := top 16
abbrev s_l_same : Stmt := top 17
abbrev s_fraction : Stmt := top 6
abbrev s_l_add : Stmt := top 14
abbrev s_l_sub : Stmt := top 15
abbrev s_l_number : Stmt := top 18
abbrev s_law : Stmt := top 19
structure Txt (K : PySem.W.Frag) (mg : Str → Option Value) : Prop where
  z_abs : mg "abs" = none
  z_all : mg "all" = none
  z_bool : mg "bool" = none
  z_int : mg "int" = none
  z_isinstance : mg "isinstance" = none
  z_len : mg "len" = none
  z_list : mg "list" = none
  z_range : mg "range" = none
  z_str : mg "str" = none
  z_tuple : mg "tuple" = none
  z_zip : mg "zip" = none
  m_gcd : mg "gcd" = some (.builtin "math.gcd")
  a_is_whole : FnAt K mg "is_whole" s_is_whole ["thing"]
  a_in_lowest_terms : FnAt K mg "in_lowest_terms" s_in_lowest_terms ["top", "bottom"]
  a_is_less : FnAt K mg "is_less" s_is_less ["one", "other"]
  a_floor_of : FnAt K mg "floor_of" s_floor_of ["one"]
  a_l_pen : FnAt K mg "_law_pen" s_l_pen ["_law_script"]
  a_l_draw : FnAt K mg "_law_draw" s_l_draw ["_law_pen_here", "_law_many"]
  a_l_low : FnAt K mg "_law_low" s_l_low ["_law_top", "_law_bottom"]
  a_l_less : FnAt K mg "_law_less" s_l_less ["_law_one", "_law_other"]
  a_l_same : FnAt K mg "_law_same" s_l_same ["_law_found", "_law_due"]
  a_fraction : FnAt K mg "fraction" s_fraction ["top", "bottom"]
  a_l_add : FnAt K mg "_law_add" s_l_add ["_law_one", "_law_other"]
  a_l_sub : FnAt K mg "_law_sub" s_l_sub ["_law_one", "_law_other"]
  a_l_number : FnAt K mg "_law_number" s_l_number ["_law_pen_here"]
  a_law : FnAt K mg "law" s_law ["_law_script"]
theorem sc_is_whole : FnScope ["thing"] ["thing"] (defScope s_is_whole) := ⟨rfl, rfl, rfl, by decide +kernel, rfl, by decide +kernel, by decide +kernel⟩
theorem sc_in_lowest_terms : FnScope ["top", "bottom", "shared"] ["top", "bottom"] (defScope s_in_lowest_terms) := ⟨rfl, rfl, rfl, by decide +kernel, rfl, by decide +kernel, by decide +kernel⟩
theorem sc_is_less : FnScope ["one", "other"] ["one", "other"] (defScope s_is_less) := ⟨rfl, rfl, rfl, by decide +kernel, rfl, by decide +kernel, by decide +kernel⟩
theorem sc_floor_of : FnScope ["one"] ["one"] (defScope s_floor_of) := ⟨rfl, rfl, rfl, by decide +kernel, rfl, by decide +kernel, by decide +kernel⟩
theorem sc_l_pen : FnScope ["_law_script"] ["_law_script"] (defScope s_l_pen) := ⟨rfl, rfl, rfl, by decide +kernel, rfl, by decide +kernel, by decide +kernel⟩
theorem sc_l_draw : FnScope ["_law_pen_here", "_law_many", "_law_found", "_law_at", "_law_cell", "_law_number_here"] ["_law_pen_here", "_law_many"] (defScope s_l_draw) := ⟨rfl, rfl, rfl, by decide +kernel, rfl, by decide +kernel, by decide +kernel⟩
theorem sc_l_low : FnScope ["_law_top", "_law_bottom", "_law_one", "_law_other"] ["_law_top", "_law_bottom"] (defScope s_l_low) := ⟨rfl, rfl, rfl, by decide +kernel, rfl, by decide +kernel, by decide +kernel⟩
theorem sc_l_less : FnScope ["_law_one", "_law_other"] ["_law_one", "_law_other"] (defScope s_l_less) := ⟨rfl, rfl, rfl, by decide +kernel, rfl, by decide +kernel, by decide +kernel⟩
theorem sc_l_same : FnScope ["_law_found", "_law_due", "_law_one", "_law_other"] ["_law_found", "_law_due"] (defScope s_l_same) := ⟨rfl, rfl, rfl, by decide +kernel, rfl, by decide +kernel, by decide +kernel⟩
theorem sc_fraction : FnScope ["top", "bottom"] ["top", "bottom"] (defScope s_fraction) := ⟨rfl, rfl, rfl, by decide +kernel, rfl, by decide +kernel, by decide +kernel⟩
theorem sc_l_add : FnScope ["_law_one", "_law_other"] ["_law_one", "_law_other"] (defScope s_l_add) := ⟨rfl, rfl, rfl, by decide +kernel, rfl, by decide +kernel, by decide +kernel⟩
theorem sc_l_sub : FnScope ["_law_one", "_law_other"] ["_law_one", "_law_other"] (defScope s_l_sub) := ⟨rfl, rfl, rfl, by decide +kernel, rfl, by decide +kernel, by decide +kernel⟩
theorem sc_l_number : FnScope ["_law_pen_here", "_law_way", "_law_found", "_law_k"] ["_law_pen_here"] (defScope s_l_number) := ⟨rfl, rfl, rfl, by decide +kernel, rfl, by decide +kernel, by decide +kernel⟩
theorem sc_law : FnScope ["_law_script", "_law_pen_here", "_law_turn", "_law_one", "_law_other", "_law_little", "_law_whole", "_law_some", "_law_here", "_law_first", "_law_second", "_law_due"] ["_law_script"] (defScope s_law) := ⟨rfl, rfl, rfl, by decide +kernel, rfl, by decide +kernel, by decide +kernel⟩
section
variable {P : Program} {w : World} {K : PySem.W.Frag} {mg : Str → Option Value} {base : Heap} (T : Txt K mg)
include T
theorem ok_is_whole : Def P w K mg base "is_whole" ["thing"] 1 1 F_is_whole := by
  exact def_ok (k := 0) T.a_is_whole sc_is_whole fun f cdv A outer s H E hr =>
    (dss_one (ds_ret (de_and (de_isi (pe_callB call_isi (by rfl) T.z_isinstance (by decide +kernel) (pa_cons (de_var (pv 0)) (pa_cons (pe_bltn (v := .ty "int") (by rfl) T.z_int (by decide +kernel) rfl) pa_nil)))) (de_and (de_cmp op_isntAll oIsnt_ok (de_var (pv 0)) de_bl) (de_one (de_cmp op_isntAll oIsnt_ok (de_var (pv 0)) de_bl))))))
theorem ok_in_lowest_terms : Def P w K mg base "in_lowest_terms" ["top", "bottom"] 1 2 F_in_lowest_terms := by
  exact def_ok (k := 0) T.a_in_lowest_terms sc_in_lowest_terms fun f cdv A outer s H E hr =>
    (dss_cons (ds_asg (ps_asg (de_callB (pe_callBfun cr_gcd (by rfl) T.m_gcd (da_cons (pa_cons (de_var (pv 0)) (da_cons (pa_cons (de_var (pv 1)) da_nil))))) cGcd_ok) (dg_nm (pg_name (i := 2) sc_in_lowest_terms.nd rfl (Or.inl rfl)))))
    (dss_cons (ds_if (dt_cmp op_lt oLt_ok oLt_bl (de_var (pv 1)) de_int)
    (dss_one (ds_asg (ps_asg (de_neg (de_var (pv 2))) (dg_nm (pg_name (i := 2) sc_in_lowest_terms.nd rfl (Or.inl rfl))))))
    dss_nil)
    (dss_one (ds_ret (de_tup (pe_tup (da_cons (pa_cons (de_op op_fdivQ oDiv_ok (de_var (pv 0)) (de_var (pv 2))) (da_cons (pa_cons (de_op op_fdivQ oDiv_ok (de_var (pv 1)) (de_var (pv 2))) da_nil))))))))))
theorem ok_is_less : Def P w K mg base "is_less" ["one", "other"] 1 2 F_is_less := by
  exact def_ok (k := 0) T.a_is_less sc_is_less fun f cdv A outer s H E hr =>
    (dss_one (ds_ret (de_cmp op_lt oLt_ok (de_op op_mulAll oMul_ok (de_ix (de_var (pv 0)) de_int) (de_ix (de_var (pv 1)) de_int)) (de_op op_mulAll oMul_ok (de_ix (de_var (pv 1)) de_int) (de_ix (de_var (pv 0)) de_int)))))
theorem ok_floor_of : Def P w K mg base "floor_of" ["one"] 1 1 F_floor_of := by
  exact def_ok (k := 0) T.a_floor_of sc_floor_of fun f cdv A outer s H E hr =>
    (dss_one (ds_ret (de_op op_fdivQ oDiv_ok (de_ix (de_var (pv 0)) de_int) (de_ix (de_var (pv 0)) de_int))))
theorem ok_l_pen : Def P w K mg base "_law_pen" ["_law_script"] 1 1 F_l_pen := by
  exact def_ok (k := 0) T.a_l_pen sc_l_pen fun f cdv A outer s H E hr =>
    (dss_one (ds_ret (de_lst (pe_lst (da_cons (pa_cons (de_callB (pe_callTy call_list_of (by rfl) T.z_list (by decide +kernel) (da_cons (pa_cons (de_ro (de_var (pv 0)) do_no (do_at de_int)) da_nil))) cList_ok) (da_cons (pa_cons de_int (da_cons (pa_cons de_int da_nil))))))))))
theorem ok_l_draw : Def P w K mg base "_law_draw" ["_law_pen_here", "_law_many"] 1 2 F_l_draw := by
  exact def_ok (k := 0) T.a_l_draw sc_l_draw fun f cdv A outer s H E hr =>
    (dss_cons (ds_if (dt_cmp op_gt oGt_ok oGt_bl (de_ix (de_var (pv 0)) de_int) de_int)
    (dss_cons (ds_asg (ps_asg (de_op op_mod oMod_ok (de_ix (de_var (pv 0)) de_int) (de_var (pv 1))) (dg_nm (pg_name (i := 2) sc_l_draw.nd rfl (Or.inl rfl)))))
    (dss_cons (ds_sub (ps_asg (de_op op_fdivQ oDiv_ok (de_ix (de_var (pv 0)) de_int) (de_var (pv 1))) (pg_sub (de_var (pv 0)) de_int set_list)))
    (dss_one (ds_ret (de_var (pv 2))))))
    dss_nil)
    (dss_cons (ds_asg (ps_asg (de_ix (de_var (pv 0)) de_int) (dg_nm (pg_name (i := 3) sc_l_draw.nd rfl (Or.inl rfl)))))
    (dss_cons (ds_sub (ps_asg (de_op op_addAll oAdd_ok (de_var (pv 3)) de_int) (pg_sub (de_var (pv 0)) de_int set_list)))
    (dss_cons (ds_asg (ps_asg de_int (dg_nm (pg_name (i := 4) sc_l_draw.nd rfl (Or.inl rfl)))))
    (dss_cons (ds_if (dt_cmp op_gt oGt_ok oGt_bl (de_callB (pe_callB call_len (by rfl) T.z_len (by decide +kernel) (da_cons (pa_cons (de_ix (de_var (pv 0)) de_int) da_nil))) cLen_ok) de_int)
    (dss_one (ds_asg (ps_asg (de_ix (de_ix (de_var (pv 0)) de_int) (de_op op_mod oMod_ok (de_var (pv 3)) (de_callB (pe_callB call_len (by rfl) T.z_len (by decide +kernel) (da_cons (pa_cons (de_ix (de_var (pv 0)) de_int) da_nil))) cLen_ok))) (dg_nm (pg_name (i := 4) sc_l_draw.nd rfl (Or.inl rfl))))))
    dss_nil)
    (dss_cons (ds_if (dt_w (dw_and (dt_cmp op_lt oLt_ok oLt_bl (de_var (pv 3)) (de_callB (pe_callB call_len (by rfl) T.z_len (by decide +kernel) (da_cons (pa_cons (de_ix (de_var (pv 0)) de_int) da_nil))) cLen_ok)) (dw_and1 (dt_cmp op_ge oGe_ok oGe_bl (de_var (pv 4)) (de_op op_pow oPow_ok de_int de_int)))))
    (dss_cons (ds_sub (ps_asg (de_op op_fdivQ oDiv_ok (de_var (pv 4)) (de_var (pv 1))) (pg_sub (de_var (pv 0)) de_int set_list)))
    (dss_one (ds_ret (de_op op_mod oMod_ok (de_var (pv 4)) (de_var (pv 1))))))
    dss_nil)
    (dss_cons (ds_asg (ps_asg (de_op op_mod oMod_ok (de_op op_mulAll oMul_ok (de_op op_addAll oAdd_ok (de_op op_mod oMod_ok (de_var (pv 4)) de_int) de_int) (de_op op_addAll oAdd_ok (de_op op_addAll oAdd_ok (de_op op_mulAll oMul_ok (de_var (pv 3)) (de_var (pv 3))) (de_op op_mulAll oMul_ok de_int (de_var (pv 3)))) de_int)) de_int) (dg_nm (pg_name (i := 5) sc_l_draw.nd rfl (Or.inl rfl)))))
    (dss_cons (ds_asg (ps_asg (de_op op_mod oMod_ok (de_op op_mulAll oMul_ok (de_op op_mod oMod_ok (de_op op_addAll oAdd_ok (de_op op_pow oPow_ok (de_var (pv 5)) de_int) (de_op op_mulAll oMul_ok de_int (de_var (pv 3)))) de_int) de_int) de_int) (dg_nm (pg_name (i := 5) sc_l_draw.nd rfl (Or.inl rfl)))))
    (dss_cons (ds_if (dt_cmp op_gt oGt_ok oGt_bl (de_var (pv 1)) (de_op op_pow oPow_ok de_int de_int))
    (dss_one (ds_asg (ps_asg (de_op op_addAll oAdd_ok (de_op op_mulAll oMul_ok (de_var (pv 5)) de_int) (de_op op_mod oMod_ok (de_op op_mulAll oMul_ok (de_op op_mod oMod_ok (de_var (pv 5)) de_int) de_int) de_int)) (dg_nm (pg_name (i := 5) sc_l_draw.nd rfl (Or.inl rfl))))))
    dss_nil)
    (dss_one (ds_ret (de_op op_mod oMod_ok (de_op op_fdivQ oDiv_ok (de_var (pv 5)) de_int) (de_var (pv 1))))))))))))))
theorem ok_l_low : Def P w K mg base "_law_low" ["_law_top", "_law_bottom"] 1 2 F_l_low := by
  exact def_ok (k := 0) T.a_l_low sc_l_low fun f cdv A outer s H E hr =>
    (dss_cons (ds_par (ps_par (i := 2) (j := 3) rfl sc_l_low.nd rfl rfl (by decide) rfl rfl (da_cons (pa_cons (de_callB (pe_callB call_abs (by rfl) T.z_abs (by decide +kernel) (da_cons (pa_cons (de_var (pv 0)) da_nil))) cAbs_ok) (da_cons (pa_cons (de_callB (pe_callB call_abs (by rfl) T.z_abs (by decide +kernel) (da_cons (pa_cons (de_var (pv 1)) da_nil))) cAbs_ok) da_nil)))) (by rfl)))
    (dss_cons (ds_while (fuel := fu_l_low_0) (ps_while PassesOwn.never (dt_cmp op_gt oGt_ok oGt_bl (de_var (pv 3)) de_int)
    (dss_one (ds_par (ps_par (i := 2) (j := 3) rfl sc_l_low.nd rfl rfl (by decide) rfl rfl (da_cons (pa_cons (de_var (pv 3)) (da_cons (pa_cons (de_op op_mod oMod_ok (de_var (pv 2)) (de_var (pv 3))) da_nil)))) (by rfl))))))
    (dss_cons (ds_if (dt_cmp op_lt oLt_ok oLt_bl (de_var (pv 1)) de_int)
    (dss_one (ds_par (ps_par (i := 0) (j := 1) rfl sc_l_low.nd rfl rfl (by decide) rfl rfl (da_cons (pa_cons (de_op op_sub oSub_ok de_int (de_var (pv 0))) (da_cons (pa_cons (de_op op_sub oSub_ok de_int (de_var (pv 1))) da_nil)))) (by rfl))))
    dss_nil)
    (dss_one (ds_ret (de_tup (pe_tup (da_cons (pa_cons (de_op op_fdivQ oDiv_ok (de_var (pv 0)) (de_var (pv 2))) (da_cons (pa_cons (de_op op_fdivQ oDiv_ok (de_var (pv 1)) (de_var (pv 2))) da_nil)))))))))))
theorem ok_l_less : Def P w K mg base "_law_less" ["_law_one", "_law_other"] 1 2 F_l_less := by
  exact def_ok (k := 0) T.a_l_less sc_l_less fun f cdv A outer s H E hr =>
    (dss_one (ds_ret (de_cmp op_lt oLt_ok (de_op op_mulAll oMul_ok (de_ix (de_var (pv 0)) de_int) (de_ix (de_var (pv 1)) de_int)) (de_op op_mulAll oMul_ok (de_ix (de_var (pv 1)) de_int) (de_ix (de_var (pv 0)) de_int)))))
theorem rec_l_same : ∀ d : Nat, Def P w K mg base "_law_same" ["_law_found", "_law_due"] (1 + d) 2 (R_l_same d)
  | 0 => def_no T.a_l_same rfl
  | d + 1 => by
    have d_l_same := rec_l_same d
    exact def_ok (k := 1 + d) T.a_l_same sc_l_same fun f cdv A outer s H E hr =>
    (dss_cons (ds_if (dt_val (de_isi2 (pe_callB call_isiT (by rfl) T.z_isinstance (by decide +kernel) (pa_cons (de_var (pv 1)) (pa_cons (pe_tup (pa_cons (pe_bltn (v := .ty "tuple") (by rfl) T.z_tuple (by decide +kernel) rfl) (pa_cons (pe_bltn (v := .ty "list") (by rfl) T.z_list (by decide +kernel) rfl) pa_nil))) pa_nil)))))
    (dss_cons (ds_if (dt_w (dw_or (dt_not (dt_val (de_isi2 (pe_callB call_isiT (by rfl) T.z_isinstance (by decide +kernel) (pa_cons (de_var (pv 0)) (pa_cons (pe_tup (pa_cons (pe_bltn (v := .ty "tuple") (by rfl) T.z_tuple (by decide +kernel) rfl) (pa_cons (pe_bltn (v := .ty "list") (by rfl) T.z_list (by decide +kernel) rfl) pa_nil))) pa_nil)))))) (dw_or1 (dt_cmp (op_neD hr.units) oNe_ok oEqG_bl (de_isi (pe_callB call_isi (by rfl) T.z_isinstance (by decide +kernel) (pa_cons (de_var (pv 0)) (pa_cons (pe_bltn (v := .ty "list") (by rfl) T.z_list (by decide +kernel) rfl) pa_nil)))) (de_isi (pe_callB call_isi (by rfl) T.z_isinstance (by decide +kernel) (pa_cons (de_var (pv 1)) (pa_cons (pe_bltn (v := .ty "list") (by rfl) T.z_list (by decide +kernel) rfl) pa_nil))))))))
    (dss_one (ds_ret de_bl))
    dss_nil)
    (dss_cons (ds_if (dt_cmp (op_neD hr.units) oNe_ok oEqG_bl (de_callB (pe_callB call_len (by rfl) T.z_len (by decide +kernel) (da_cons (pa_cons (de_var (pv 0)) da_nil))) cLen_ok) (de_callB (pe_callB call_len (by rfl) T.z_len (by decide +kernel) (da_cons (pa_cons (de_var (pv 1)) da_nil))) cLen_ok))
    (dss_one (ds_ret de_bl))
    dss_nil)
    (dss_one (ds_ret (de_callB (pe_callB (cr_all rfl) (by rfl) T.z_all (by decide +kernel) (da_cons (pa_cons (de_lc (own' := [("_law_one", 2), ("_law_other", 3)]) (pe_lc (own := [("_law_one", 2), ("_law_other", 3)]) rfl sc_l_same.nd (di_zip (RZ.pi_zipA (by rfl) T.z_zip (da_cons (pa_cons (de_var (pv 0)) (da_cons (pa_cons (de_var (pv 1)) da_nil)))))) (blkOk_by (N := ["_law_found", "_law_due", "_law_one", "_law_other"]) (sc := defScope s_l_same) (by decide +kernel)) (fun _ _ _ _ _ => (dg_tp (ts := [(.nm 2), (.nm 3)]) (pg_tup rfl (dgs_cons (pgs_cons (dg_nm (pg_name (i := 2) sc_l_same.nd rfl (Or.inl rfl))) (dgs_cons (pgs_cons (dg_nm (pg_name (i := 3) sc_l_same.nd rfl (Or.inl rfl))) dgs_nil))))))) (fun _ _ _ _ _ => dts_nil) (fun _ _ _ _ _ => (de_callD d_l_same hr (by omega) (by rfl) (da_cons (pa_cons (de_var (pv 2)) (da_cons (pa_cons (de_var (pv 3)) da_nil)))) (aLen_cons (aLen_cons aLen_nil))))) (by decide)) da_nil))) cAll_ok)))))
    dss_nil)
    (dss_cons (ds_if (dt_w (dw_or (dt_cmp op_isAll oIs_ok oIsG_bl (de_var (pv 1)) de_non) (dw_or1 (dt_cmp op_isAll oIs_ok oIsG_bl (de_var (pv 0)) de_non))))
    (dss_one (ds_ret (de_and (de_cmp op_isAll oIs_ok (de_var (pv 0)) de_non) (de_one (de_cmp op_isAll oIs_ok (de_var (pv 1)) de_non)))))
    dss_nil)
    (dss_cons (ds_if (dt_w (dw_or (dt_cmp (op_neD hr.units) oNe_ok oEqG_bl (de_isi (pe_callB call_isi (by rfl) T.z_isinstance (by decide +kernel) (pa_cons (de_var (pv 0)) (pa_cons (pe_bltn (v := .ty "bool") (by rfl) T.z_bool (by decide +kernel) rfl) pa_nil)))) (de_isi (pe_callB call_isi (by rfl) T.z_isinstance (by decide +kernel) (pa_cons (de_var (pv 1)) (pa_cons (pe_bltn (v := .ty "bool") (by rfl) T.z_bool (by decide +kernel) rfl) pa_nil))))) (dw_or1 (dt_cmp (op_neD hr.units) oNe_ok oEqG_bl (de_isi (pe_callB call_isi (by rfl) T.z_isinstance (by decide +kernel) (pa_cons (de_var (pv 0)) (pa_cons (pe_bltn (v := .ty "str") (by rfl) T.z_str (by decide +kernel) rfl) pa_nil)))) (de_isi (pe_callB call_isi (by rfl) T.z_isinstance (by decide +kernel) (pa_cons (de_var (pv 1)) (pa_cons (pe_bltn (v := .ty "str") (by rfl) T.z_str (by decide +kernel) rfl) pa_nil))))))))
    (dss_one (ds_ret de_bl))
    dss_nil)
    (dss_cons (ds_if (dt_cmp (op_neD hr.units) oNe_ok oEqG_bl (de_isi (pe_callB call_isi (by rfl) T.z_isinstance (by decide +kernel) (pa_cons (de_var (pv 0)) (pa_cons (pe_bltn (v := .ty "int") (by rfl) T.z_int (by decide +kernel) rfl) pa_nil)))) (de_isi (pe_callB call_isi (by rfl) T.z_isinstance (by decide +kernel) (pa_cons (de_var (pv 1)) (pa_cons (pe_bltn (v := .ty "int") (by rfl) T.z_int (by decide +kernel) rfl) pa_nil)))))
    (dss_one (ds_ret de_bl))
    dss_nil)
    (dss_one (ds_ret (de_cmp (op_eqD hr.units) oEq_ok (de_var (pv 0)) (de_var (pv 1)))))))))
theorem ok_l_same : Def P w K mg base "_law_same" ["_law_found", "_law_due"] 13 2 F_l_same := rec_l_same T 12
theorem ok_fraction : Def P w K mg base "fraction" ["top", "bottom"] 2 2 F_fraction := by
  have d_is_whole := ok_is_whole T (P := P) (w := w) (base := base)
  have d_in_lowest_terms := ok_in_lowest_terms T (P := P) (w := w) (base := base)
  exact def_ok (k := 1) T.a_fraction sc_fraction fun f cdv A outer s H E hr =>
    (dss_cons (ds_if (dt_w (dw_or (dt_not (dt_val (de_callD d_is_whole hr (by decide) (by rfl) (da_cons (pa_cons (de_var (pv 0)) da_nil)) (aLen_cons aLen_nil)))) (dw_or1 (dt_not (dt_val (de_callD d_is_whole hr (by decide) (by rfl) (da_cons (pa_cons (de_var (pv 1)) da_nil)) (aLen_cons aLen_nil)))))))
    (dss_one ds_no)
    dss_nil)
    (dss_cons (ds_if (dt_cmp (op_eqD hr.units) oEq_ok oEqG_bl (de_var (pv 1)) de_int)
    (dss_one ds_no)
    dss_nil)
    (dss_one (ds_ret (de_callD d_in_lowest_terms hr (by decide) (by rfl) (da_cons (pa_cons (de_var (pv 0)) (da_cons (pa_cons (de_var (pv 1)) da_nil)))) (aLen_cons (aLen_cons aLen_nil)))))))
theorem ok_l_add : Def P w K mg base "_law_add" ["_law_one", "_law_other"] 2 2 F_l_add := by
  have d_l_low := ok_l_low T (P := P) (w := w) (base := base)
  exact def_ok (k := 1) T.a_l_add sc_l_add fun f cdv A outer s H E hr =>
    (dss_one (ds_ret (de_callD d_l_low hr (by decide) (by rfl) (da_cons (pa_cons (de_op op_addAll oAdd_ok (de_op op_mulAll oMul_ok (de_ix (de_var (pv 0)) de_int) (de_ix (de_var (pv 1)) de_int)) (de_op op_mulAll oMul_ok (de_ix (de_var (pv 1)) de_int) (de_ix (de_var (pv 0)) de_int))) (da_cons (pa_cons (de_op op_mulAll oMul_ok (de_ix (de_var (pv 0)) de_int) (de_ix (de_var (pv 1)) de_int)) da_nil)))) (aLen_cons (aLen_cons aLen_nil)))))
theorem ok_l_sub : Def P w K mg base "_law_sub" ["_law_one", "_law_other"] 2 2 F_l_sub := by
  have d_l_low := ok_l_low T (P := P) (w := w) (base := base)
  exact def_ok (k := 1) T.a_l_sub sc_l_sub fun f cdv A outer s H E hr =>
    (dss_one (ds_ret (de_callD d_l_low hr (by decide) (by rfl) (da_cons (pa_cons (de_op op_sub oSub_ok (de_op op_mulAll oMul_ok (de_ix (de_var (pv 0)) de_int) (de_ix (de_var (pv 1)) de_int)) (de_op op_mulAll oMul_ok (de_ix (de_var (pv 1)) de_int) (de_ix (de_var (pv 0)) de_int))) (da_cons (pa_cons (de_op op_mulAll oMul_ok (de_ix (de_var (pv 0)) de_int) (de_ix (de_var (pv 1)) de_int)) da_nil)))) (aLen_cons (aLen_cons aLen_nil)))))
theorem ok_l_number : Def P w K mg base "_law_number" ["_law_pen_here"] 2 1 F_l_number := by
  have d_l_draw := ok_l_draw T (P := P) (w := w) (base := base)
  exact def_ok (k := 1) T.a_l_number sc_l_number fun f cdv A outer s H E hr =>
    (dss_cons (ds_par (ps_par (i := 1) (j := 2) rfl sc_l_number.nd rfl rfl (by decide) rfl rfl (da_cons (pa_cons (de_callD d_l_draw hr (by decide) (by rfl) (da_cons (pa_cons (de_var (pv 0)) (da_cons (pa_cons de_int da_nil)))) (aLen_cons (aLen_cons aLen_nil))) (da_cons (pa_cons (de_callD d_l_draw hr (by decide) (by rfl) (da_cons (pa_cons (de_var (pv 0)) (da_cons (pa_cons de_int da_nil)))) (aLen_cons (aLen_cons aLen_nil))) da_nil)))) (by rfl)))
    (dss_cons (ds_if (dt_cmp (op_eqD hr.units) oEq_ok oEqG_bl (de_var (pv 1)) de_int)
    (dss_one (ds_asg (ps_asg (de_callD d_l_draw hr (by decide) (by rfl) (da_cons (pa_cons (de_var (pv 0)) (da_cons (pa_cons (de_op op_pow oPow_ok de_int de_int) da_nil)))) (aLen_cons (aLen_cons aLen_nil))) (dg_nm (pg_name (i := 2) sc_l_number.nd rfl (Or.inl rfl))))))
    dss_nil)
    (dss_cons (ds_if (dt_cmp (op_eqD hr.units) oEq_ok oEqG_bl (de_var (pv 1)) de_int)
    (dss_one (ds_asg (ps_asg (de_op op_sub oSub_ok (de_op op_sub oSub_ok (de_op op_pow oPow_ok de_int de_int) de_int) (de_callD d_l_draw hr (by decide) (by rfl) (da_cons (pa_cons (de_var (pv 0)) (da_cons (pa_cons de_int da_nil)))) (aLen_cons (aLen_cons aLen_nil)))) (dg_nm (pg_name (i := 2) sc_l_number.nd rfl (Or.inl rfl))))))
    dss_nil)
    (dss_cons (ds_if (dt_cmp (op_eqD hr.units) oEq_ok oEqG_bl (de_var (pv 1)) de_int)
    (dss_one (ds_for (ps_for PassesOwn.never rfl (di_rng1 (pi_range1 (by rfl) T.z_range (da_cons (pa_cons de_int da_nil))) (aLen_cons aLen_nil)) (dg_nm (pg_name (i := 3) sc_l_number.nd rfl (Or.inl rfl)))
    (dss_one (ds_asg (ps_asg (de_op op_addAll oAdd_ok (de_op op_mulAll oMul_ok (de_op op_mod oMod_ok (de_var (pv 2)) (de_op op_pow oPow_ok de_int de_int)) (de_op op_pow oPow_ok de_int de_int)) (de_callD d_l_draw hr (by decide) (by rfl) (da_cons (pa_cons (de_var (pv 0)) (da_cons (pa_cons (de_op op_pow oPow_ok de_int de_int) da_nil)))) (aLen_cons (aLen_cons aLen_nil)))) (dg_nm (pg_name (i := 2) sc_l_number.nd rfl (Or.inl rfl)))))))))
    dss_nil)
    (dss_one (ds_ret (de_op op_mulAll oMul_ok (de_var (pv 2)) (de_ix (de_lst (pe_lst (da_cons (pa_cons de_int (da_cons (pa_cons (de_neg de_int) da_nil)))))) (de_callD d_l_draw hr (by decide) (by rfl) (da_cons (pa_cons (de_var (pv 0)) (da_cons (pa_cons de_int da_nil)))) (aLen_cons (aLen_cons aLen_nil)))))))))))
theorem ok_law {a : Addr} {fd : FuncData} (A : Fun K "law" "law" s_law a fd) : FnOk P w K mg base CX0 14 a fd ["_law_script"] (spF K 1 F_law) := by
  have d_is_less := ok_is_less T (P := P) (w := w) (base := base)
  have d_floor_of := ok_floor_of T (P := P) (w := w) (base := base)
  have d_l_pen := ok_l_pen T (P := P) (w := w) (base := base)
  have d_l_low := ok_l_low T (P := P) (w := w) (base := base)
  have d_l_less := ok_l_less T (P := P) (w := w) (base := base)
  have d_l_same := ok_l_same T (P := P) (w := w) (base := base)
  have d_fraction := ok_fraction T (P := P) (w := w) (base := base)
  have d_l_add := ok_l_add T (P := P) (w := w) (base := base)
  have d_l_sub := ok_l_sub T (P := P) (w := w) (base := base)
  have d_l_number := ok_l_number T (P := P) (w := w) (base := base)
  exact fn_ok (k := 13) A sc_law fun cdv A outer s H E hr =>
    (dss_cons (ds_asg (ps_asg (de_callD d_l_pen hr (by decide) (by rfl) (da_cons (pa_cons (de_var (pv 0)) da_nil)) (aLen_cons aLen_nil)) (dg_nm (pg_name (i := 1) sc_law.nd rfl (Or.inl rfl)))))
    (dss_cons (ds_for (ps_for PassesOwn.never rfl (di_rng1 (pi_range1 (by rfl) T.z_range (da_cons (pa_cons de_int da_nil))) (aLen_cons aLen_nil)) (dg_nm (pg_name (i := 2) sc_law.nd rfl (Or.inl rfl)))
    (dss_cons (ds_asg (ps_asg (de_callD d_l_low hr (by decide) (by rfl) (da_cons (pa_cons (de_callD d_l_number hr (by decide) (by rfl) (da_cons (pa_cons (de_var (pv 1)) da_nil)) (aLen_cons aLen_nil)) (da_cons (pa_cons (de_or (de_callD d_l_number hr (by decide) (by rfl) (da_cons (pa_cons (de_var (pv 1)) da_nil)) (aLen_cons aLen_nil)) (de_one de_int)) da_nil)))) (aLen_cons (aLen_cons aLen_nil))) (dg_nm (pg_name (i := 3) sc_law.nd rfl (Or.inl rfl)))))
    (dss_cons (ds_asg (ps_asg (de_callD d_l_low hr (by decide) (by rfl) (da_cons (pa_cons (de_callD d_l_number hr (by decide) (by rfl) (da_cons (pa_cons (de_var (pv 1)) da_nil)) (aLen_cons aLen_nil)) (da_cons (pa_cons (de_or (de_callD d_l_number hr (by decide) (by rfl) (da_cons (pa_cons (de_var (pv 1)) da_nil)) (aLen_cons aLen_nil)) (de_one de_int)) da_nil)))) (aLen_cons (aLen_cons aLen_nil))) (dg_nm (pg_name (i := 4) sc_law.nd rfl (Or.inl rfl)))))
    (dss_cons (ds_par (ps_par (i := 5) (j := 6) rfl sc_law.nd rfl rfl (by decide) rfl rfl (da_cons (pa_cons (de_tup (pe_tup (da_cons (pa_cons de_int (da_cons (pa_cons (de_op op_pow oPow_ok de_int de_int) da_nil)))))) (da_cons (pa_cons (de_tup (pe_tup (da_cons (pa_cons (de_op op_fdivQ oDiv_ok (de_ix (de_var (pv 3)) de_int) (de_ix (de_var (pv 3)) de_int)) (da_cons (pa_cons de_int da_nil)))))) da_nil)))) (by rfl)))
    (dss_cons (ds_asg (ps_asg (de_lst (pe_lst (da_cons (pa_cons (de_var (pv 3)) (da_cons (pa_cons (de_var (pv 4)) (da_cons (pa_cons (de_callD d_l_add hr (by decide) (by rfl) (da_cons (pa_cons (de_var (pv 3)) (da_cons (pa_cons (de_var (pv 5)) da_nil)))) (aLen_cons (aLen_cons aLen_nil))) (da_cons (pa_cons (de_callD d_l_sub hr (by decide) (by rfl) (da_cons (pa_cons (de_var (pv 3)) (da_cons (pa_cons (de_var (pv 5)) da_nil)))) (aLen_cons (aLen_cons aLen_nil))) (da_cons (pa_cons (de_callD d_l_add hr (by decide) (by rfl) (da_cons (pa_cons (de_var (pv 3)) (da_cons (pa_cons (de_tup (pe_tup (da_cons (pa_cons de_int (da_cons (pa_cons de_int da_nil)))))) da_nil)))) (aLen_cons (aLen_cons aLen_nil))) (da_cons (pa_cons (de_callD d_l_sub hr (by decide) (by rfl) (da_cons (pa_cons (de_var (pv 3)) (da_cons (pa_cons (de_tup (pe_tup (da_cons (pa_cons de_int (da_cons (pa_cons de_int da_nil)))))) da_nil)))) (aLen_cons (aLen_cons aLen_nil))) da_nil)))))))))))))) (dg_nm (pg_name (i := 7) sc_law.nd rfl (Or.inl rfl)))))
    (dss_cons (ds_asg (ps_asg (de_op op_addAll oAdd_ok (de_var (pv 7)) (de_lst (pe_lst (da_cons (pa_cons (de_var (pv 6)) (da_cons (pa_cons (de_callD d_l_sub hr (by decide) (by rfl) (da_cons (pa_cons (de_var (pv 6)) (da_cons (pa_cons (de_var (pv 5)) da_nil)))) (aLen_cons (aLen_cons aLen_nil))) (da_cons (pa_cons (de_callD d_l_add hr (by decide) (by rfl) (da_cons (pa_cons (de_var (pv 6)) (da_cons (pa_cons (de_var (pv 5)) da_nil)))) (aLen_cons (aLen_cons aLen_nil))) (da_cons (pa_cons (de_tup (pe_tup (da_cons (pa_cons (de_op op_sub oSub_ok de_int (de_ix (de_var (pv 3)) de_int)) (da_cons (pa_cons (de_ix (de_var (pv 3)) de_int) da_nil)))))) (da_cons (pa_cons (de_tup (pe_tup (da_cons (pa_cons de_int (da_cons (pa_cons de_int da_nil)))))) (da_cons (pa_cons (de_var (pv 3)) da_nil))))))))))))))) (dg_nm (pg_name (i := 7) sc_law.nd rfl (Or.inl rfl)))))
    (dss_cons (ds_setLc (own' := [("_law_here", 8)]) (ps_setLc (own := [("_law_here", 8)]) (i := 7) rfl sc_law.nd rfl rfl (sw_true rfl rfl rfl (by decide +kernel)) (di_lst (pi_list (de_var (pv 7)))) (blkOk_by (N := ["_law_script", "_law_pen_here", "_law_turn", "_law_one", "_law_other", "_law_little", "_law_whole", "_law_some", "_law_here", "_law_first", "_law_second", "_law_due"]) (sc := defScope s_law) (by decide +kernel)) (fun _ _ _ _ _ => (dg_nm (pg_name (i := 8) sc_law.nd rfl (Or.inl rfl)))) (fun _ _ _ _ _ => dts_nil) (fun _ _ _ _ _ => (de_callD d_fraction hr (by decide) (by rfl) (da_cons (pa_cons (de_ix (de_var (pv 8)) de_int) (da_cons (pa_cons (de_ix (de_var (pv 8)) de_int) da_nil)))) (aLen_cons (aLen_cons aLen_nil))))) (by decide))
    (dss_one (ds_for (ps_for PassesOwn.never rfl (di_lst (pi_list (de_var (pv 7)))) (dg_nm (pg_name (i := 9) sc_law.nd rfl (Or.inl rfl)))
    (dss_cons (ds_if (dt_not (dt_val (de_callD d_l_same hr (by decide) (by rfl) (da_cons (pa_cons (de_callD d_floor_of hr (by decide) (by rfl) (da_cons (pa_cons (de_var (pv 9)) da_nil)) (aLen_cons aLen_nil)) (da_cons (pa_cons (de_op op_fdivQ oDiv_ok (de_ix (de_var (pv 9)) de_int) (de_ix (de_var (pv 9)) de_int)) da_nil)))) (aLen_cons (aLen_cons aLen_nil)))))
    (dss_one (ds_ret de_bl))
    dss_nil)
    (dss_one (ds_for (ps_for PassesOwn.never rfl (di_lst (pi_list (de_op op_addAll oAdd_ok (de_sl (de_var (pv 7)) do_no (do_at de_int)) (de_lst (pe_lst (da_cons (pa_cons (de_var (pv 9)) da_nil))))))) (dg_nm (pg_name (i := 10) sc_law.nd rfl (Or.inl rfl)))
    (dss_cons (ds_asg (ps_asg (de_lst (pe_lst (da_cons (pa_cons (de_callD d_l_less hr (by decide) (by rfl) (da_cons (pa_cons (de_var (pv 9)) (da_cons (pa_cons (de_var (pv 10)) da_nil)))) (aLen_cons (aLen_cons aLen_nil))) (da_cons (pa_cons (de_callD d_l_less hr (by decide) (by rfl) (da_cons (pa_cons (de_var (pv 10)) (da_cons (pa_cons (de_var (pv 9)) da_nil)))) (aLen_cons (aLen_cons aLen_nil))) da_nil)))))) (dg_nm (pg_name (i := 11) sc_law.nd rfl (Or.inl rfl)))))
    (dss_one (ds_if (dt_not (dt_val (de_callD d_l_same hr (by decide) (by rfl) (da_cons (pa_cons (de_lst (pe_lst (da_cons (pa_cons (de_callD d_is_less hr (by decide) (by rfl) (da_cons (pa_cons (de_var (pv 9)) (da_cons (pa_cons (de_var (pv 10)) da_nil)))) (aLen_cons (aLen_cons aLen_nil))) (da_cons (pa_cons (de_callD d_is_less hr (by decide) (by rfl) (da_cons (pa_cons (de_var (pv 10)) (da_cons (pa_cons (de_var (pv 9)) da_nil)))) (aLen_cons (aLen_cons aLen_nil))) da_nil)))))) (da_cons (pa_cons (de_var (pv 11)) da_nil)))) (aLen_cons (aLen_cons aLen_nil)))))
    (dss_one (ds_ret de_bl))
    dss_nil))))))))))))))))))
    (dss_one (ds_ret de_bl))))
end
end Lk06
set_option Elab.async false
set_option linter.all false
set_option maxRecDepth 100000
set_option maxHeartbeats 20000000
namespace Lk06
open PySem PySem.Spec PyProof.Rows L2 DL
theorem txt_mk {K : PySem.W.Frag} {h : Heap} {mg : Str → Option Value} (X : K.In h) (G : h.Ns mainGlobals mg)
    {f_is_whole : Addr} {od_is_whole an_is_whole : Option Addr} {sl_is_whole : Array (Option Value)} {oc_is_whole kV_is_whole dc_is_whole pm_is_whole cd_is_whole ct_is_whole : Value}
    (a_is_whole : PySem.W.nsIn K mainGlobals "is_whole" = some (some (.ref f_is_whole))) (l_is_whole : K.lookup f_is_whole = some ⟨oc_is_whole, od_is_whole, .func (PySem.W.fnOf "is_whole" "is_whole" (defArgs s_is_whole) (defBody s_is_whole) (defScope s_is_whole) .none kV_is_whole dc_is_whole pm_is_whole an_is_whole cd_is_whole ct_is_whole), sl_is_whole⟩) (c_is_whole : PySem.W.codeIn K cd_is_whole "is_whole" = true) (k_is_whole : PySem.W.keepIn K (.ref f_is_whole) = true)
    {f_in_lowest_terms : Addr} {od_in_lowest_terms an_in_lowest_terms : Option Addr} {sl_in_lowest_terms : Array (Option Value)} {oc_in_lowest_terms kV_in_lowest_terms dc_in_lowest_terms pm_in_lowest_terms cd_in_lowest_terms ct_in_lowest_terms : Value}
    (a_in_lowest_terms : PySem.W.nsIn K mainGlobals "in_lowest_terms" = some (some (.ref f_in_lowest_terms))) (l_in_lowest_terms : K.lookup f_in_lowest_terms = some ⟨oc_in_lowest_terms, od_in_lowest_terms, .func (PySem.W.fnOf "in_lowest_terms" "in_lowest_terms" (defArgs s_in_lowest_terms) (defBody s_in_lowest_terms) (defScope s_in_lowest_terms) .none kV_in_lowest_terms dc_in_lowest_terms pm_in_lowest_terms an_in_lowest_terms cd_in_lowest_terms ct_in_lowest_terms), sl_in_lowest_terms⟩) (c_in_lowest_terms : PySem.W.codeIn K cd_in_lowest_terms "in_lowest_terms" = true) (k_in_lowest_terms : PySem.W.keepIn K (.ref f_in_lowest_terms) = true)
    {f_is_less : Addr} {od_is_less an_is_less : Option Addr} {sl_is_less : Array (Option Value)} {oc_is_less kV_is_less dc_is_less pm_is_less cd_is_less ct_is_less : Value}
    (a_is_less : PySem.W.nsIn K mainGlobals "is_less" = some (some (.ref f_is_less))) (l_is_less : K.lookup f_is_less = some ⟨oc_is_less, od_is_less, .func (PySem.W.fnOf "is_less" "is_less" (defArgs s_is_less) (defBody s_is_less) (defScope s_is_less) .none kV_is_less dc_is_less pm_is_less an_is_less cd_is_less ct_is_less), sl_is_less⟩) (c_is_less : PySem.W.codeIn K cd_is_less "is_less" = true) (k_is_less : PySem.W.keepIn K (.ref f_is_less) = true)
    {f_floor_of : Addr} {od_floor_of an_floor_of : Option Addr} {sl_floor_of : Array (Option Value)} {oc_floor_of kV_floor_of dc_floor_of pm_floor_of cd_floor_of ct_floor_of : Value}
    (a_floor_of : PySem.W.nsIn K mainGlobals "floor_of" = some (some (.ref f_floor_of))) (l_floor_of : K.lookup f_floor_of = some ⟨oc_floor_of, od_floor_of, .func (PySem.W.fnOf "floor_of" "floor_of" (defArgs s_floor_of) (defBody s_floor_of) (defScope s_floor_of) .none kV_floor_of dc_floor_of pm_floor_of an_floor_of cd_floor_of ct_floor_of), sl_floor_of⟩) (c_floor_of : PySem.W.codeIn K cd_floor_of "floor_of" = true) (k_floor_of : PySem.W.keepIn K (.ref f_floor_of) = true)
    {f_l_pen : Addr} {od_l_pen an_l_pen : Option Addr} {sl_l_pen : Array (Option Value)} {oc_l_pen kV_l_pen dc_l_pen pm_l_pen cd_l_pen ct_l_pen : Value}
    (a_l_pen : PySem.W.nsIn K mainGlobals "_law_pen" = some (some (.ref f_l_pen))) (l_l_pen : K.lookup f_l_pen = some ⟨oc_l_pen, od_l_pen, .func (PySem.W.fnOf "_law_pen" "_law_pen" (defArgs s_l_pen) (defBody s_l_pen) (defScope s_l_pen) .none kV_l_pen dc_l_pen pm_l_pen an_l_pen cd_l_pen ct_l_pen), sl_l_pen⟩) (c_l_pen : PySem.W.codeIn K cd_l_pen "_law_pen" = true) (k_l_pen : PySem.W.keepIn K (.ref f_l_pen) = true)
    {f_l_draw : Addr} {od_l_draw an_l_draw : Option Addr} {sl_l_draw : Array (Option Value)} {oc_l_draw kV_l_draw dc_l_draw pm_l_draw cd_l_draw ct_l_draw : Value}
    (a_l_draw : PySem.W.nsIn K mainGlobals "_law_draw" = some (some (.ref f_l_draw))) (l_l_draw : K.lookup f_l_draw = some ⟨oc_l_draw, od_l_draw, .func (PySem.W.fnOf "_law_draw" "_law_draw" (defArgs s_l_draw) (defBody s_l_draw) (defScope s_l_draw) .none kV_l_draw dc_l_draw pm_l_draw an_l_draw cd_l_draw ct_l_draw), sl_l_draw⟩) (c_l_draw : PySem.W.codeIn K cd_l_draw "_law_draw" = true) (k_l_draw : PySem.W.keepIn K (.ref f_l_draw) = true)
    {f_l_low : Addr} {od_l_low an_l_low : Option Addr} {sl_l_low : Array (Option Value)} {oc_l_low kV_l_low dc_l_low pm_l_low cd_l_low ct_l_low : Value}
    (a_l_low : PySem.W.nsIn K mainGlobals "_law_low" = some (some (.ref f_l_low))) (l_l_low : K.lookup f_l_low = some ⟨oc_l_low, od_l_low, .func (PySem.W.fnOf "_law_low" "_law_low" (defArgs s_l_low) (defBody s_l_low) (defScope s_l_low) .none kV_l_low dc_l_low pm_l_low an_l_low cd_l_low ct_l_low), sl_l_low⟩) (c_l_low : PySem.W.codeIn K cd_l_low "_law_low" = true) (k_l_low : PySem.W.keepIn K (.ref f_l_low) = true)
    {f_l_less : Addr} {od_l_less an_l_less : Option Addr} {sl_l_less : Array (Option Value)} {oc_l_less kV_l_less dc_l_less pm_l_less cd_l_less ct_l_less : Value}
    (a_l_less : PySem.W.nsIn K mainGlobals "_law_less" = some (some (.ref f_l_less))) (l_l_less : K.lookup f_l_less = some ⟨oc_l_less, od_l_less, .func (PySem.W.fnOf "_law_less" "_law_less" (defArgs s_l_less) (defBody s_l_less) (defScope s_l_less) .none kV_l_less dc_l_less pm_l_less an_l_less cd_l_less ct_l_less), sl_l_less⟩) (c_l_less : PySem.W.codeIn K cd_l_less "_law_less" = true) (k_l_less : PySem.W.keepIn K (.ref f_l_less) = true)
    {f_l_same : Addr} {od_l_same an_l_same : Option Addr} {sl_l_same : Array (Option Value)} {oc_l_same kV_l_same dc_l_same pm_l_same cd_l_same ct_l_same : Value}
    (a_l_same : PySem.W.nsIn K mainGlobals "_law_same" = some (some (.ref f_l_same))) (l_l_same : K.lookup f_l_same = some ⟨oc_l_same, od_l_same, .func (PySem.W.fnOf "_law_same" "_law_same" (defArgs s_l_same) (defBody s_l_same) (defScope s_l_same) .none kV_l_same dc_l_same pm_l_same an_l_same cd_l_same ct_l_same), sl_l_same⟩) (c_l_same : PySem.W.codeIn K cd_l_same "_law_same" = true) (k_l_same : PySem.W.keepIn K (.ref f_l_same) = true)
    {f_fraction : Addr} {od_fraction an_fraction : Option Addr} {sl_fraction : Array (Option Value)} {oc_fraction kV_fraction dc_fraction pm_fraction cd_fraction ct_fraction : Value}
    (a_fraction : PySem.W.nsIn K mainGlobals "fraction" = some (some (.ref f_fraction))) (l_fraction : K.lookup f_fraction = some ⟨oc_fraction, od_fraction, .func (PySem.W.fnOf "fraction" "fraction" (defArgs s_fraction) (defBody s_fraction) (defScope s_fraction) .none kV_fraction dc_fraction pm_fraction an_fraction cd_fraction ct_fraction), sl_fraction⟩) (c_fraction : PySem.W.codeIn K cd_fraction "fraction" = true) (k_fraction : PySem.W.keepIn K (.ref f_fraction) = true)
    {f_l_add : Addr} {od_l_add an_l_add : Option Addr} {sl_l_add : Array (Option Value)} {oc_l_add kV_l_add dc_l_add pm_l_add cd_l_add ct_l_add : Value}
    (a_l_add : PySem.W.nsIn K mainGlobals "_law_add" = some (some (.ref f_l_add))) (l_l_add : K.lookup f_l_add = some ⟨oc_l_add, od_l_add, .func (PySem.W.fnOf "_law_add" "_law_add" (defArgs s_l_add) (defBody s_l_add) (defScope s_l_add) .none kV_l_add dc_l_add pm_l_add an_l_add cd_l_add ct_l_add), sl_l_add⟩) (c_l_add : PySem.W.codeIn K cd_l_add "_law_add" = true) (k_l_add : PySem.W.keepIn K (.ref f_l_add) = true)
    {f_l_sub : Addr} {od_l_sub an_l_sub : Option Addr} {sl_l_sub : Array (Option Value)} {oc_l_sub kV_l_sub dc_l_sub pm_l_sub cd_l_sub ct_l_sub : Value}
    (a_l_sub : PySem.W.nsIn K mainGlobals "_law_sub" = some (some (.ref f_l_sub))) (l_l_sub : K.lookup f_l_sub = some ⟨oc_l_sub, od_l_sub, .func (PySem.W.fnOf "_law_sub" "_law_sub" (defArgs s_l_sub) (defBody s_l_sub) (defScope s_l_sub) .none kV_l_sub dc_l_sub pm_l_sub an_l_sub cd_l_sub ct_l_sub), sl_l_sub⟩) (c_l_sub : PySem.W.codeIn K cd_l_sub "_law_sub" = true) (k_l_sub : PySem.W.keepIn K (.ref f_l_sub) = true)
    {f_l_number : Addr} {od_l_number an_l_number : Option Addr} {sl_l_number : Array (Option Value)} {oc_l_number kV_l_number dc_l_number pm_l_number cd_l_number ct_l_number : Value}
    (a_l_number : PySem.W.nsIn K mainGlobals "_law_number" = some (some (.ref f_l_number))) (l_l_number : K.lookup f_l_number = some ⟨oc_l_number, od_l_number, .func (PySem.W.fnOf "_law_number" "_law_number" (defArgs s_l_number) (defBody s_l_number) (defScope s_l_number) .none kV_l_number dc_l_number pm_l_number an_l_number cd_l_number ct_l_number), sl_l_number⟩) (c_l_number : PySem.W.codeIn K cd_l_number "_law_number" = true) (k_l_number : PySem.W.keepIn K (.ref f_l_number) = true)
    {f_law : Addr} {od_law an_law : Option Addr} {sl_law : Array (Option Value)} {oc_law kV_law dc_law pm_law cd_law ct_law : Value}
    (a_law : PySem.W.nsIn K mainGlobals "law" = some (some (.ref f_law))) (l_law : K.lookup f_law = some ⟨oc_law, od_law, .func (PySem.W.fnOf "law" "law" (defArgs s_law) (defBody s_law) (defScope s_law) .none kV_law dc_law pm_law an_law cd_law ct_law), sl_law⟩) (c_law : PySem.W.codeIn K cd_law "law" = true) (k_law : PySem.W.keepIn K (.ref f_law) = true)
    (z_abs : PySem.W.nsIn K mainGlobals "abs" = some none)
    (z_all : PySem.W.nsIn K mainGlobals "all" = some none)
    (z_bool : PySem.W.nsIn K mainGlobals "bool" = some none)
    (z_int : PySem.W.nsIn K mainGlobals "int" = some none)
    (z_isinstance : PySem.W.nsIn K mainGlobals "isinstance" = some none)
    (z_len : PySem.W.nsIn K mainGlobals "len" = some none)
    (z_list : PySem.W.nsIn K mainGlobals "list" = some none)
    (z_range : PySem.W.nsIn K mainGlobals "range" = some none)
    (z_str : PySem.W.nsIn K mainGlobals "str" = some none)
    (z_tuple : PySem.W.nsIn K mainGlobals "tuple" = some none)
    (z_zip : PySem.W.nsIn K mainGlobals "zip" = some none)
    (m_gcd : PySem.W.nsIn K mainGlobals "gcd" = some (some (.builtin "math.gcd"))) : Txt K mg :=
  { z_abs := PySem.W.mg_none_of X G z_abs,
    z_all := PySem.W.mg_none_of X G z_all,
    z_bool := PySem.W.mg_none_of X G z_bool,
    z_int := PySem.W.mg_none_of X G z_int,
    z_isinstance := PySem.W.mg_none_of X G z_isinstance,
    z_len := PySem.W.mg_none_of X G z_len,
    z_list := PySem.W.mg_none_of X G z_list,
    z_range := PySem.W.mg_none_of X G z_range,
    z_str := PySem.W.mg_none_of X G z_str,
    z_tuple := PySem.W.mg_none_of X G z_tuple,
    z_zip := PySem.W.mg_none_of X G z_zip,
    m_gcd := PySem.W.mg_of X G m_gcd,
    a_is_whole := fnat_mk X G a_is_whole l_is_whole c_is_whole k_is_whole (fun _ _ _ _ _ _ us hl => match us, hl with | [_], _ => rfl),
    a_in_lowest_terms := fnat_mk X G a_in_lowest_terms l_in_lowest_terms c_in_lowest_terms k_in_lowest_terms (fun _ _ _ _ _ _ us hl => match us, hl with | [_, _], _ => rfl),
    a_is_less := fnat_mk X G a_is_less l_is_less c_is_less k_is_less (fun _ _ _ _ _ _ us hl => match us, hl with | [_, _], _ => rfl),
    a_floor_of := fnat_mk X G a_floor_of l_floor_of c_floor_of k_floor_of (fun _ _ _ _ _ _ us hl => match us, hl with | [_], _ => rfl),
    a_l_pen := fnat_mk X G a_l_pen l_l_pen c_l_pen k_l_pen (fun _ _ _ _ _ _ us hl => match us, hl with | [_], _ => rfl),
    a_l_draw := fnat_mk X G a_l_draw l_l_draw c_l_draw k_l_draw (fun _ _ _ _ _ _ us hl => match us, hl with | [_, _], _ => rfl),
    a_l_low := fnat_mk X G a_l_low l_l_low c_l_low k_l_low (fun _ _ _ _ _ _ us hl => match us, hl with | [_, _], _ => rfl),
    a_l_less := fnat_mk X G a_l_less l_l_less c_l_less k_l_less (fun _ _ _ _ _ _ us hl => match us, hl with | [_, _], _ => rfl),
    a_l_same := fnat_mk X G a_l_same l_l_same c_l_same k_l_same (fun _ _ _ _ _ _ us hl => match us, hl with | [_, _], _ => rfl),
    a_fraction := fnat_mk X G a_fraction l_fraction c_fraction k_fraction (fun _ _ _ _ _ _ us hl => match us, hl with | [_, _], _ => rfl),
    a_l_add := fnat_mk X G a_l_add l_l_add c_l_add k_l_add (fun _ _ _ _ _ _ us hl => match us, hl with | [_, _], _ => rfl),
    a_l_sub := fnat_mk X G a_l_sub l_l_sub c_l_sub k_l_sub (fun _ _ _ _ _ _ us hl => match us, hl with | [_, _], _ => rfl),
    a_l_number := fnat_mk X G a_l_number l_l_number c_l_number k_l_number (fun _ _ _ _ _ _ us hl => match us, hl with | [_], _ => rfl),
    a_law := fnat_mk X G a_law l_law c_law k_law (fun _ _ _ _ _ _ us hl => match us, hl with | [_], _ => rfl) }
theorem law_fn {P : Program} {w : World} {K : PySem.W.Frag} {mg : Str → Option Value} {fa : Addr} (T : Txt K mg) (hfa : mg "law" = some (.ref fa)) :
    ∃ fd : FuncData, (∀ (s : Shared) (v : Value), BindsTo s fd ⟨[v], []⟩ [("_law_script", v)]) ∧ ∀ base : Heap, K.In base → base.Ns mainGlobals mg → FnOk P w K mg base CX0 14 fa fd ["_law_script"] (spLaw K) := by
  obtain ⟨a, fd, F, g, bi⟩ := T.a_law
  cases hfa.symm.trans g
  obtain ⟨oc, od, kV, doc, pm, an, cdv, ct, osl, rfl, lk, hcd⟩ := F.ex
  exact ⟨_, fun s v => .of_eq rfl, fun base _ _ => law_of (ok_law T F) law_true⟩
end Lk06
open PySem PySem.W PyProof.Rows
set_option maxHeartbeats 0 in
theorem PySem.Challenge.cw_beatlanes_k06_less_and_floor_holds : PySem.Challenge.rw_beatlanes_k06_less_and_floor.Holds := by
  w_on; o_law; k_head; (case hw => w_witness2)
  k_fill
  refine L2.walk_of (l := PySem.Challenge.rw_beatlanes_k06_less_and_floor) (n := 63) (k := 14) (x := "_law_script") (CX := fun _ => L2.CX0) (sp := fun w => DL.spLaw _) rfl (by decide) rfl ⟨rfl, by decide, by decide⟩ (fun w h Y => PySem.W.kIn_of Y) ?F (fun _ _ a ns hl ho hS => ⟨a, ns, rfl, hS, ho, hl, fun _ => rfl⟩) (fun _ _ _ _ _ h => h)
  case F =>
    intro w mg fa h KX G hmg
    refine' Lk06.law_fn (Lk06.txt_mk KX G ?a_is_whole ?l_is_whole ?c_is_whole ?k_is_whole ?a_in_lowest_terms ?l_in_lowest_terms ?c_in_lowest_terms ?k_in_lowest_terms ?a_is_less ?l_is_less ?c_is_less ?k_is_less ?a_floor_of ?l_floor_of ?c_floor_of ?k_floor_of ?a_l_pen ?l_l_pen ?c_l_pen ?k_l_pen ?a_l_draw ?l_l_draw ?c_l_draw ?k_l_draw ?a_l_low ?l_l_low ?c_l_low ?k_l_low ?a_l_less ?l_l_less ?c_l_less ?k_l_less ?a_l_same ?l_l_same ?c_l_same ?k_l_same ?a_fraction ?l_fraction ?c_fraction ?k_fraction ?a_l_add ?l_l_add ?c_l_add ?k_l_add ?a_l_sub ?l_l_sub ?c_l_sub ?k_l_sub ?a_l_number ?l_l_number ?c_l_number ?k_l_number ?a_law ?l_law ?c_law ?k_law ?z_abs ?z_all ?z_bool ?z_int ?z_isinstance ?z_len ?z_list ?z_range ?z_str ?z_tuple ?z_zip ?m_gcd) hmg
    (case a_is_whole => k_is)
    (case l_is_whole => k_is)
    (case c_is_whole => k_is)
    (case k_is_whole => k_is)
    (case a_in_lowest_terms => k_is)
    (case l_in_lowest_terms => k_is)
    (case c_in_lowest_terms => k_is)
    (case k_in_lowest_terms => k_is)
    (case a_is_less => k_is)
    (case l_is_less => k_is)
    (case c_is_less => k_is)
    (case k_is_less => k_is)
    (case a_floor_of => k_is)
    (case l_floor_of => k_is)
    (case c_floor_of => k_is)
    (case k_floor_of => k_is)
    (case a_l_pen => k_is)
    (case l_l_pen => k_is)
    (case c_l_pen => k_is)
    (case k_l_pen => k_is)
    (case a_l_draw => k_is)
    (case l_l_draw => k_is)
    (case c_l_draw => k_is)
    (case k_l_draw => k_is)
    (case a_l_low => k_is)
    (case l_l_low => k_is)
    (case c_l_low => k_is)
    (case k_l_low => k_is)
    (case a_l_less => k_is)
    (case l_l_less => k_is)
    (case c_l_less => k_is)
    (case k_l_less => k_is)
    (case a_l_same => k_is)
    (case l_l_same => k_is)
    (case c_l_same => k_is)
    (case k_l_same => k_is)
    (case a_fraction => k_is)
    (case l_fraction => k_is)
    (case c_fraction => k_is)
    (case k_fraction => k_is)
    (case a_l_add => k_is)
    (case l_l_add => k_is)
    (case c_l_add => k_is)
    (case k_l_add => k_is)
    (case a_l_sub => k_is)
    (case l_l_sub => k_is)
    (case c_l_sub => k_is)
    (case k_l_sub => k_is)
    (case a_l_number => k_is)
    (case l_l_number => k_is)
    (case c_l_number => k_is)
    (case k_l_number => k_is)
    (case a_law => k_is)
    (case l_law => k_is)
    (case c_law => k_is)
    (case k_law => k_is)
    (case z_abs => k_is)
    (case z_all => k_is)
    (case z_bool => k_is)
    (case z_int => k_is)
    (case z_isinstance => k_is)
    (case z_len => k_is)
    (case z_list => k_is)
    (case z_range => k_is)
    (case z_str => k_is)
    (case z_tuple => k_is)
    (case z_zip => k_is)
    (case m_gcd => k_is)
