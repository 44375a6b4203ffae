import PyProof.Rows.All
import Wide.All
import OpenK.AllK
import Wide.FinOn
import HandS.ForMost
import HandS.ForExc
import HandS.EndBits
import HandS.IsInst
import HandS.Wide
import HandS.WideBits
import HandS.Conv
import HandS.TupAny
import HandS.HotCalls
import HandS.TryOnly
import HandS.RaiseMore
import HandS.FStr
import HandS.ExcIs
import HandS.WordsExc
import KE.KxIndex
import HandS.Flow
import HandS.Dict
import HandS.SortInts
import HandS.List
import HandS.More
import HandS.Zip
import PySem.Challenge.RW_redpaint_k05_faults
set_option Elab.async false
set_option linter.all false
set_option maxRecDepth 100000
namespace RB
open PySem PySem.Spec PyProof.Rows L2

/-! ### data, environments, owned lists -/
inductive W where
  | dat (d : PyData)
  | loc (a : Addr)
/-- what an owned object holds: a list of data; a dict with int keys; a list of objects; an instance; its dict -/
inductive OD where
  | l (ds : List PyData)
  | d (kvs : List (Int × PyData))
  | r (as : List Addr)
  | i (C dx : Addr) (fs : List (Str × PyData))
  | o (a : Addr)
abbrev Mu := List (Addr × OD)
abbrev Rho := List (Option W)
abbrev wi (i : Int) : W := .dat (.int i)
abbrev wb (b : Bool) : W := .dat (.bool b)
abbrev wn : W := .dat .none

theorem seqT {K : PySem.W.Frag} {H H' : Hp} {a : Addr} {xs : List V} (e : Same H H') (h : SqT K H a xs) : SqT K H' a xs := by
  rcases h with (h | ⟨o, h⟩) | h
  · exact .inl (.inl (e _ _ h))
  · exact .inl (.inr ⟨o, e _ _ h⟩)
  · exact .inr h
mutual
theorem dp_same {K : PySem.W.Frag} {G G' : Hp} (e : Same G G') : ∀ (d : PyData) (v : V), Dp K G v d → Dp K G' v d
  | .none, _, h => by cases h; exact .non
  | .bool b, _, h => by cases h; exact .bl b
  | .int i, _, h => by cases h; exact .int i
  | .str x, _, h => by cases h; exact .str x
  | .list ds, _, h => by
    cases h with
    | lst hs ha => exact .lst (e.seq hs) (dpAll_same e ds _ ha)
  | .tuple ds, _, h => by
    cases h with
    | tup hs ha => exact .tup (seqT e hs) (dpAll_same e ds _ ha)
  | .dict _, _, h => by cases h
theorem dpAll_same {K : PySem.W.Frag} {G G' : Hp} (e : Same G G') : ∀ (ds : List PyData) (vs : List V), DpAll K G vs ds → DpAll K G' vs ds
  | [], _, h => by cases h; exact .nil
  | d :: ds, _, h => by
    cases h with
    | cons h1 h2 => exact .cons (dp_same e d _ h1) (dpAll_same e ds _ h2)
end
theorem dpAll_len {K : PySem.W.Frag} {G : Hp} : ∀ {vs : List V} {ds : List PyData}, DpAll K G vs ds → vs.length = ds.length
  | _, _, .nil => rfl
  | _, _, .cons _ t => by rw [List.length_cons, List.length_cons, dpAll_len t]
theorem dpAll_get {K : PySem.W.Frag} {G : Hp} : ∀ {vs : List V} {ds : List PyData} {i : Nat} {d : PyData}, DpAll K G vs ds → ds[i]? = some d → ∃ v, vs[i]? = some v ∧ Dp K G v d
  | _, _, _, _, .nil, e => by simp at e
  | _, _, 0, _, .cons h _, e => by simp at e; subst e; exact ⟨_, rfl, h⟩
  | _, _, i + 1, d, .cons _ t, e => by
    obtain ⟨v, h1, h2⟩ := dpAll_get (i := i) (d := d) t (by simpa using e)
    exact ⟨v, by simpa using h1, h2⟩
theorem dpAll_getV {K : PySem.W.Frag} {G : Hp} : ∀ {vs : List V} {ds : List PyData} {i : Nat} {v : V}, DpAll K G vs ds → vs[i]? = some v → ∃ d, ds[i]? = some d ∧ Dp K G v d
  | _, _, _, _, .nil, e => by simp at e
  | _, _, 0, _, .cons h _, e => by simp at e; subst e; exact ⟨_, rfl, h⟩
  | _, _, i + 1, d, .cons _ t, e => by
    obtain ⟨v, h1, h2⟩ := dpAll_getV (i := i) (v := d) t (by simpa using e)
    exact ⟨v, by simpa using h1, h2⟩
theorem dpAll_app {K : PySem.W.Frag} {G : Hp} : ∀ {vs us : List V} {ds es : List PyData}, DpAll K G vs ds → DpAll K G us es → DpAll K G (vs ++ us) (ds ++ es)
  | _, _, _, _, .nil, h => h
  | _, _, _, _, .cons h t, h2 => .cons h (dpAll_app t h2)
theorem dpAll_take {K : PySem.W.Frag} {G : Hp} : ∀ {vs : List V} {ds : List PyData} (n : Nat), DpAll K G vs ds → DpAll K G (vs.take n) (ds.take n)
  | _, _, 0, _ => by simp; exact .nil
  | _, _, _ + 1, .nil => by simp; exact .nil
  | _, _, n + 1, .cons h t => by simp only [List.take_succ_cons]; exact .cons h (dpAll_take n t)
theorem dpAll_drop {K : PySem.W.Frag} {G : Hp} : ∀ {vs : List V} {ds : List PyData} (n : Nat), DpAll K G vs ds → DpAll K G (vs.drop n) (ds.drop n)
  | _, _, 0, h => h
  | _, _, _ + 1, .nil => by simp; exact .nil
  | _, _, n + 1, .cons h t => by simp only [List.drop_succ_cons]; exact dpAll_drop n t
theorem dpAll_rev {K : PySem.W.Frag} {G : Hp} : ∀ {vs : List V} {ds : List PyData}, DpAll K G vs ds → DpAll K G vs.reverse ds.reverse
  | _, _, .nil => .nil
  | _, _, .cons h t => by rw [List.reverse_cons, List.reverse_cons]; exact dpAll_app (dpAll_rev t) (.cons h .nil)

def WV (K : PySem.W.Frag) (G : Hp) (v : V) : W → Prop
  | .dat d => Dp K G v d
  | .loc a => v = .ref a
theorem WV.same {K : PySem.W.Frag} {G G' : Hp} {v : V} {w : W} (h : WV K G v w) (e : Same G G') : WV K G' v w := by
  cases w with
  | dat d => exact dp_same e d v h
  | loc a => exact h
abbrev WVs (K : PySem.W.Frag) (G : Hp) : List V → List W → Prop := Paired (WV K G)
theorem WVs.same {K : PySem.W.Frag} {G G' : Hp} (e : Same G G') : ∀ {vs : List V} {ws : List W}, WVs K G vs ws → WVs K G' vs ws
  | _, _, .nil => .nil
  | _, _, .cons h t => .cons (h.same e) (WVs.same e t)
theorem wvs_get {K : PySem.W.Frag} {G : Hp} : ∀ {vs : List V} {ws : List W} {i : Nat} {w : W}, WVs K G vs ws → ws[i]? = some w → ∃ v, vs[i]? = some v ∧ WV K G v w
  | _, _, _, _, .nil, e => by simp at e
  | _, _, 0, _, .cons h _, e => by simp at e; subst e; exact ⟨_, rfl, h⟩
  | _, _, i + 1, d, .cons _ t, e => by
    obtain ⟨v, h1, h2⟩ := wvs_get (i := i) (w := d) t (by simpa using e)
    exact ⟨v, by simpa using h1, h2⟩
theorem wvs_len {K : PySem.W.Frag} {G : Hp} {vs : List V} {ws : List W} (h : WVs K G vs ws) : vs.length = ws.length := Paired.length h
theorem wvs_dat {K : PySem.W.Frag} {G : Hp} : ∀ {vs : List V} {ds : List PyData}, WVs K G vs (ds.map .dat) → DpAll K G vs ds
  | _, [], h => by cases h; exact .nil
  | _, _ :: _, h => by
    cases h with
    | cons h t => exact .cons h (wvs_dat t)

abbrev KvD (K : PySem.W.Frag) (G : Hp) : List (Key × V) → List (Int × PyData) → Prop := Paired fun p q => p.1 = .inl q.1 ∧ Dp K G p.2 q.2
abbrev FsD (K : PySem.W.Frag) (G : Hp) : List (Str × V) → List (Str × PyData) → Prop := Paired fun p q => p.1 = q.1 ∧ Dp K G p.2 q.2
def OOk (K : PySem.W.Frag) (G : Hp) (h : HO) : OD → Prop
  | .l ds => ∃ xs, h = .lst xs ∧ DpAll K G xs ds
  | .d kvs => ∃ vs, h = .dK vs ∧ KvD K G vs kvs
  | .r as => h = .lst (as.map V.ref)
  | .i C dx fs => ∃ vs, h = .ins C dx vs ∧ FsD K G vs fs
  | .o a => h = .own a
theorem kvD_same {K : PySem.W.Frag} {G G' : Hp} (e : Same G G') : ∀ {vs : List (Key × V)} {kvs : List (Int × PyData)}, KvD K G vs kvs → KvD K G' vs kvs
  | _, _, .nil => .nil
  | _, _, .cons h t => .cons ⟨h.1, dp_same e _ _ h.2⟩ (kvD_same e t)
theorem fsD_same {K : PySem.W.Frag} {G G' : Hp} (e : Same G G') : ∀ {vs : List (Str × V)} {fs : List (Str × PyData)}, FsD K G vs fs → FsD K G' vs fs
  | _, _, .nil => .nil
  | _, _, .cons h t => .cons ⟨h.1, dp_same e _ _ h.2⟩ (fsD_same e t)
theorem OOk.same {K : PySem.W.Frag} {G G' : Hp} {h : HO} (e : Same G G') : ∀ {o : OD}, OOk K G h o → OOk K G' h o
  | .l _, ⟨xs, h1, h2⟩ => ⟨xs, h1, dpAll_same e _ _ h2⟩
  | .d _, ⟨vs, h1, h2⟩ => ⟨vs, h1, kvD_same e h2⟩
  | .r _, h => h
  | .i _ _ _, ⟨vs, h1, h2⟩ => ⟨vs, h1, fsD_same e h2⟩
  | .o _, h => h
structure MuOk (K : PySem.W.Frag) (H G : Hp) (μ : Mu) : Prop where
  on : ∀ (n : Nat) (a : Addr) (o : OD), μ[n]? = some (a, o) → G a = none ∧ ∃ h, H a = some h ∧ OOk K G h o
  nd : (μ.map (·.1)).Nodup
structure StOk (K : PySem.W.Frag) (σ : L2.St) (H G : Hp) (ρ : Rho) (μ : Mu) : Prop where
  gh : Same G H
  sv : ∀ (i : Nat) (w : W), ρ[i]? = some (some w) → ∃ v, σ[i]? = some (some v) ∧ WV K G v w
  ln : σ.length = ρ.length
  mu : MuOk K H G μ
structure Go (H G : Hp) (μ : Mu) (H' G' : Hp) (μ' : Mu) : Prop where
  fr : ∀ a o, H a = some o → a ∉ μ.map (·.1) → H' a = some o
  gx : Same G G'
  gs : Same G' H'
  nw : ∀ a o, G' a = some o → G a = some o ∨ H a = none ∨ a ∈ μ.map (·.1)
  dm : ∀ a, a ∈ μ'.map (·.1) → a ∈ μ.map (·.1) ∨ H a = none
  al : ∀ a, H' a = none → H a = none
theorem Go.refl {H G : Hp} {μ : Mu} (h : Same G H) : Go H G μ H G μ :=
  ⟨fun _ _ e _ => e, fun _ _ e => e, h, fun _ _ e => .inl e, fun _ h => .inl h, fun _ h => h⟩
theorem some_of {H : Hp} {a : Addr} (h : ¬ H a = none) : ∃ o, H a = some o := by
  cases e : H a with
  | none => exact absurd e h
  | some o => exact ⟨o, rfl⟩
theorem Go.trans {H G H1 G1 H2 G2 : Hp} {μ μ1 μ2 : Mu} (a : Go H G μ H1 G1 μ1) (b : Go H1 G1 μ1 H2 G2 μ2) : Go H G μ H2 G2 μ2 where
  fr := fun x o e n => b.fr x o (a.fr x o e n) fun m => by
    rcases a.dm x m with z | z
    · exact n z
    · rw [z] at e; cases e
  gx := a.gx.trans b.gx
  gs := b.gs
  nw := fun x o e => by
    rcases b.nw x o e with z | z | z
    · exact a.nw x o z
    · exact .inr (.inl (a.al x z))
    · rcases a.dm x z with y | y
      · exact .inr (.inr y)
      · exact .inr (.inl y)
  dm := fun x m => by
    rcases b.dm x m with z | z
    · exact a.dm x z
    · exact .inr (a.al x z)
  al := fun x e => a.al x (b.al x e)
theorem StOk.go {K : PySem.W.Frag} {σ : L2.St} {H G H' G' : Hp} {ρ : Rho} {μ μ' : Mu} (s : StOk K σ H G ρ μ) (g : Go H G μ H' G' μ') (m : MuOk K H' G' μ') : StOk K σ H' G' ρ μ' :=
  ⟨g.gs, fun i w e => by obtain ⟨v, h1, h2⟩ := s.sv i w e; exact ⟨v, h1, h2.same g.gx⟩, s.ln, m⟩
theorem StOk.set {K : PySem.W.Frag} {σ : L2.St} {H G : Hp} {ρ : Rho} {μ : Mu} {v : V} {w : W} (s : StOk K σ H G ρ μ) (i : Nat) (h : WV K G v w) : StOk K (σ.set i (some v)) H G (ρ.set i (some w)) μ :=
  ⟨s.gh, fun j u e => by
    by_cases hj : i = j
    · subst hj
      by_cases hl : i < ρ.length
      · rw [List.getElem?_set_self hl] at e
        cases e
        exact ⟨v, by rw [List.getElem?_set_self (by rw [s.ln]; exact hl)], h⟩
      · rw [List.getElem?_eq_none (by rw [List.length_set]; omega)] at e
        cases e
    · rw [List.getElem?_set_ne hj] at e ⊢
      exact s.sv j u e, by rw [List.length_set, List.length_set, s.ln], s.mu⟩
theorem StOk.unset {K : PySem.W.Frag} {σ : L2.St} {H G : Hp} {ρ : Rho} {μ : Mu} (s : StOk K σ H G ρ μ) (i : Nat) : StOk K (σ.set i none) H G (ρ.set i none) μ :=
  ⟨s.gh, fun j u e => by
    by_cases hj : i = j
    · subst hj
      by_cases hl : i < ρ.length
      · rw [List.getElem?_set_self hl] at e
        cases e
      · rw [List.getElem?_eq_none (by rw [List.length_set]; omega)] at e
        cases e
    · rw [List.getElem?_set_ne hj] at e ⊢
      exact s.sv j u e, by rw [List.length_set, List.length_set, s.ln], s.mu⟩
/-- a new thing of the written part: known for ever -/
theorem Go.lay {K : PySem.W.Frag} {H G : Hp} {μ : Mu} {p : Addr} {o : HO} (gh : Same G H) (m : MuOk K H G μ) (hp : H p = none) : Go H G μ (upd H p o) (upd G p o) μ ∧ MuOk K (upd H p o) (upd G p o) μ := by
  have gp : G p = none := gh.free hp
  have gx : Same G (upd G p o) := fun b u e => by rw [upd_ne (ne_of_none e gp)]; exact e
  refine ⟨⟨fun b u e _ => by rw [upd_ne (ne_of_none e hp)]; exact e, gx, fun b u e => ?_, fun b u e => ?_, fun b h => .inl h, fun b e => ?_⟩, fun n a ds e => ?_, m.nd⟩
  · by_cases hb : b = p
    · subst hb; rw [upd_same] at e ⊢; exact e
    · rw [upd_ne hb] at e ⊢; exact gh _ _ e
  · by_cases hb : b = p
    · subst hb; exact .inr (.inl hp)
    · rw [upd_ne hb] at e; exact .inl e
  · by_cases hb : b = p
    · subst hb; exact hp
    · rw [upd_ne hb] at e; exact e
  · obtain ⟨h1, xs, h2, h3⟩ := m.on n a ds e
    have hap : a ≠ p := ne_of_none h2 hp
    exact ⟨by rw [upd_ne hap]; exact h1, xs, by rw [upd_ne hap]; exact h2, OOk.same gx h3⟩

/-! ### the judgements -/
def rdE (K : PySem.W.Frag) (ρ : Rho) (μ : Mu) (w : W) (μ' : Mu) : TE := fun σ H Q => ∃ G, StOk K σ H G ρ μ ∧ ∀ v H' G', Go H G μ H' G' μ' → MuOk K H' G' μ' → WV K G' v w → Q v H'
def rdA (K : PySem.W.Frag) (ρ : Rho) (μ : Mu) (ws : List W) (μ' : Mu) : TA := fun σ H Q => ∃ G, StOk K σ H G ρ μ ∧ ∀ vs H' G', Go H G μ H' G' μ' → MuOk K H' G' μ' → WVs K G' vs ws → Q vs H'
def rdT (K : PySem.W.Frag) (ρ : Rho) (μ : Mu) (b : Bool) (μ' : Mu) : TT := fun σ H Q => ∃ G, StOk K σ H G ρ μ ∧ ∀ H' G', Go H G μ H' G' μ' → MuOk K H' G' μ' → Q b H'
def rdL (K : PySem.W.Frag) (ρ : Rho) (μ : Mu) (ds : List PyData) (μ' : Mu) : TE := fun σ H Q => ∃ G, StOk K σ H G ρ μ ∧ ∀ p xs H' G', Go H G μ H' G' μ' → MuOk K H' G' μ' → H p = none → G' p = none → p ∉ μ'.map (·.1) → H' p = some (.lst xs) → DpAll K G' xs ds → Q (.ref p) H'
def JE (X : Cx) (ρ : Rho) (μ : Mu) (e : Expr) (w : W) (μ' : Mu) : Prop := PE X e (rdE X.K ρ μ w μ')
def JL (X : Cx) (ρ : Rho) (μ : Mu) (e : Expr) (ds : List PyData) (μ' : Mu) : Prop := PE X e (rdL X.K ρ μ ds μ')
def JA (X : Cx) (ρ : Rho) (μ : Mu) (es : List Expr) (ws : List W) (μ' : Mu) : Prop := PA X es (rdA X.K ρ μ ws μ')
def JD (X : Cx) (ρ : Rho) (μ : Mu) (es : List Expr) (ds : List PyData) (μ' : Mu) : Prop := JA X ρ μ es (ds.map .dat) μ'
def JT (X : Cx) (ρ : Rho) (μ : Mu) (e : Expr) (b : Bool) (μ' : Mu) : Prop := PT X e (rdT X.K ρ μ b μ')
def JW (X : Cx) (ρ : Rho) (μ : Mu) (e : Expr) (b : Bool) (μ' : Mu) : Prop := PW X e (rdT X.K ρ μ b μ')
inductive Out where
  | nx (ρ : Rho) (μ : Mu)
  | rt (w : W) (μ : Mu)
  | rl (ds : List PyData) (μ : Mu)
  | bk (ρ : Rho) (μ : Mu)
  | ct (ρ : Rho) (μ : Mu)
  | ex (c : Value) (ρ : Rho) (μ : Mu)
structure Wants (K : PySem.W.Frag) (H G : Hp) (μ : Mu) (Φ : Out → Prop) (D : Ends) (Wx : WX) : Prop where
  nx : ∀ ρ' μ' σ' H' G', Φ (.nx ρ' μ') → Go H G μ H' G' μ' → StOk K σ' H' G' ρ' μ' → D.nx σ' H'
  rt : ∀ w μ' v H' G', Φ (.rt w μ') → Go H G μ H' G' μ' → MuOk K H' G' μ' → WV K G' v w → D.rt v H'
  rl : ∀ ds μ' p xs H' G', Φ (.rl ds μ') → Go H G μ H' G' μ' → MuOk K H' G' μ' → (H p = none ∨ p ∈ μ.map (·.1)) → G' p = none → p ∉ μ'.map (·.1) → H' p = some (.lst xs) → DpAll K G' xs ds → D.rt (.ref p) H'
  bk : ∀ ρ' μ' σ' H' G', Φ (.bk ρ' μ') → Go H G μ H' G' μ' → StOk K σ' H' G' ρ' μ' → D.bk σ' H'
  ct : ∀ ρ' μ' σ' H' G', Φ (.ct ρ' μ') → Go H G μ H' G' μ' → StOk K σ' H' G' ρ' μ' → D.ct σ' H'
  ex : ∀ c ρ' μ' σ' H' G', Φ (.ex c ρ' μ') → Go H G μ H' G' μ' → StOk K σ' H' G' ρ' μ' → Wx c none σ' H'
theorem Wants.go {K : PySem.W.Frag} {H G H1 G1 : Hp} {μ μ1 : Mu} {Φ : Out → Prop} {D : Ends} {Wx : WX} (w : Wants K H G μ Φ D Wx) (g : Go H G μ H1 G1 μ1) : Wants K H1 G1 μ1 Φ D Wx :=
  ⟨fun _ _ _ _ _ p g2 s => w.nx _ _ _ _ _ p (g.trans g2) s, fun _ _ _ _ _ p g2 m v => w.rt _ _ _ _ _ p (g.trans g2) m v, fun _ _ q _ _ _ p g2 m h0 h1 h2 h3 h4 => w.rl _ _ q _ _ _ p (g.trans g2) m (h0.elim (fun z => Or.inl (g.al q z)) fun z => (g.dm q z).symm) h1 h2 h3 h4, fun _ _ _ _ _ p g2 s => w.bk _ _ _ _ _ p (g.trans g2) s, fun _ _ _ _ _ p g2 s => w.ct _ _ _ _ _ p (g.trans g2) s, fun _ _ _ _ _ _ p g2 s => w.ex _ _ _ _ _ _ p (g.trans g2) s⟩
/-- what a context takes of exceptions: where nothing is handled, such whose context is None -/
def TakesX (X : Cx) (Wx : WX) : Prop := (X.calm = true → L2N.Takes X Wx) ∧ (X.calm = false → L2.Takes X Wx)
theorem takesX0 {X : Cx} : TakesX X (fun _ _ _ _ => False) := ⟨fun _ _ _ ⟨_, _, _, _, _, _, _, _, _, _, _, _, _, _, _, _, w⟩ => w.elim, fun _ _ _ ⟨_, _, _, _, _, _, _, _, _, _, _, _, _, _, _, _, w⟩ => w.elim⟩
def rdS (K : PySem.W.Frag) (Wx : WX) (ρ : Rho) (μ : Mu) (Φ : Out → Prop) : TS := fun D σ H => ∃ G, StOk K σ H G ρ μ ∧ Wants K H G μ Φ D Wx
def JS (X : Cx) (ρ : Rho) (μ : Mu) (st : Stmt) (Φ : Out → Prop) : Prop := ∀ Wx, TakesX X Wx → PS X st (rdS X.K Wx ρ μ Φ)
def JSs (X : Cx) (ρ : Rho) (μ : Mu) (st : List Stmt) (Φ : Out → Prop) : Prop := ∀ Wx, TakesX X Wx → PSs X st (rdS X.K Wx ρ μ Φ)

theorem PE.imp {X : Cx} {e : Expr} {t t' : TE} (h : PE X e t) (i : ∀ σ H Q, t' σ H Q → t σ H Q) : PE X e t' := ⟨fun pins s σ H Q I q => h.run pins s σ H Q I (i _ _ _ q)⟩
theorem PT.imp {X : Cx} {e : Expr} {t t' : TT} (h : PT X e t) (i : ∀ σ H Q, t' σ H Q → t σ H Q) : PT X e t' := ⟨fun pins s σ H Q I q => h.run pins s σ H Q I (i _ _ _ q)⟩
theorem PW.imp {X : Cx} {e : Expr} {t t' : TT} (h : PW X e t) (i : ∀ σ H Q, t' σ H Q → t σ H Q) : PW X e t' := ⟨fun wh pins s σ H Q I q => h.run wh pins s σ H Q I (i _ _ _ q)⟩
theorem PA.imp {X : Cx} {e : List Expr} {t t' : TA} (h : PA X e t) (i : ∀ σ H Q, t' σ H Q → t σ H Q) : PA X e t' := ⟨fun pos pins s σ H Q I q => h.run pos pins s σ H Q I (i _ _ _ q)⟩
theorem PS.imp {X : Cx} {e : Stmt} {t t' : TS} (h : PS X e t) (i : ∀ D σ H, t' D σ H → t D σ H) : PS X e t' := ⟨fun pins s σ H Q I q => h.run pins s σ H Q I (i _ _ _ q)⟩
theorem PSs.imp {X : Cx} {e : List Stmt} {t t' : TS} (h : PSs X e t) (i : ∀ D σ H, t' D σ H → t D σ H) : PSs X e t' := ⟨fun pins s σ H Q I q => h.run pins s σ H Q I (i _ _ _ q)⟩
theorem PE.no {X : Cx} {e : Expr} : PE X e (fun _ _ _ => False) := ⟨fun _ _ _ _ _ _ h => h.elim⟩
theorem PT.no {X : Cx} {e : Expr} : PT X e (fun _ _ _ => False) := ⟨fun _ _ _ _ _ _ h => h.elim⟩

/-- what is known of a body's context -/
inductive Md where
  | calm
  | hot
  | cold
structure Fx (md : Md) (X : Cx) (N : List Str) (sc : Scope) (k : Nat) : Prop where
  n : X.N = N
  s : X.env.scope = sc
  nd : N.Nodup
  room : L2H.RoomH k X.A
  cal : md = .calm → X.calm = true ∧ Room k X.A
  hot : md = .hot → X.calm = false ∧ L2H.HotC X
theorem Fx.calm {X : Cx} {N : List Str} {sc : Scope} {k : Nat} (C : Fx .calm X N sc k) : X.calm = true := (C.cal rfl).1
theorem Fx.roomC {X : Cx} {N : List Str} {sc : Scope} {k : Nat} (C : Fx .calm X N sc k) : Room k X.A := (C.cal rfl).2
theorem Fx.hotC {X : Cx} {N : List Str} {sc : Scope} {k : Nat} (C : Fx .hot X N sc k) : L2H.HotC X := (C.hot rfl).2
/-- .. of a def's body, which may store and loop -/
structure Fb (md : Md) (X : Cx) (N : List Str) (sc : Scope) (k : Nat) : Prop extends Fx md X N sc k where
  fn : ∀ x, X.fn x = true
  po : PassesOwn (model X.prog X.w) X.A X.env X.xe
  sk : X.stack = X.env :: X.outer
  fr : X.env.frame = some X.env.locals
theorem Fx.gl {X : Cx} {N : List Str} {sc : Scope} {k : Nat} (C : Fx md X N sc k) {x : Str} (h : sc.names.lookup x = some .globalImplicit) : Gl X x := by
  show X.env.scope.names.lookup x = _
  rw [C.s]
  exact h
section
variable {md : Md} {X : Cx} {N : List Str} {sc : Scope} {k : Nat} {ρ : Rho} {μ μ1 μ2 μ' : Mu} {w wa wb' : W} {a b c e : Expr} {es : List Expr} {pos p : Pos} {d : PyData} {ds : List PyData} {i j : Int} {b1 b2 : Bool}
theorem je_v (C : Fx md X N sc k) (n : Nat) {x : Str} (hN : N[n]? = some x := by rfl) (hv : Vis sc x := by first | exact Or.inl rfl | exact Or.inr (Or.inl rfl) | exact Or.inr (Or.inr rfl)) (h : ρ[n]? = some (some w) := by rfl)
    (hd : (x == ("__debug__" : Str)) = false := by decide) (hcd : (x == ("__classdict__" : Str)) = false := by decide) : JE X ρ μ (.Name x pos) w μ :=
  PE.imp (pe_var (i := n) (by rw [C.n]; exact hN) (by rw [C.s]; exact hv) hd hcd) fun σ H Q ⟨G, S, q⟩ => by
    obtain ⟨v, e, wv⟩ := S.sv n w h
    exact ⟨v, e, q v H G (Go.refl S.gh) S.mu wv⟩
theorem je_int {n : Nat} : JE X ρ μ (.Constant (.int i) n pos) (wi i) μ := PE.imp pe_int fun σ H Q ⟨G, S, q⟩ => q _ H G (Go.refl S.gh) S.mu (Dp.int i)
theorem je_bl {n : Nat} : JE X ρ μ (.Constant (.bool b1) n pos) (wb b1) μ := PE.imp pe_bl fun σ H Q ⟨G, S, q⟩ => q _ H G (Go.refl S.gh) S.mu (Dp.bl b1)
theorem je_non {n : Nat} : JE X ρ μ (.Constant .none n pos) wn μ := PE.imp pe_non fun σ H Q ⟨G, S, q⟩ => q _ H G (Go.refl S.gh) S.mu Dp.non
theorem je_str {n : Nat} {x : Str} : JE X ρ μ (.Constant (.str x) n pos) (.dat (.str x)) μ := PE.imp pe_str fun σ H Q ⟨G, S, q⟩ => q _ H G (Go.refl S.gh) S.mu (Dp.str _)
/-- a constant of the module -/
theorem je_gi (C : Fx md X N sc k) {x : Str} {t : Tok} (hm : X.mg x = some (.int i t)) (hg : sc.names.lookup x = some .globalImplicit := by rfl) (hd : (x == ("__debug__" : Str)) = false := by decide) : JE X ρ μ (.Name x pos) (wi i) μ :=
  PE.imp (pe_glob (C.gl hg) hm (show RelV (V.int i) (Value.int i t) from ⟨t, rfl⟩) hd) fun σ H Q ⟨G, S, q⟩ => q _ H G (Go.refl S.gh) S.mu (Dp.int i)

theorem je_op {op : Operator} {r : R2} (ho : OpR X (binaryOp op) r) (ha : JE X ρ μ a wa μ1) (hb : JE X ρ μ1 b wb' μ2)
    (hr : ∀ (G H : Hp) (x y : V) (Q : VK), Same G H → WV X.K G x wa → WV X.K G y wb' → (∀ v, WV X.K G v w → Q v H) → r x y H Q) : JE X ρ μ (.BinOp a op b pos) w μ2 :=
  PE.imp (pe_op ho ha hb) fun σ H Q ⟨G, S, q⟩ => ⟨G, S, fun x H1 G1 g1 m1 wx => ⟨G1, S.go g1 m1, fun y H2 G2 g2 m2 wy => hr G2 H2 x y Q g2.gs (wx.same g2.gx) wy fun v wv => q v H2 G2 (g1.trans g2) m2 wv⟩⟩
theorem je_cmp {op : CmpOp} {r : R2} (ho : OpR X (compareOp op) r) (ha : JE X ρ μ a wa μ1) (hb : JE X ρ μ1 b wb' μ2) (hm : behindInMarks op b = false)
    (hr : ∀ (G H : Hp) (x y : V) (Q : VK), Same G H → WV X.K G x wa → WV X.K G y wb' → (∀ v, WV X.K G v w → Q v H) → r x y H Q) : JE X ρ μ (.Compare a [op] [b] pos) w μ2 :=
  PE.imp (pe_cmpR ho ha hb hm) fun σ H Q ⟨G, S, q⟩ => ⟨G, S, fun x H1 G1 g1 m1 wx => ⟨G1, S.go g1 m1, fun y H2 G2 g2 m2 wy => hr G2 H2 x y Q g2.gs (wx.same g2.gx) wy fun v wv => q v H2 G2 (g1.trans g2) m2 wv⟩⟩
theorem jt_cmp {op : CmpOp} {r : R2} (ho : OpR X (compareOp op) r) (ha : JE X ρ μ a wa μ1) (hb : JE X ρ μ1 b wb' μ2) (hm : behindInMarks op b = false)
    (hr : ∀ (G H : Hp) (x y : V) (Q : VK), Same G H → WV X.K G x wa → WV X.K G y wb' → Q (.bl b1) H → r x y H Q) : JT X ρ μ (.Compare a [op] [b] pos) b1 μ2 :=
  PT.imp (pt_cmpR ho ha hb hm) fun σ H Q ⟨G, S, q⟩ => ⟨G, S, fun x H1 G1 g1 m1 wx => ⟨G1, S.go g1 m1, fun y H2 G2 g2 m2 wy => hr G2 H2 x y _ g2.gs (wx.same g2.gx) wy ⟨b1, rfl, q H2 G2 (g1.trans g2) m2⟩⟩⟩
theorem JE.cast {w' : W} (h : JE X ρ μ e w μ') (q : w = w') : JE X ρ μ e w' μ' := q ▸ h
theorem JT.cast (h : JT X ρ μ e b1 μ') (q : b1 = b2) : JT X ρ μ e b2 μ' := q ▸ h
end
end RB
namespace RB
open PySem PySem.Spec PyProof.Rows L2
section
variable {md : Md} {X : Cx} {N : List Str} {sc : Scope} {k : Nat} {ρ : Rho} {μ μ1 μ2 μ3 μ' : Mu} {w wa wb' : W} {a b c e : Expr} {es : List Expr} {pos p p2 : Pos} {d d2 : PyData} {ds : List PyData} {i j : Int} {b1 b2 : Bool}

theorem wv_int {K : PySem.W.Frag} {G : Hp} {v : V} (h : WV K G v (wi i)) : v = .int i := by cases (show Dp K G v (.int i) from h); rfl
theorem wv_bl {K : PySem.W.Frag} {G : Hp} {v : V} (h : WV K G v (wb b1)) : v = .bl b1 := by cases (show Dp K G v (.bool b1) from h); rfl
theorem wv_non {K : PySem.W.Frag} {G : Hp} {v : V} (h : WV K G v wn) : v = .non := by cases (show Dp K G v .none from h); rfl
theorem wv_str {K : PySem.W.Frag} {G : Hp} {v : V} {x : Str} (h : WV K G v (.dat (.str x))) : v = .str x := by cases (show Dp K G v (.str x) from h); rfl
theorem wv_tup {K : PySem.W.Frag} {G : Hp} {v : V} (h : WV K G v (.dat (.tuple ds))) : ∃ a xs, v = .ref a ∧ SqT K G a xs ∧ DpAll K G xs ds := by
  cases (show Dp K G v (.tuple ds) from h) with
  | tup h1 h2 => exact ⟨_, _, rfl, h1, h2⟩
theorem wv_lst {K : PySem.W.Frag} {G : Hp} {v : V} (h : WV K G v (.dat (.list ds))) : ∃ a xs, v = .ref a ∧ SqL K G a xs ∧ DpAll K G xs ds := by
  cases (show Dp K G v (.list ds) from h) with
  | lst h1 h2 => exact ⟨_, _, rfl, h1, h2⟩

/-! ### ints -/
theorem je_add (ha : JE X ρ μ a (wi i) μ1) (hb : JE X ρ μ1 b (wi j) μ2) : JE X ρ μ (.BinOp a .Add b pos) (wi (i + j)) μ2 :=
  je_op op_add ha hb fun G H x y Q _ hx hy q => ⟨i, j, wv_int hx, wv_int hy, q _ (Dp.int _)⟩
theorem je_sub (ha : JE X ρ μ a (wi i) μ1) (hb : JE X ρ μ1 b (wi j) μ2) : JE X ρ μ (.BinOp a .Sub b pos) (wi (i - j)) μ2 :=
  je_op op_sub ha hb fun G H x y Q _ hx hy q => ⟨i, j, wv_int hx, wv_int hy, q _ (Dp.int _)⟩
theorem je_mul (ha : JE X ρ μ a (wi i) μ1) (hb : JE X ρ μ1 b (wi j) μ2) (h : CMulX i j) : JE X ρ μ (.BinOp a .Mult b pos) (wi (i * j)) μ2 :=
  je_op op_mulX ha hb fun G H x y Q _ hx hy q => ⟨i, j, wv_int hx, wv_int hy, h, q _ (Dp.int _)⟩
theorem je_fdiv (ha : JE X ρ μ a (wi i) μ1) (hb : JE X ρ μ1 b (wi j) μ2) (h : CDivW i j) : JE X ρ μ (.BinOp a .FloorDiv b pos) (wi (i / j)) μ2 :=
  je_op op_fdivW ha hb fun G H x y Q _ hx hy q => ⟨i, j, wv_int hx, wv_int hy, h, q _ (Dp.int _)⟩
theorem je_mod (ha : JE X ρ μ a (wi i) μ1) (hb : JE X ρ μ1 b (wi j) μ2) (h : 0 < j) : JE X ρ μ (.BinOp a .Mod b pos) (wi (i % j)) μ2 :=
  je_op op_mod ha hb fun G H x y Q _ hx hy q => ⟨i, j, wv_int hx, wv_int hy, h, q _ (Dp.int _)⟩
def CPowX (i j : Int) : Prop := 0 ≤ j ∧ (Builtin.Int.intBits i : Int) * j ≤ 2 ^ 27
theorem op_powX : OpR X (binaryOp .Pow) (rI CPowX fun i j => .int (i ^ j.toNat)) := opI fun _ _ _ _ _ _ _ hc q => pow_int hc.1 hc.2 q
theorem je_pow (ha : JE X ρ μ a (wi i) μ1) (hb : JE X ρ μ1 b (wi j) μ2) (h : CPowX i j) : JE X ρ μ (.BinOp a .Pow b pos) (wi (i ^ j.toNat)) μ2 :=
  je_op op_powX ha hb fun G H x y Q _ hx hy q => ⟨i, j, wv_int hx, wv_int hy, h, q _ (Dp.int _)⟩
theorem je_neg (ha : JE X ρ μ a (wi i) μ1) : JE X ρ μ (.UnaryOp .USub a pos) (wi (-i)) μ1 :=
  PE.imp (pe_un un_neg ha) fun σ H Q ⟨G, S, q⟩ => ⟨G, S, fun x H1 G1 g1 m1 wx => ⟨i, wv_int wx, q _ H1 G1 g1 m1 (Dp.int _)⟩⟩

/-! ### comparisons: c_.. the rule's last part, for a value and for a test -/
theorem je_lt (ha : JE X ρ μ a (wi i) μ1) (hb : JE X ρ μ1 b (wi j) μ2) : JE X ρ μ (.Compare a [.Lt] [b] pos) (wb (decide (i < j))) μ2 :=
  je_cmp op_lt ha hb (nomark _) fun G H x y Q _ hx hy q => ⟨i, j, wv_int hx, wv_int hy, q _ (Dp.bl _)⟩
theorem je_le (ha : JE X ρ μ a (wi i) μ1) (hb : JE X ρ μ1 b (wi j) μ2) : JE X ρ μ (.Compare a [.LtE] [b] pos) (wb (decide (i ≤ j))) μ2 :=
  je_cmp op_le ha hb (nomark _) fun G H x y Q _ hx hy q => ⟨i, j, wv_int hx, wv_int hy, q _ (Dp.bl _)⟩
theorem je_gt (ha : JE X ρ μ a (wi i) μ1) (hb : JE X ρ μ1 b (wi j) μ2) : JE X ρ μ (.Compare a [.Gt] [b] pos) (wb (decide (j < i))) μ2 :=
  je_cmp op_gt ha hb (nomark _) fun G H x y Q _ hx hy q => ⟨i, j, wv_int hx, wv_int hy, q _ (Dp.bl _)⟩
theorem je_ge (ha : JE X ρ μ a (wi i) μ1) (hb : JE X ρ μ1 b (wi j) μ2) : JE X ρ μ (.Compare a [.GtE] [b] pos) (wb (decide (j ≤ i))) μ2 :=
  je_cmp op_ge ha hb (nomark _) fun G H x y Q _ hx hy q => ⟨i, j, wv_int hx, wv_int hy, q _ (Dp.bl _)⟩
theorem jt_lt (ha : JE X ρ μ a (wi i) μ1) (hb : JE X ρ μ1 b (wi j) μ2) : JT X ρ μ (.Compare a [.Lt] [b] pos) (decide (i < j)) μ2 :=
  jt_cmp op_lt ha hb (nomark _) fun G H x y Q _ hx hy q => ⟨i, j, wv_int hx, wv_int hy, q⟩
theorem jt_le (ha : JE X ρ μ a (wi i) μ1) (hb : JE X ρ μ1 b (wi j) μ2) : JT X ρ μ (.Compare a [.LtE] [b] pos) (decide (i ≤ j)) μ2 :=
  jt_cmp op_le ha hb (nomark _) fun G H x y Q _ hx hy q => ⟨i, j, wv_int hx, wv_int hy, q⟩
theorem jt_gt (ha : JE X ρ μ a (wi i) μ1) (hb : JE X ρ μ1 b (wi j) μ2) : JT X ρ μ (.Compare a [.Gt] [b] pos) (decide (j < i)) μ2 :=
  jt_cmp op_gt ha hb (nomark _) fun G H x y Q _ hx hy q => ⟨i, j, wv_int hx, wv_int hy, q⟩
theorem jt_ge (ha : JE X ρ μ a (wi i) μ1) (hb : JE X ρ μ1 b (wi j) μ2) : JT X ρ μ (.Compare a [.GtE] [b] pos) (decide (j ≤ i)) μ2 :=
  jt_cmp op_ge ha hb (nomark _) fun G H x y Q _ hx hy q => ⟨i, j, wv_int hx, wv_int hy, q⟩
theorem V_int_dec : decide (V.int i = V.int j) = decide (i = j) := by
  by_cases h : i = j
  · subst h; simp
  · rw [decide_eq_false h, decide_eq_false fun q => h (V.int.inj q)]
theorem V_bl_dec : decide (V.bl b1 = V.bl b2) = decide (b1 = b2) := by
  by_cases h : b1 = b2
  · subst h; simp
  · rw [decide_eq_false h, decide_eq_false fun q => h (V.bl.inj q)]
theorem je_eqi (ha : JE X ρ μ a (wi i) μ1) (hb : JE X ρ μ1 b (wi j) μ2) : JE X ρ μ (.Compare a [.Eq] [b] pos) (wb (decide (i = j))) μ2 :=
  je_cmp op_eq ha hb (nomark _) fun G H x y Q _ hx hy q => by rw [wv_int hx, wv_int hy]; exact ⟨rfl, q _ (by rw [V_int_dec]; exact Dp.bl _)⟩
theorem je_nei (ha : JE X ρ μ a (wi i) μ1) (hb : JE X ρ μ1 b (wi j) μ2) : JE X ρ μ (.Compare a [.NotEq] [b] pos) (wb (!decide (i = j))) μ2 :=
  je_cmp op_ne ha hb (nomark _) fun G H x y Q _ hx hy q => by rw [wv_int hx, wv_int hy]; exact ⟨rfl, q _ (by rw [V_int_dec]; exact Dp.bl _)⟩
theorem je_eqb (ha : JE X ρ μ a (wb b1) μ1) (hb : JE X ρ μ1 b (wb b2) μ2) : JE X ρ μ (.Compare a [.Eq] [b] pos) (wb (decide (b1 = b2))) μ2 :=
  je_cmp op_eq ha hb (nomark _) fun G H x y Q _ hx hy q => by rw [wv_bl hx, wv_bl hy]; exact ⟨rfl, q _ (by rw [V_bl_dec]; exact Dp.bl _)⟩
theorem je_neb (ha : JE X ρ μ a (wb b1) μ1) (hb : JE X ρ μ1 b (wb b2) μ2) : JE X ρ μ (.Compare a [.NotEq] [b] pos) (wb (!decide (b1 = b2))) μ2 :=
  je_cmp op_ne ha hb (nomark _) fun G H x y Q _ hx hy q => by rw [wv_bl hx, wv_bl hy]; exact ⟨rfl, q _ (by rw [V_bl_dec]; exact Dp.bl _)⟩
theorem jt_eqi (ha : JE X ρ μ a (wi i) μ1) (hb : JE X ρ μ1 b (wi j) μ2) : JT X ρ μ (.Compare a [.Eq] [b] pos) (decide (i = j)) μ2 :=
  jt_cmp op_eq ha hb (nomark _) fun G H x y Q _ hx hy q => by rw [wv_int hx, wv_int hy]; exact ⟨rfl, by rw [V_int_dec]; exact q⟩
theorem jt_nei (ha : JE X ρ μ a (wi i) μ1) (hb : JE X ρ μ1 b (wi j) μ2) : JT X ρ μ (.Compare a [.NotEq] [b] pos) (!decide (i = j)) μ2 :=
  jt_cmp op_ne ha hb (nomark _) fun G H x y Q _ hx hy q => by rw [wv_int hx, wv_int hy]; exact ⟨rfl, by rw [V_int_dec]; exact q⟩
theorem jt_neb (ha : JE X ρ μ a (wb b1) μ1) (hb : JE X ρ μ1 b (wb b2) μ2) : JT X ρ μ (.Compare a [.NotEq] [b] pos) (!decide (b1 = b2)) μ2 :=
  jt_cmp op_ne ha hb (nomark _) fun G H x y Q _ hx hy q => by rw [wv_bl hx, wv_bl hy]; exact ⟨rfl, by rw [V_bl_dec]; exact q⟩
/-- == of data of any depth -/
theorem hu64 (C : Fx md X N sc k) : X.A.units + 64 < cLine := Nat.lt_of_le_of_lt (by omega) C.room.un
theorem je_eqd (C : Fx md X N sc k) (ha : JE X ρ μ a (.dat d) μ1) (hb : JE X ρ μ1 b (.dat d2) μ2) (h1 : SeqAt.shaped d = true) (h2 : SeqAt.shaped d2 = true) : JE X ρ μ (.Compare a [.Eq] [b] pos) (wb (PyData.eqv d d2)) μ2 :=
  je_cmp (op_eqD (hu64 C)) ha hb (nomark _) fun G H x y Q gs hx hy q => ⟨d, d2, dp_same gs _ _ hx, dp_same gs _ _ hy, h1, h2, q _ (Dp.bl _)⟩
theorem je_ned (C : Fx md X N sc k) (ha : JE X ρ μ a (.dat d) μ1) (hb : JE X ρ μ1 b (.dat d2) μ2) (h1 : SeqAt.shaped d = true) (h2 : SeqAt.shaped d2 = true) : JE X ρ μ (.Compare a [.NotEq] [b] pos) (wb (!PyData.eqv d d2)) μ2 :=
  je_cmp (op_neD (hu64 C)) ha hb (nomark _) fun G H x y Q gs hx hy q => ⟨d, d2, dp_same gs _ _ hx, dp_same gs _ _ hy, h1, h2, q _ (Dp.bl _)⟩
theorem jt_eqd (C : Fx md X N sc k) (ha : JE X ρ μ a (.dat d) μ1) (hb : JE X ρ μ1 b (.dat d2) μ2) (h1 : SeqAt.shaped d = true) (h2 : SeqAt.shaped d2 = true) : JT X ρ μ (.Compare a [.Eq] [b] pos) (PyData.eqv d d2) μ2 :=
  jt_cmp (op_eqD (hu64 C)) ha hb (nomark _) fun G H x y Q gs hx hy q => ⟨d, d2, dp_same gs _ _ hx, dp_same gs _ _ hy, h1, h2, q⟩
theorem jt_ned (C : Fx md X N sc k) (ha : JE X ρ μ a (.dat d) μ1) (hb : JE X ρ μ1 b (.dat d2) μ2) (h1 : SeqAt.shaped d = true) (h2 : SeqAt.shaped d2 = true) : JT X ρ μ (.Compare a [.NotEq] [b] pos) (!PyData.eqv d d2) μ2 :=
  jt_cmp (op_neD (hu64 C)) ha hb (nomark _) fun G H x y Q gs hx hy q => ⟨d, d2, dp_same gs _ _ hx, dp_same gs _ _ hy, h1, h2, q⟩
/-- is None -/
def isNone : W → Bool
  | .dat .none => true
  | _ => false
theorem isNone_v {K : PySem.W.Frag} {G : Hp} {v : V} (h : WV K G v w) : decide (v = .non) = isNone w := by
  cases w with
  | loc a => rw [show v = .ref a from h]; rfl
  | dat d =>
    have h' : Dp K G v d := h
    cases h' <;> rfl
theorem je_isN {n : Nat} (ha : JE X ρ μ a w μ1) : JE X ρ μ (.Compare a [.Is] [.Constant .none n p] pos) (wb (isNone w)) μ1 :=
  je_cmp op_isN ha je_non (nomark _) fun G H x y Q _ hx hy q => ⟨wv_non hy, by rw [isNone_v hx]; exact q _ (Dp.bl _)⟩
theorem je_notN {n : Nat} (ha : JE X ρ μ a w μ1) : JE X ρ μ (.Compare a [.IsNot] [.Constant .none n p] pos) (wb (!isNone w)) μ1 :=
  je_cmp op_notN ha je_non (nomark _) fun G H x y Q _ hx hy q => ⟨wv_non hy, by rw [isNone_v hx]; exact q _ (Dp.bl _)⟩
theorem jt_isN {n : Nat} (ha : JE X ρ μ a w μ1) : JT X ρ μ (.Compare a [.Is] [.Constant .none n p] pos) (isNone w) μ1 :=
  jt_cmp op_isN ha je_non (nomark _) fun G H x y Q _ hx hy q => ⟨wv_non hy, by rw [isNone_v hx]; exact q⟩
theorem jt_notN {n : Nat} (ha : JE X ρ μ a w μ1) : JT X ρ μ (.Compare a [.IsNot] [.Constant .none n p] pos) (!isNone w) μ1 :=
  jt_cmp op_notN ha je_non (nomark _) fun G H x y Q _ hx hy q => ⟨wv_non hy, by rw [isNone_v hx]; exact q⟩

/-! ### truth -/
/-- a bool -/
theorem jt_b (ha : JE X ρ μ a (wb b1) μ1) (he : ∀ whole, isTrue a X.env whole = (do let v ← whole; standAt a.pos; holding [v] (truthy v)) := by intro _; rfl) : JT X ρ μ a b1 μ1 :=
  PT.imp (pt_truth ha he) fun σ H Q ⟨G, S, q⟩ => ⟨G, S, fun x H1 G1 g1 m1 wx => ⟨b1, by rw [wv_bl wx]; rfl, q H1 G1 g1 m1⟩⟩
theorem jt_i (ha : JE X ρ μ a (wi i) μ1) (he : ∀ whole, isTrue a X.env whole = (do let v ← whole; standAt a.pos; holding [v] (truthy v)) := by intro _; rfl) : JT X ρ μ a (i != 0) μ1 :=
  PT.imp (pt_truth ha he) fun σ H Q ⟨G, S, q⟩ => ⟨G, S, fun x H1 G1 g1 m1 wx => ⟨_, by rw [wv_int wx]; rfl, q H1 G1 g1 m1⟩⟩
theorem isEmpty_all {K : PySem.W.Frag} {G : Hp} {xs : List V} (h : DpAll K G xs ds) : xs.isEmpty = ds.isEmpty := by cases h <;> rfl
theorem jt_l (ha : JE X ρ μ a (.dat (.list ds)) μ1) (he : ∀ whole, isTrue a X.env whole = (do let v ← whole; standAt a.pos; holding [v] (truthy v)) := by intro _; rfl) : JT X ρ μ a (!ds.isEmpty) μ1 :=
  PT.imp (pt_truth ha he) fun σ H Q ⟨G, S, q⟩ => ⟨G, S, fun x H1 G1 g1 m1 wx => by
    obtain ⟨l, xs, rfl, hs, hd⟩ := wv_lst wx
    exact ⟨_, .inl ⟨xs, g1.gs.seq hs, by rw [isEmpty_all hd]⟩, q H1 G1 g1 m1⟩⟩
/-- an owned list -/
theorem jt_loc {l : Addr} {n : Nat} (ha : JE X ρ μ a (.loc l) μ1) (hl : μ1[n]? = some (l, OD.l ds)) (he : ∀ whole, isTrue a X.env whole = (do let v ← whole; standAt a.pos; holding [v] (truthy v)) := by intro _; rfl) : JT X ρ μ a (!ds.isEmpty) μ1 :=
  PT.imp (pt_truth ha he) fun σ H Q ⟨G, S, q⟩ => ⟨G, S, fun x H1 G1 g1 m1 wx => by
    cases (show x = .ref l from wx)
    obtain ⟨_, _, hx, xs, rfl, hd⟩ := m1.on n l _ hl
    exact ⟨_, .inl ⟨xs, SqL.of hx, by rw [isEmpty_all hd]⟩, q H1 G1 g1 m1⟩⟩
theorem jt_not (ha : JT X ρ μ a b1 μ1) : JT X ρ μ (.UnaryOp .Not a pos) (!b1) μ1 :=
  PT.imp (pt_not ha) fun σ H Q ⟨G, S, q⟩ => ⟨G, S, fun H1 G1 g1 m1 => q H1 G1 g1 m1⟩
theorem je_not (ha : JE X ρ μ a (wb b1) μ1) : JE X ρ μ (.UnaryOp .Not a pos) (wb (!b1)) μ1 :=
  PE.imp (pe_not ha) fun σ H Q ⟨G, S, q⟩ => ⟨G, S, fun x H1 G1 g1 m1 wx => ⟨b1, wv_bl wx, q _ H1 G1 g1 m1 (Dp.bl _)⟩⟩
theorem jw_and1 (ha : JT X ρ μ a b1 μ1) : JW X ρ μ (.BoolOp .And [a] pos) b1 μ1 := pw_and1 ha
theorem jw_or1 (ha : JT X ρ μ a b1 μ1) : JW X ρ μ (.BoolOp .Or [a] pos) b1 μ1 := pw_or1 ha
theorem jw_and {rest : List Expr} (ha : JT X ρ μ a b1 μ1) (hb : b1 = true → JW X ρ μ1 (.BoolOp .And (b :: rest) pos) b2 μ1) : JW X ρ μ (.BoolOp .And (a :: b :: rest) pos) (b1 && b2) μ1 := by
  refine PW.imp (pw_and ha (tB' := fun σ H Q => b1 = true ∧ rdT X.K ρ μ1 b2 μ1 σ H Q) ⟨fun wh pins s σ H Q I q => (hb q.1).run wh pins s σ H Q I q.2⟩) fun σ H Q ⟨G, S, q⟩ => ⟨G, S, fun H1 G1 g1 m1 => ?_⟩
  cases b1 with
  | true =>
    rw [if_pos rfl]
    exact ⟨rfl, G1, S.go g1 m1, fun H2 G2 g2 m2 => q H2 G2 (g1.trans g2) m2⟩
  | false =>
    rw [if_neg Bool.false_ne_true]
    exact q H1 G1 g1 m1
theorem jw_or {rest : List Expr} (ha : JT X ρ μ a b1 μ1) (hb : b1 = false → JW X ρ μ1 (.BoolOp .Or (b :: rest) pos) b2 μ1) : JW X ρ μ (.BoolOp .Or (a :: b :: rest) pos) (b1 || b2) μ1 := by
  refine PW.imp (pw_or ha (tB' := fun σ H Q => b1 = false ∧ rdT X.K ρ μ1 b2 μ1 σ H Q) ⟨fun wh pins s σ H Q I q => (hb q.1).run wh pins s σ H Q I q.2⟩) fun σ H Q ⟨G, S, q⟩ => ⟨G, S, fun H1 G1 g1 m1 => ?_⟩
  cases b1 with
  | true =>
    rw [if_pos rfl]
    exact q H1 G1 g1 m1
  | false =>
    rw [if_neg Bool.false_ne_true]
    exact ⟨rfl, G1, S.go g1 m1, fun H2 G2 g2 m2 => q H2 G2 (g1.trans g2) m2⟩
theorem JW.t (h : JW X ρ μ e b1 μ1) : JT X ρ μ e b1 μ1 := h.pt
theorem je_one {op : BoolOp} (ha : JE X ρ μ a w μ1) : JE X ρ μ (.BoolOp op [a] pos) w μ1 := pe_one ha
theorem je_and {rest : List Expr} (ha : JE X ρ μ a (wb b1) μ1) (hb : b1 = true → JE X ρ μ1 (.BoolOp .And (b :: rest) pos) (wb b2) μ1) : JE X ρ μ (.BoolOp .And (a :: b :: rest) pos) (wb (b1 && b2)) μ1 := by
  refine PE.imp (pe_and ha (tb := fun σ H Q => b1 = true ∧ rdE X.K ρ μ1 (wb b2) μ1 σ H Q) ⟨fun pins s σ H Q I q => (hb q.1).run pins s σ H Q I q.2⟩) fun σ H Q ⟨G, S, q⟩ => ⟨G, S, fun x H1 G1 g1 m1 wx => ⟨b1, wv_bl wx, ?_⟩⟩
  cases b1 with
  | true =>
    rw [if_pos rfl]
    exact ⟨rfl, G1, S.go g1 m1, fun v H2 G2 g2 m2 wv => q v H2 G2 (g1.trans g2) m2 wv⟩
  | false =>
    rw [if_neg Bool.false_ne_true]
    exact q _ H1 G1 g1 m1 (Dp.bl _)
theorem je_or {rest : List Expr} (ha : JE X ρ μ a (wb b1) μ1) (hb : b1 = false → JE X ρ μ1 (.BoolOp .Or (b :: rest) pos) (wb b2) μ1) : JE X ρ μ (.BoolOp .Or (a :: b :: rest) pos) (wb (b1 || b2)) μ1 := by
  refine PE.imp (pe_or ha (tb := fun σ H Q => b1 = false ∧ rdE X.K ρ μ1 (wb b2) μ1 σ H Q) ⟨fun pins s σ H Q I q => (hb q.1).run pins s σ H Q I q.2⟩) fun σ H Q ⟨G, S, q⟩ => ⟨G, S, fun x H1 G1 g1 m1 wx => ⟨b1, wv_bl wx, ?_⟩⟩
  cases b1 with
  | true =>
    rw [if_pos rfl]
    exact q _ H1 G1 g1 m1 (Dp.bl _)
  | false =>
    rw [if_neg Bool.false_ne_true]
    exact ⟨rfl, G1, S.go g1 m1, fun v H2 G2 g2 m2 wv => q v H2 G2 (g1.trans g2) m2 wv⟩
theorem je_ite (hc : JT X ρ μ c b1 μ1) (ha : b1 = true → JE X ρ μ1 a w μ2) (hb : b1 = false → JE X ρ μ1 b w μ2) : JE X ρ μ (.IfExp c a b pos) w μ2 := by
  refine PE.imp (pe_ifExp hc (ta := fun σ H Q => b1 = true ∧ rdE X.K ρ μ1 w μ2 σ H Q) (tb := fun σ H Q => b1 = false ∧ rdE X.K ρ μ1 w μ2 σ H Q) ⟨fun pins s σ H Q I q => (ha q.1).run pins s σ H Q I q.2⟩ ⟨fun pins s σ H Q I q => (hb q.1).run pins s σ H Q I q.2⟩) fun σ H Q ⟨G, S, q⟩ => ⟨G, S, fun H1 G1 g1 m1 => ?_⟩
  cases b1 with
  | true =>
    rw [if_pos rfl]
    exact ⟨rfl, G1, S.go g1 m1, fun v H2 G2 g2 m2 wv => q v H2 G2 (g1.trans g2) m2 wv⟩
  | false =>
    rw [if_neg Bool.false_ne_true]
    exact ⟨rfl, G1, S.go g1 m1, fun v H2 G2 g2 m2 wv => q v H2 G2 (g1.trans g2) m2 wv⟩

/-! ### arguments, displays -/
theorem ja_nil : JA X ρ μ [] [] μ := PA.imp pa_nil fun σ H Q ⟨G, S, q⟩ => q [] H G (Go.refl S.gh) S.mu .nil
theorem ja_cons {ws : List W} (he : JE X ρ μ e w μ1) (hr : JA X ρ μ1 es ws μ2) (hs : starEach (e :: es) X.env = (false, eval e X.env) :: starEach es X.env := by rfl) : JA X ρ μ (e :: es) (w :: ws) μ2 :=
  PA.imp (pa_cons he hr hs) fun σ H Q ⟨G, S, q⟩ => ⟨G, S, fun x H1 G1 g1 m1 wx => ⟨G1, S.go g1 m1, fun vs H2 G2 g2 m2 wvs => q (x :: vs) H2 G2 (g1.trans g2) m2 (.cons (wx.same g2.gx) wvs)⟩⟩
theorem jd_nil : JD X ρ μ [] [] μ := ja_nil
theorem jd_cons (he : JE X ρ μ e (.dat d) μ1) (hr : JD X ρ μ1 es ds μ2) (hs : starEach (e :: es) X.env = (false, eval e X.env) :: starEach es X.env := by rfl) : JD X ρ μ (e :: es) (d :: ds) μ2 := ja_cons he hr hs
theorem sz3 {n : Nat} (h : n ≤ 100000) : n ≤ sizeLine := Nat.le_trans h (by decide)
theorem sz3l {n : Nat} (h : n < 100000) : n < sizeLine := Nat.lt_of_lt_of_le h (by decide)
theorem je_tup {n : Nat} (ha : JD X ρ μ es ds μ1) (h : ds.length ≤ 100000 := by exact of_decide_eq_true rfl) : JE X ρ μ (.Tuple es n pos) (.dat (.tuple ds)) μ1 :=
  PE.imp (pe_tup ha) fun σ H Q ⟨G, S, q⟩ => ⟨G, S, fun vs H1 G1 g1 m1 wv => by
    have hd := wvs_dat wv
    refine ⟨by rw [dpAll_len hd]; exact sz3 h, fun t ht => ?_⟩
    obtain ⟨g2, m2⟩ := Go.lay (K := X.K) (o := .tup vs) g1.gs m1 ht
    exact q _ _ _ (g1.trans g2) m2 (Dp.tup (SqT.of upd_same) (dpAll_same g2.gx _ _ hd))⟩
/-- a fresh list, owned -/
theorem jl_lst (ha : JD X ρ μ es ds μ1) (h : ds.length ≤ 100000 := by exact of_decide_eq_true rfl) : JL X ρ μ (.List es pos) ds μ1 :=
  PE.imp (pe_lst ha) fun σ H Q ⟨G, S, q⟩ => ⟨G, S, fun vs H1 G1 g1 m1 wv => by
    have hd := wvs_dat wv
    refine ⟨by rw [dpAll_len hd]; exact sz3 h, fun t ht => ?_⟩
    have gt : G1 t = none := g1.gs.free ht
    have tm : t ∉ μ1.map (·.1) := fun z => by
      obtain ⟨⟨a, es'⟩, h1, h2⟩ := List.mem_map.mp z
      obtain ⟨n, h3⟩ := List.getElem?_of_mem h1
      obtain ⟨_, xs, h4, _⟩ := m1.on n a es' h3
      rw [show a = t from h2, ht] at h4
      cases h4
    refine q t vs _ G1 (g1.trans ⟨fun b o eb _ => by rw [upd_ne (ne_of_none eb ht)]; exact eb, fun _ _ z => z, fun b u eb => by rw [upd_ne (ne_of_none eb gt)]; exact g1.gs _ _ eb, fun _ _ z => .inl z, fun _ z => .inl z, fun b eb => ?_⟩) ⟨fun n b es' eb => ?_, m1.nd⟩ (g1.al t ht) gt tm upd_same hd
    · by_cases hb : b = t
      · subst hb; exact ht
      · rw [upd_ne hb] at eb; exact eb
    · obtain ⟨h1, xs, h2, h3⟩ := m1.on n b es' eb
      exact ⟨h1, xs, by rw [upd_ne (ne_of_none h2 ht)]; exact h2, h3⟩⟩
/-- .. known for ever -/
theorem JL.je (h : JL X ρ μ e ds μ1) : JE X ρ μ e (.dat (.list ds)) μ1 :=
  PE.imp h fun σ H Q ⟨G, S, q⟩ => ⟨G, S, fun t xs H1 G1 g1 m1 h0 gt tm ht hd => by
    have gx : Same G1 (upd G1 t (.lst xs)) := fun b u eb => by rw [upd_ne (ne_of_none eb gt)]; exact eb
    refine q _ H1 (upd G1 t (.lst xs)) ⟨g1.fr, g1.gx.trans gx, fun b u eb => ?_, fun b u eb => ?_, g1.dm, g1.al⟩ ⟨fun n b es' eb => ?_, m1.nd⟩ (Dp.lst (SqL.of upd_same) (dpAll_same gx _ _ hd))
    · by_cases hb : b = t
      · subst hb; rw [upd_same] at eb; cases eb; exact ht
      · rw [upd_ne hb] at eb; exact g1.gs _ _ eb
    · by_cases hb : b = t
      · subst hb; exact .inr (.inl h0)
      · rw [upd_ne hb] at eb; exact g1.nw _ _ eb
    · obtain ⟨h1, xs', h2, h3⟩ := m1.on n b es' eb
      have hbt : b ≠ t := fun z => tm (by rw [← z]; exact List.mem_map.mpr ⟨(b, es'), List.mem_of_getElem? eb, rfl⟩)
      exact ⟨by rw [upd_ne hbt]; exact h1, xs', h2, OOk.same gx h3⟩⟩
theorem je_lst (ha : JD X ρ μ es ds μ1) (h : ds.length ≤ 100000 := by exact of_decide_eq_true rfl) : JE X ρ μ (.List es pos) (.dat (.list ds)) μ1 := (jl_lst ha h).je

/-! ### items, slices, len -/
theorem ixN_all {n m : Nat} (h : n = m) : ixN n = ixN m := by rw [h]
theorem dpAll_at {K : PySem.W.Frag} {G : Hp} {xs : List V} (h : DpAll K G xs ds) (e : atI ds i = some d) : ∃ v, atI xs i = some v ∧ Dp K G v d := by
  unfold atI at e ⊢
  rw [dpAll_len h]
  cases q : ixN ds.length i with
  | none => rw [q] at e; cases e
  | some m =>
    rw [q] at e
    exact dpAll_get h e
theorem je_ix (hx : PlainIx b) (ha : JE X ρ μ a (.dat (.tuple ds)) μ1) (hb : JE X ρ μ1 b (wi i) μ2) (e : atI ds i = some d) : JE X ρ μ (.Subscript a b pos) (.dat d) μ2 :=
  PE.imp (pe_ix ix_tup ha hb hx) fun σ H Q ⟨G, S, q⟩ => ⟨G, S, fun x H1 G1 g1 m1 wx => ⟨G1, S.go g1 m1, fun y H2 G2 g2 m2 wy => by
    obtain ⟨l, xs, rfl, hs, hd⟩ := wv_tup wx
    obtain ⟨v, h1, h2⟩ := dpAll_at hd e
    exact ⟨l, xs, i, v, rfl, wv_int wy, seqT (g2.gx.trans g2.gs) hs, h1, q v H2 G2 (g1.trans g2) m2 (dp_same g2.gx _ _ h2)⟩⟩⟩
theorem je_ixl (hx : PlainIx b) (ha : JE X ρ μ a (.dat (.list ds)) μ1) (hb : JE X ρ μ1 b (wi i) μ2) (e : atI ds i = some d) : JE X ρ μ (.Subscript a b pos) (.dat d) μ2 :=
  PE.imp (pe_ix ix_list ha hb hx) fun σ H Q ⟨G, S, q⟩ => ⟨G, S, fun x H1 G1 g1 m1 wx => ⟨G1, S.go g1 m1, fun y H2 G2 g2 m2 wy => by
    obtain ⟨l, xs, rfl, hs, hd⟩ := wv_lst wx
    obtain ⟨v, h1, h2⟩ := dpAll_at hd e
    exact ⟨l, xs, i, v, rfl, wv_int wy, (g2.gx.trans g2.gs).seq hs, h1, q v H2 G2 (g1.trans g2) m2 (dp_same g2.gx _ _ h2)⟩⟩⟩
theorem je_ixloc {l : Addr} {n : Nat} (hx : PlainIx b) (ha : JE X ρ μ a (.loc l) μ1) (hb : JE X ρ μ1 b (wi i) μ2) (hl : μ2[n]? = some (l, OD.l ds)) (e : atI ds i = some d) : JE X ρ μ (.Subscript a b pos) (.dat d) μ2 :=
  PE.imp (pe_ix ix_list ha hb hx) fun σ H Q ⟨G, S, q⟩ => ⟨G, S, fun x H1 G1 g1 m1 wx => ⟨G1, S.go g1 m1, fun y H2 G2 g2 m2 wy => by
    cases (show x = .ref l from wx)
    obtain ⟨_, _, h2, xs, rfl, hd⟩ := m2.on n l _ hl
    obtain ⟨v, h3, h4⟩ := dpAll_at hd e
    exact ⟨l, xs, i, v, rfl, wv_int wy, SqL.of h2, h3, q v H2 G2 (g1.trans g2) m2 h4⟩⟩⟩
def rdO (K : PySem.W.Frag) (ρ : Rho) (μ : Mu) (o : Option Int) (μ' : Mu) : TO := fun σ H Q => ∃ G, StOk K σ H G ρ μ ∧ ∀ H' G', Go H G μ H' G' μ' → MuOk K H' G' μ' → Q o H'
def JO (X : Cx) (ρ : Rho) (μ : Mu) (e : Option Expr) (o : Option Int) (μ' : Mu) : Prop := PO X e (rdO X.K ρ μ o μ')
theorem PO.imp {e : Option Expr} {t t' : TO} (h : PO X e t) (i : ∀ σ H Q, t' σ H Q → t σ H Q) : PO X e t' := ⟨fun pins s σ H Q I q => h.run pins s σ H Q I (i _ _ _ q)⟩
theorem jo_none : JO X ρ μ none none μ := PO.imp po_none fun σ H Q ⟨G, S, q⟩ => q H G (Go.refl S.gh) S.mu
theorem jo_some (h : JE X ρ μ e (wi i) μ1) : JO X ρ μ (some e) (some i) μ1 := PO.imp (po_some h) fun σ H Q ⟨G, S, q⟩ => ⟨G, S, fun v H1 G1 g1 m1 wv => ⟨i, wv_int wv, q H1 G1 g1 m1⟩⟩
theorem je_slS {x : Str} {lo hi : Option Expr} {l h : Option Int} (ha : JE X ρ μ a (.dat (.str x)) μ1) (h1 : JO X ρ μ1 lo l μ2) (h2 : JO X ρ μ2 hi h μ3) (hz : x.length ≤ 100000) : JE X ρ μ (.Subscript a (.Slice lo hi none p2) pos) (.dat (.str (cutS x l h))) μ3 :=
  PE.imp (pe_slice sl_str ha h1 h2) fun σ H Q ⟨G, S, q⟩ => ⟨G, S, fun v H1 G1 g1 m1 wv => ⟨G1, S.go g1 m1, fun H2 G2 g2 m2 => ⟨G2, (S.go g1 m1).go g2 m2, fun H3 G3 g3 m3 =>
    ⟨x, wv_str wv, sz3 hz, q _ H3 G3 ((g1.trans g2).trans g3) m3 (Dp.str _)⟩⟩⟩⟩
end
end RB
namespace RB
open PySem PySem.Spec PyProof.Rows L2
/-! ### statements -/
def Kn (X : Cx) (rest : List Stmt) (Φ : Out → Prop) : Out → Prop
  | .nx ρ μ => JSs X ρ μ rest Φ
  | o => Φ o
section
variable {md : Md} {X : Cx} {N : List Str} {sc : Scope} {k : Nat} {ρ ρ1 : Rho} {μ μ1 μ2 μ3 μ' : Mu} {w wa wb' : W} {a b c e : Expr} {es : List Expr} {pos p p2 : Pos} {d d2 : PyData} {ds : List PyData} {i j : Int} {b1 b2 : Bool} {Φ Φ' : Out → Prop} {st : Stmt} {rest body els : List Stmt}
theorem jss_nil (h : Φ (.nx ρ μ)) : JSs X ρ μ [] Φ := fun Wx tk => PSs.imp pss_nil fun D σ H ⟨G, S, Wn⟩ => Wn.nx _ _ _ _ _ h (Go.refl S.gh) S
theorem jss_cons (h : JS X ρ μ st (Kn X rest Φ)) : JSs X ρ μ (st :: rest) Φ :=
  fun Wx tk => PSs.imp (pss_cons (h Wx tk) (u := fun D σ H => ∃ ρ1 μ1, JSs X ρ1 μ1 rest Φ ∧ rdS X.K Wx ρ1 μ1 Φ D σ H) ⟨fun pins s σ H D I ⟨_, _, j, r⟩ => (j Wx tk).run pins s σ H D I r⟩) fun D σ H ⟨G, S, Wn⟩ =>
    ⟨G, S, ⟨fun ρ' μ' σ' H' G' φ g s => ⟨ρ', μ', φ, G', s, Wn.go g⟩, fun w μ' v H' G' φ g m wv => Wn.rt w μ' v H' G' φ g m wv, fun ds μ' p xs H' G' φ g m h0 h1 h2 h3 h4 => Wn.rl ds μ' p xs H' G' φ g m h0 h1 h2 h3 h4, fun ρ' μ' σ' H' G' φ g s => Wn.bk ρ' μ' σ' H' G' φ g s, fun ρ' μ' σ' H' G' φ g s => Wn.ct ρ' μ' σ' H' G' φ g s, fun c ρ' μ' σ' H' G' φ g s => Wn.ex c ρ' μ' σ' H' G' φ g s⟩⟩
theorem JSs.imp (h : JSs X ρ μ body Φ) (i : ∀ o, Φ o → Φ' o) : JSs X ρ μ body Φ' :=
  fun Wx tk => PSs.imp (h Wx tk) fun D σ H ⟨G, S, Wn⟩ => ⟨G, S, ⟨fun _ _ _ _ _ φ g s => Wn.nx _ _ _ _ _ (i _ φ) g s, fun _ _ _ _ _ φ g m wv => Wn.rt _ _ _ _ _ (i _ φ) g m wv, fun _ _ _ _ _ _ φ g m h0 h1 h2 h3 h4 => Wn.rl _ _ _ _ _ _ (i _ φ) g m h0 h1 h2 h3 h4, fun _ _ _ _ _ φ g s => Wn.bk _ _ _ _ _ (i _ φ) g s, fun _ _ _ _ _ φ g s => Wn.ct _ _ _ _ _ (i _ φ) g s, fun _ _ _ _ _ _ φ g s => Wn.ex _ _ _ _ _ _ (i _ φ) g s⟩⟩
theorem js_ret (h : JE X ρ μ e w μ1) (f : Φ (.rt w μ1)) : JS X ρ μ (.Return (some e) pos) Φ :=
  fun Wx tk => PS.imp (ps_ret h) fun D σ H ⟨G, S, Wn⟩ => ⟨G, S, fun v H' G' g m wv => Wn.rt _ _ v H' G' f g m wv⟩
theorem js_retN (f : Φ (.rt wn μ)) : JS X ρ μ (.Return none pos) Φ :=
  fun Wx tk => PS.imp ps_retN fun D σ H ⟨G, S, Wn⟩ => Wn.rt _ _ _ H G f (Go.refl S.gh) S.mu Dp.non
theorem js_asg (C : Fb md X N sc k) (n : Nat) {x : Str} (h : JE X ρ μ e w μ1) (f : Φ (.nx (ρ.set n (some w)) μ1)) (hN : N[n]? = some x := by rfl) (hv : Loc sc x := by first | exact Or.inl rfl | exact Or.inr rfl)
    (hs : swapsWithSole [Expr.Name x p] e pos.line X.env = pure false := by rfl) (hw : swappedStores [Expr.Name x p] e X.env = pure none := by rfl) (h1 : (assignEach [Expr.Name x p] X.env).map (·.2) = [assign (Expr.Name x p) X.env] := by rfl) :
    JS X ρ μ (.Assign [.Name x p] e pos) Φ := by
  have hl : Loc X.env.scope x := by rw [C.s]; exact hv
  have hf : X.fn x = true ∨ X.env.scope.names.lookup x = some .local := by
    rcases hv with hv | hv
    · exact .inr (by rw [C.s]; exact hv)
    · exact .inl (C.fn x)
  exact fun Wx tk => PS.imp (ps_asg h (pg_name (i := n) (by rw [C.n]; exact C.nd) (by rw [C.n]; exact hN) hl hf) hs hw h1) fun D σ H ⟨G, S, Wn⟩ =>
    ⟨G, S, fun v H1 G1 g1 m1 wv => Wn.nx _ _ _ _ _ f g1 ((S.go g1 m1).set n wv)⟩
/-- x = [..], the list owned -/
theorem js_asgL (C : Fb md X N sc k) (n : Nat) {x : Str} (h : JL X ρ μ e ds μ1) (f : ∀ l, Φ (.nx (ρ.set n (some (.loc l))) ((l, OD.l ds) :: μ1))) (hN : N[n]? = some x := by rfl) (hv : Loc sc x := by first | exact Or.inl rfl | exact Or.inr rfl)
    (hs : swapsWithSole [Expr.Name x p] e pos.line X.env = pure false := by rfl) (hw : swappedStores [Expr.Name x p] e X.env = pure none := by rfl) (h1 : (assignEach [Expr.Name x p] X.env).map (·.2) = [assign (Expr.Name x p) X.env] := by rfl) :
    JS X ρ μ (.Assign [.Name x p] e pos) Φ := by
  have hl : Loc X.env.scope x := by rw [C.s]; exact hv
  have hf : X.fn x = true ∨ X.env.scope.names.lookup x = some .local := by
    rcases hv with hv | hv
    · exact .inr (by rw [C.s]; exact hv)
    · exact .inl (C.fn x)
  exact fun Wx tk => PS.imp (ps_asg h (pg_name (i := n) (by rw [C.n]; exact C.nd) (by rw [C.n]; exact hN) hl hf) hs hw h1) fun D σ H ⟨G, S, Wn⟩ =>
    ⟨G, S, fun l xs H1 G1 g1 m1 h0 gl lm hl hd => by
      have m2 : MuOk X.K H1 G1 ((l, OD.l ds) :: μ1) := ⟨fun n a es e => by
        cases n with
        | zero => cases e; exact ⟨gl, _, hl, xs, rfl, hd⟩
        | succ n => exact m1.on n a es e, by
        rw [List.map_cons]
        exact List.nodup_cons.mpr ⟨lm, m1.nd⟩⟩
      have g2 : Go H G μ H1 G1 ((l, OD.l ds) :: μ1) := ⟨g1.fr, g1.gx, g1.gs, g1.nw, fun a h => by
        rw [List.map_cons] at h
        rcases List.mem_cons.mp h with h | h
        · rw [h]; exact .inr h0
        · exact g1.dm a h, g1.al⟩
      exact Wn.nx _ _ _ _ _ (f l) g2 ((S.go g2 m2).set n (show WV X.K G1 (.ref l) (.loc l) from rfl))⟩
theorem js_expr (h : JE X ρ μ e w μ1) (f : Φ (.nx ρ μ1)) (hd : swapsWith e none pos.line X.env = pure false := by rfl) : JS X ρ μ (.Expr e pos) Φ :=
  fun Wx tk => PS.imp (ps_expr h hd) fun D σ H ⟨G, S, Wn⟩ => ⟨G, S, fun v H' G' g m wv => Wn.nx _ _ _ H' G' f g (S.go g m)⟩
theorem js_if (h : JT X ρ μ c b1 μ1) (h1 : b1 = true → JSs X ρ μ1 body Φ) (h2 : b1 = false → JSs X ρ μ1 els Φ) : JS X ρ μ (.If c body els pos) Φ :=
  fun Wx tk => PS.imp (ps_if h (t := fun D σ H => b1 = true ∧ rdS X.K Wx ρ μ1 Φ D σ H) (u := fun D σ H => b1 = false ∧ rdS X.K Wx ρ μ1 Φ D σ H) ⟨fun pins s σ H D I q => (h1 q.1 Wx tk).run pins s σ H D I q.2⟩ ⟨fun pins s σ H D I q => (h2 q.1 Wx tk).run pins s σ H D I q.2⟩) fun D σ H ⟨G, S, Wn⟩ => ⟨G, S, fun H' G' g m => by
    cases b1 with
    | true => rw [if_pos rfl]; exact ⟨rfl, G', S.go g m, Wn.go g⟩
    | false => rw [if_neg Bool.false_ne_true]; exact ⟨rfl, G', S.go g m, Wn.go g⟩⟩
theorem JSs.muNx (h : JSs X ρ μ body Φ) : JSs X ρ μ body Φ := h
/-- an owned list is owned no more -/
theorem jss_drop {n : Nat} (h : JSs X ρ (μ.drop n) body Φ) : JSs X ρ μ body Φ :=
  fun Wx tk => PSs.imp (h Wx tk) fun D σ H ⟨G, S, Wn⟩ => by
    have e : ∀ (m : Nat) a es, (μ.drop n)[m]? = some (a, es) → μ[n + m]? = some (a, es) := fun m a es e => by rw [List.getElem?_drop] at e; exact e
    have m2 : MuOk X.K H G (μ.drop n) := ⟨fun m a es q => S.mu.on _ a es (e m a es q), by rw [List.map_drop]; exact List.Nodup.sublist (List.drop_sublist _ _) S.mu.nd⟩
    have g : Go H G μ H G (μ.drop n) := ⟨fun _ _ e _ => e, fun _ _ e => e, S.gh, fun _ _ e => .inl e, fun a h => .inl (by rw [List.map_drop] at h; exact List.mem_of_mem_drop h), fun _ h => h⟩
    exact ⟨G, S.go g m2, Wn.go g⟩

/-! ### calls -/
def SpW (K : PySem.W.Frag) (R : List W → Mu → W → Mu → Prop) : Sp := fun vs H Q _ => ∃ G μ ws w μ', Same G H ∧ MuOk K H G μ ∧ WVs K G vs ws ∧ R ws μ w μ' ∧ ∀ v H' G', Go H G μ H' G' μ' → MuOk K H' G' μ' → WV K G' v w → Q v H'
/-- .. or that raises -/
def SpX (K : PySem.W.Frag) (R : List W → Mu → W → Mu → Prop) (RE : List W → Mu → Value → Mu → Prop) : Sp := fun vs H Q E => SpW K R vs H Q E ∨ ∃ G μ ws c μ', Same G H ∧ MuOk K H G μ ∧ WVs K G vs ws ∧ RE ws μ c μ' ∧ ∀ H' G', Go H G μ H' G' μ' → MuOk K H' G' μ' → E c none H'
def noX : List W → Mu → Value → Mu → Prop := fun _ _ _ _ => False
def FnM (md : Md) (P : Program) (w : World) (K : PySem.W.Frag) (mg : Str → Option Value) (base : Heap) (k : Nat) (f : Addr) (fd : FuncData) (ps : List Str) (sp : Sp) : Prop :=
  match md with
  | .calm => FnOk P w K mg base (L2N.CX P w) k f fd ps sp
  | .hot => L2H.FnH P w K mg base (L2.CX P w) k f fd ps sp
  | .cold => False
structure CalG (md : Md) (P : Program) (w : World) (K : PySem.W.Frag) (mg : Str → Option Value) (base : Heap) (k : Nat) (x : Str) (R : List W → Mu → W → Mu → Prop) (RE : List W → Mu → Value → Mu → Prop) : Prop where
  ex : ∃ (f : Addr) (fd : FuncData) (ps : List Str), FnM md P w K mg base k f fd ps (SpX K R RE) ∧ mg x = some (.ref f) ∧ PySem.W.keepIn K (.ref f) = true ∧ Binds K fd ps []
abbrev CalW (P : Program) (w : World) (K : PySem.W.Frag) (mg : Str → Option Value) (base : Heap) (k : Nat) (x : Str) (R : List W → Mu → W → Mu → Prop) : Prop := CalG .calm P w K mg base k x R noX
abbrev CalGX (md : Md) (X : Cx) (k : Nat) (x : Str) (R : List W → Mu → W → Mu → Prop) (RE : List W → Mu → Value → Mu → Prop) : Prop := CalG md X.prog X.w X.K X.mg X.base k x R RE
abbrev CalX (X : Cx) (k : Nat) (x : Str) (R : List W → Mu → W → Mu → Prop) : Prop := CalGX .calm X k x R noX
theorem passN0 {X : Cx} (σ : L2.St) : PassesAt (L2N.CX X.prog X.w) X σ (WE (fun _ _ _ _ => False) σ) := L2N.passAt (fun _ _ ⟨_, _, _, _, _, _, _, _, _, _, _, _, _, _, _, _, w⟩ => w.elim) σ
theorem pass00 {X : Cx} (σ : L2.St) : PassesAt (L2.CX X.prog X.w) X σ (WE (fun _ _ _ _ => False) σ) := passAt (fun _ _ ⟨_, _, _, _, _, _, _, _, _, _, _, _, _, _, _, _, w⟩ => w.elim) σ
/-- a def that is called: its promise at any wish -/
theorem pe_callM (C : Fx md X N sc k) {kk : Nat} {x : Str} {f : Addr} {fd : FuncData} {ps : List Str} {sp : Sp} {Wx : WX} {ta : TA} (F : FnM md X.prog X.w X.K X.mg X.base kk f fd ps sp) (tk : TakesX X Wx) (hk : kk ≤ k) (hg : Gl X x) (hm : X.mg x = some (.ref f)) (kp : PySem.W.keepIn X.K (.ref f) = true) (b : Binds X.K fd ps []) (ha : PA X (e :: es) ta)
    (hdb : (x == ("__debug__" : Str)) = false) (he : starEach (e :: es) X.env = (false, eval e X.env) :: starEach es X.env) (hpl : (backTo pos (starEach es X.env)).any (·.1) = false) : PE X (.Call (.Name x p) (e :: es) [] pos) (tCallS sp (WE Wx) ta) := by
  cases md with
  | calm => exact pe_callS (F := F) (C.roomC.mono hk) hg hm kp b (fun σ => L2N.passAt (tk.1 C.calm) σ) ha hdb he hpl
  | hot => exact L2H.pe_callH (F := F) (C.room.mono hk) C.hotC hg hm kp b (fun σ => passAt (tk.2 (C.hot rfl).1) σ) ha hdb he hpl
  | cold => exact F.elim
theorem je_call (C : Fx md X N sc k) {kk : Nat} {x : Str} {R : List W → Mu → W → Mu → Prop} {RE : List W → Mu → Value → Mu → Prop} {ws : List W} (F : CalGX md X kk x R RE) (ha : JA X ρ μ (e :: es) ws μ1) (hR : R ws μ1 w μ2) (hk : kk ≤ k := by omega) (hg : sc.names.lookup x = some .globalImplicit := by rfl)
    (hdb : (x == ("__debug__" : Str)) = false := by decide) (he : starEach (e :: es) X.env = (false, eval e X.env) :: starEach es X.env := by rfl) (hpl : (backTo pos (starEach es X.env)).any (·.1) = false := by rfl) : JE X ρ μ (.Call (.Name x p) (e :: es) [] pos) w μ2 := by
  obtain ⟨f, fd, ps, F, hm, kp, b⟩ := F.ex
  exact PE.imp (pe_callM C F takesX0 hk (C.gl hg) hm kp b ha hdb he hpl) fun σ H Q ⟨G, S, q⟩ => ⟨G, S, fun vs H1 G1 g1 m1 wvs =>
    .inl ⟨G1, μ1, ws, w, μ2, g1.gs, m1, wvs, hR, fun v H2 G2 g2 m2 wv => q v H2 G2 (g1.trans g2) m2 wv⟩⟩
/-- a body's start -/
theorem st_start {K : PySem.W.Frag} {N : List Str} {vs : List V} {ws : List W} {H G : Hp} {μ : Mu} (gh : Same G H) (m : MuOk K H G μ) (wvs : WVs K G vs ws) : StOk K (L2.start N vs) H G (ws.map some ++ List.replicate (N.length - ws.length) none) μ := by
  refine ⟨gh, fun i w' e => ?_, ?_, m⟩
  · by_cases hi : i < ws.length
    · rw [List.getElem?_append_left (by rw [List.length_map]; exact hi), List.getElem?_map] at e
      cases e2 : ws[i]? with
      | none => rw [e2] at e; cases e
      | some u =>
        rw [e2] at e
        cases e
        obtain ⟨v, h1, h2⟩ := wvs_get wvs e2
        have hv : i < vs.length := (List.getElem?_eq_some_iff.mp h1).1
        refine ⟨v, ?_, h2⟩
        unfold L2.start
        rw [List.getElem?_append_left (by rw [List.length_map]; exact hv), List.getElem?_map, h1]
        rfl
    · rw [List.getElem?_append_right (by rw [List.length_map]; omega)] at e
      rw [List.getElem?_replicate] at e
      split at e <;> cases e
  · unfold L2.start
    rw [List.length_append, List.length_append, List.length_map, List.length_map, List.length_replicate, List.length_replicate, wvs_len wvs]
structure IsEnv (X : Cx) (P : Program) (wd : World) (K : PySem.W.Frag) (mg : Str → Option Value) (base : Heap) : Prop where
  p : X.prog = P
  w : X.w = wd
  K : X.K = K
  m : X.mg = mg
  b : X.base = base
/-- what a body must end with -/
abbrev EndsIn (w : W) (μ' : Mu) : Out → Prop := fun o => o = .rt w μ' ∨ (w = wn ∧ ∃ ρ', o = .nx ρ' μ')
abbrev EndsEx (c : Value) (μ' : Mu) : Out → Prop := fun o => ∃ ρ', o = .ex c ρ' μ'
theorem wants_end {K : PySem.W.Frag} {H G : Hp} {Q : VK} {Wx : WX} {w : W} {μ' : Mu} (q : ∀ v H' G', Go H G μ H' G' μ' → MuOk K H' G' μ' → WV K G' v w → Q v H') : Wants K H G μ (EndsIn w μ') { nx := fun _ H' => Q .non H', rt := Q } Wx := by
  refine ⟨fun ρ' μ2 σ' H' G' φ g s => ?_, fun w2 μ2 v H' G' φ g m2 wv => ?_, fun ds μ2 p xs H' G' φ => ?_, fun ρ' μ2 σ' H' G' φ g s => ?_, fun ρ' μ2 σ' H' G' φ g s => ?_, fun c ρ' μ2 σ' H' G' φ g s => ?_⟩
  · rcases φ with φ | ⟨hw, ρ2, φ⟩
    · cases φ
    · cases φ
      exact q .non H' G' g s.mu (by rw [hw]; exact Dp.non)
  · rcases φ with φ | ⟨_, ρ2, φ⟩
    · cases φ
      exact q v H' G' g m2 wv
    · cases φ
  · rcases φ with φ | ⟨_, ρ2, φ⟩ <;> cases φ
  · rcases φ with φ | ⟨_, ρ2, φ⟩ <;> cases φ
  · rcases φ with φ | ⟨_, ρ2, φ⟩ <;> cases φ
  · rcases φ with φ | ⟨_, ρ2, φ⟩ <;> cases φ
theorem wants_endX {K : PySem.W.Frag} {H G : Hp} {D : Ends} {E : XK} {c : Value} {μ' : Mu} (q : ∀ H' G', Go H G μ H' G' μ' → MuOk K H' G' μ' → E c none H') : Wants K H G μ (EndsEx c μ') D (fun cls d _ H => E cls d H) := by
  refine ⟨fun ρ' μ2 σ' H' G' φ g s => ?_, fun w2 μ2 v H' G' φ g m2 wv => ?_, fun ds μ2 p xs H' G' φ => ?_, fun ρ' μ2 σ' H' G' φ g s => ?_, fun ρ' μ2 σ' H' G' φ g s => ?_, fun c ρ' μ2 σ' H' G' φ g s => ?_⟩
  · obtain ⟨_, φ⟩ := φ; cases φ
  · obtain ⟨_, φ⟩ := φ; cases φ
  · obtain ⟨_, φ⟩ := φ; cases φ
  · obtain ⟨_, φ⟩ := φ; cases φ
  · obtain ⟨_, φ⟩ := φ; cases φ
  · obtain ⟨_, φ⟩ := φ; cases φ; exact q H' G' g s.mu
/-- the rule for a def -/
theorem cal_of (md : Md) (hmd : md ≠ .cold) {P : Program} {wd : World} {K : PySem.W.Frag} {mg : Str → Option Value} {base : Heap} {x : Str} {st : Stmt} {f : Addr} {fd : FuncData} {N ps : List Str} {k : Nat} {R : List W → Mu → W → Mu → Prop} {RE : List W → Mu → Value → Mu → Prop} (F : Fun K x x st f fd) (S : FnScope N ps (defScope st)) (hm : mg x = some (.ref f)) (b : Binds K fd ps [])
    (hl : ∀ ws μ w μ', R ws μ w μ' → ws.length = ps.length) (hlE : ∀ ws μ w μ', RE ws μ w μ' → ws.length = ps.length)
    (body : ∀ X : Cx, IsEnv X P wd K mg base → Fb md X N (defScope st) k → ∀ ws μ w μ', R ws μ w μ' →
      JSs X (ws.map some ++ List.replicate (N.length - ws.length) none) μ (defBody st) (EndsIn w μ'))
    (bodyE : ∀ X : Cx, IsEnv X P wd K mg base → Fb md X N (defScope st) k → ∀ ws μ c μ', RE ws μ c μ' →
      JSs X (ws.map some ++ List.replicate (N.length - ws.length) none) μ (defBody st) (EndsEx c μ')) : CalG md P wd K mg base (k + 1) x R RE := by
  have len : ∀ vs H Q E, SpX K R RE vs H Q E → vs.length = ps.length := fun vs H Q E h => by
    rcases h with ⟨G, μ, ws, w, μ', _, _, wvs, hR, _⟩ | ⟨G, μ, ws, c, μ', _, _, wvs, hR, _⟩
    · rw [wvs_len wvs]; exact hl _ _ _ _ hR
    · rw [wvs_len wvs]; exact hlE _ _ _ _ hR
  have go : ∀ (X : Cx) (H : Hp) (vs : List V) (Q : VK) (E : XK), X.K = K → TakesX X (fun cls d _ H => E cls d H) → IsEnv X P wd K mg base → Fb md X N (defScope st) k → SpX K R RE vs H Q E → ∃ t, PSs X (defBody st) t ∧ t { nx := fun _ H' => Q .non H', rt := Q } (L2.start N vs) H := fun X H vs Q E hK tk en C h => by
    subst hK
    rcases h with ⟨G, μ, ws, w, μ', gh, m, wvs, hR, q⟩ | ⟨G, μ, ws, c, μ', gh, m, wvs, hR, q⟩
    · exact ⟨_, body X en C ws μ w μ' hR _ tk, G, st_start gh m wvs, wants_end q⟩
    · exact ⟨_, bodyE X en C ws μ c μ' hR _ tk, G, st_start gh m wvs, wants_endX q⟩
  cases md with
  | calm =>
    refine ⟨f, fd, ps, ?_, hm, F.kp, b⟩
    obtain ⟨oc, od, kV, doc, pm, an, cdv, ct, osl, rfl, lk, hcd⟩ := F.ex
    refine fn_of lk hcd S len fun A outer s H vs Q E hr hsp => go (cxOf (L2N.CX P wd) P wd K mg base N x (defScope st) f cdv A outer s H E) H vs Q E rfl ⟨fun _ => L2N.takes_of rfl rfl rfl rfl, fun z => Bool.noConfusion (show true = false from z)⟩ ⟨rfl, rfl, rfl, rfl, rfl⟩ ⟨⟨rfl, rfl, S.nd, L2H.roomH_of hr, fun _ => ⟨rfl, hr⟩, fun z => Md.noConfusion z⟩, fun _ => rfl, L2.passes_of rfl, rfl, rfl⟩ hsp
  | hot =>
    refine ⟨f, fd, ps, ?_, hm, F.kp, b⟩
    obtain ⟨oc, od, kV, doc, pm, an, cdv, ct, osl, rfl, lk, hcd⟩ := F.ex
    refine L2H.fn_ofH lk hcd S len fun A outer s H vs Q E p hot hr hsp => go (L2H.cxH (L2.CX P wd) P wd K mg base N x (defScope st) f cdv A outer s H E p) H vs Q E rfl ⟨fun z => Bool.noConfusion (show false = true from z), fun _ => L2.takes_of rfl rfl rfl rfl⟩ ⟨rfl, rfl, rfl, rfl, rfl⟩ ⟨⟨rfl, rfl, S.nd, hr, fun z => Md.noConfusion z, fun _ => ⟨rfl, p, hot, List.mem_cons_self⟩⟩, fun _ => rfl, L2.passes_of rfl, rfl, rfl⟩ hsp
  | cold => exact absurd rfl hmd
/-- a def that hands back a new list -/
def SpL (K : PySem.W.Frag) (R : List W → Mu → List PyData → Mu → Prop) : Sp := fun vs H Q _ => ∃ G μ ws ds μ', Same G H ∧ MuOk K H G μ ∧ WVs K G vs ws ∧ R ws μ ds μ' ∧ ∀ p xs H' G', Go H G μ H' G' μ' → MuOk K H' G' μ' → H p = none → G' p = none → p ∉ μ'.map (·.1) → H' p = some (.lst xs) → DpAll K G' xs ds → Q (.ref p) H'
structure CalL (P : Program) (w : World) (K : PySem.W.Frag) (mg : Str → Option Value) (base : Heap) (k : Nat) (x : Str) (R : List W → Mu → List PyData → Mu → Prop) : Prop where
  ex : ∃ (f : Addr) (fd : FuncData) (ps : List Str), FnOk P w K mg base CX0 k f fd ps (SpL K R) ∧ mg x = some (.ref f) ∧ PySem.W.keepIn K (.ref f) = true ∧ Binds K fd ps []
abbrev CalLX (X : Cx) (k : Nat) (x : Str) (R : List W → Mu → List PyData → Mu → Prop) : Prop := CalL X.prog X.w X.K X.mg X.base k x R
theorem jl_call (C : Fx .calm X N sc k) {kk : Nat} {x : Str} {R : List W → Mu → List PyData → Mu → Prop} {ws : List W} (F : CalLX X kk x R) (ha : JA X ρ μ (e :: es) ws μ1) (hR : R ws μ1 ds μ2) (hk : kk ≤ k := by omega) (hg : sc.names.lookup x = some .globalImplicit := by rfl)
    (hdb : (x == ("__debug__" : Str)) = false := by decide) (he : starEach (e :: es) X.env = (false, eval e X.env) :: starEach es X.env := by rfl) (hpl : (backTo pos (starEach es X.env)).any (·.1) = false := by rfl) : JL X ρ μ (.Call (.Name x p) (e :: es) [] pos) ds μ2 := by
  obtain ⟨f, fd, ps, F, hm, kp, b⟩ := F.ex
  exact PE.imp (pe_call (dvs := []) F (C.roomC.mono hk) (C.gl hg) hm kp b .nil pass0 ha hdb he hpl) fun σ H Q ⟨G, S, q⟩ => ⟨G, S, fun vs H1 G1 g1 m1 wvs =>
    ⟨G1, μ1, ws, ds, μ2, g1.gs, m1, by rw [List.append_nil]; exact wvs, hR, fun p xs H2 G2 g2 m2 h0 h1 h2 h3 h4 => q p xs H2 G2 (g1.trans g2) m2 (g1.al p h0) h1 h2 h3 h4⟩⟩
theorem cal_ofL {P : Program} {wd : World} {K : PySem.W.Frag} {mg : Str → Option Value} {base : Heap} {x : Str} {st : Stmt} {f : Addr} {fd : FuncData} {N ps : List Str} {k : Nat} {R : List W → Mu → List PyData → Mu → Prop} (F : Fun K x x st f fd) (S : FnScope N ps (defScope st)) (hm : mg x = some (.ref f)) (b : Binds K fd ps [])
    (hl : ∀ ws μ w μ', R ws μ w μ' → ws.length = ps.length ∧ μ' = μ)
    (body : ∀ X : Cx, IsEnv X P wd K mg base → Fb .calm X N (defScope st) k → ∀ ws μ ds μ', R ws μ ds μ' →
      JSs X (ws.map some ++ List.replicate (N.length - ws.length) none) μ (defBody st) fun o => o = .rl ds μ') : CalL P wd K mg base (k + 1) x R :=
  ⟨f, fd, ps, F.ok S (fun vs H Q E ⟨G, μ, ws, w, μ', _, _, wvs, hR, _⟩ => by rw [wvs_len wvs]; exact (hl _ _ _ _ hR).1) (fun cdv A outer s H vs Q E hr ⟨G, μ, ws, ds, μ', gh, m, wvs, hR, q⟩ => by
    refine ⟨_, body (cxOf CX0 P wd K mg base N x (defScope st) f cdv A outer s H E).nox ⟨rfl, rfl, rfl, rfl, rfl⟩ ⟨⟨rfl, rfl, S.nd, L2H.roomH_of hr, fun _ => ⟨rfl, hr⟩, fun z => Md.noConfusion z⟩, fun _ => rfl, PassesOwn.never, rfl, rfl⟩ ws μ ds μ' hR _ takesX0, G, st_start gh m wvs, ?_⟩
    refine ⟨fun ρ' μ2 σ' H' G' φ g s => ?_, fun w2 μ2 v H' G' φ g m2 wv => ?_, fun es μ2 p xs H' G' φ g m2 h0 h1 h2 h3 h4 => ?_, fun ρ' μ2 σ' H' G' φ g s => ?_, fun ρ' μ2 σ' H' G' φ g s => ?_, fun c ρ' μ2 σ' H' G' φ g s => ?_⟩
    · cases φ
    · cases φ
    · cases φ
      have em := (hl _ _ _ _ hR).2
      subst em
      exact q p xs H' G' g m2 (h0.elim id fun z => absurd z h2) h1 h2 h3 h4
    · cases φ
    · cases φ
    · cases φ), hm, F.kp, b⟩
theorem js_retL (h : JL X ρ μ e ds μ1) (f : Φ (.rl ds μ1)) : JS X ρ μ (.Return (some e) pos) Φ :=
  fun Wx tk => PS.imp (ps_ret h) fun D σ H ⟨G, S, Wn⟩ => ⟨G, S, fun p xs H' G' g m h0 h1 h2 h3 h4 => Wn.rl _ _ p xs H' G' f g m (.inl h0) h1 h2 h3 h4⟩
/-- f([..], ..): the first argument a new list that f may change; behind it nobody has it -/
theorem je_callO (C : Fx .calm X N sc k) {kk : Nat} {x : Str} {R : List W → Mu → W → Mu → Prop} {ws : List W} (F : CalX X kk x R) (h1 : JL X ρ μ e ds μ1) (ha : ∀ l, JA X ρ ((l, OD.l ds) :: μ1) es ws ((l, OD.l ds) :: μ1)) (hR : ∀ l, ∃ fs, R (.loc l :: ws) ((l, OD.l ds) :: μ1) w ((l, OD.l fs) :: μ2)) (hk : kk ≤ k := by omega) (hg : sc.names.lookup x = some .globalImplicit := by rfl)
    (hdb : (x == ("__debug__" : Str)) = false := by decide) (he : starEach (e :: es) X.env = (false, eval e X.env) :: starEach es X.env := by rfl) (hpl : (backTo pos (starEach es X.env)).any (·.1) = false := by rfl) : JE X ρ μ (.Call (.Name x p) (e :: es) [] pos) w μ2 := by
  obtain ⟨f, fd, ps, F, hm, kp, b⟩ := F.ex
  refine PE.imp (pe_callM C F takesX0 hk (C.gl hg) hm kp b (pa_cons h1 (t := fun σ H Q => ∃ l, rdA X.K ρ ((l, OD.l ds) :: μ1) ws ((l, OD.l ds) :: μ1) σ H Q) ⟨fun pos pins s σ H Q I ⟨l, q⟩ => (ha l).run pos pins s σ H Q I q⟩ he) hdb he hpl) fun σ H Q ⟨G, S, q⟩ => ⟨G, S, fun l xs H1 G1 g1 m1 h0 gl lm hl hd => ?_⟩
  have m2 : MuOk X.K H1 G1 ((l, OD.l ds) :: μ1) := ⟨fun n a es e => by
    cases n with
    | zero => cases e; exact ⟨gl, _, hl, xs, rfl, hd⟩
    | succ n => exact m1.on n a es e, by
    rw [List.map_cons]
    exact List.nodup_cons.mpr ⟨lm, m1.nd⟩⟩
  have g2 : Go H G μ H1 G1 ((l, OD.l ds) :: μ1) := ⟨g1.fr, g1.gx, g1.gs, g1.nw, fun a h => by
    rw [List.map_cons] at h
    rcases List.mem_cons.mp h with h | h
    · rw [h]; exact .inr h0
    · exact g1.dm a h, g1.al⟩
  refine ⟨l, G1, S.go g2 m2, fun vs H2 G2 g3 m3 wvs => ?_⟩
  obtain ⟨fs, hr⟩ := hR l
  refine .inl ⟨G2, _, .loc l :: ws, w, _, g3.gs, m3, .cons rfl wvs, hr, fun v H3 G3 g4 m4 wv => ?_⟩
  have g5 := (g2.trans g3).trans g4
  refine q v H3 G3 ⟨g5.fr, g5.gx, g5.gs, g5.nw, fun a h => g5.dm a (List.mem_cons_of_mem _ h), g5.al⟩ ⟨fun n a es e => m4.on (n + 1) a es e, ?_⟩ wv
  have nd := m4.nd
  rw [List.map_cons] at nd
  exact (List.nodup_cons.mp nd).2

/-! ### built-ins -/
theorem je_cb {x : Str} {id : String} {r : List V → Hp → VK → Prop} {ws : List W} (C : Fx md X N sc k) (hc : CallR X (.builtin id) r) (hm : X.mg x = none) (ha : JA X ρ μ (e :: es) ws μ1) (hv : bootBuiltins x = some (.builtin id))
    (hr : ∀ (G H : Hp) (xs : List V) (Q : VK), Same G H → MuOk X.K H G μ1 → WVs X.K G xs ws → (∀ v, WV X.K G v w → Q v H) → r xs H Q) (hg : sc.names.lookup x = some .globalImplicit := by rfl) (hn : x ≠ "__name__" := by decide) (hdb : (x == ("__debug__" : Str)) = false := by decide)
    (he : starEach (e :: es) X.env = (false, eval e X.env) :: starEach es X.env := by rfl) (hpl : (backTo pos (starEach es X.env)).any (·.1) = false := by rfl) : JE X ρ μ (.Call (.Name x p) (e :: es) [] pos) w μ1 :=
  PE.imp (pe_callB hc (C.gl hg) hm hv ha hn hdb he hpl) fun σ H Q ⟨G, S, q⟩ => ⟨G, S, fun vs H1 G1 g1 m1 wvs => hr G1 H1 vs Q g1.gs m1 wvs fun v wv => q v H1 G1 g1 m1 wv⟩
theorem je_len (C : Fx md X N sc k) (hm : X.mg "len" = none) (ha : JE X ρ μ a (.dat (.list ds)) μ1) (hg : sc.names.lookup ("len" : Str) = some .globalImplicit := by rfl)
    (he : starEach [a] X.env = (false, eval a X.env) :: starEach [] X.env := by rfl) (hpl : (backTo pos (starEach [] X.env)).any (·.1) = false := by rfl) : JE X ρ μ (.Call (.Name "len" p) [a] [] pos) (wi ds.length) μ1 :=
  je_cb C call_len_seq hm (ja_cons ha ja_nil he) PySem.boot_len (fun G H xs Q gs m ws q => by
    cases ws with
    | cons h t =>
      cases t
      obtain ⟨l, ys, rfl, hs, hd⟩ := wv_lst h
      exact ⟨l, ys, rfl, .inl (gs.seq hs), by rw [dpAll_len hd]; exact q _ (Dp.int _)⟩) hg (by decide) (by decide) he hpl
theorem je_lenT (C : Fx md X N sc k) (hm : X.mg "len" = none) (ha : JE X ρ μ a (.dat (.tuple ds)) μ1) (hg : sc.names.lookup ("len" : Str) = some .globalImplicit := by rfl)
    (he : starEach [a] X.env = (false, eval a X.env) :: starEach [] X.env := by rfl) (hpl : (backTo pos (starEach [] X.env)).any (·.1) = false := by rfl) : JE X ρ μ (.Call (.Name "len" p) [a] [] pos) (wi ds.length) μ1 :=
  je_cb C call_len_seq hm (ja_cons ha ja_nil he) PySem.boot_len (fun G H xs Q gs m ws q => by
    cases ws with
    | cons h t =>
      cases t
      obtain ⟨l, ys, rfl, hs, hd⟩ := wv_tup h
      exact ⟨l, ys, rfl, .inr (seqT gs hs), by rw [dpAll_len hd]; exact q _ (Dp.int _)⟩) hg (by decide) (by decide) he hpl
theorem je_lenLoc (C : Fx md X N sc k) {l : Addr} {n : Nat} (hm : X.mg "len" = none) (ha : JE X ρ μ a (.loc l) μ1) (hl : μ1[n]? = some (l, OD.l ds)) (hg : sc.names.lookup ("len" : Str) = some .globalImplicit := by rfl)
    (he : starEach [a] X.env = (false, eval a X.env) :: starEach [] X.env := by rfl) (hpl : (backTo pos (starEach [] X.env)).any (·.1) = false := by rfl) : JE X ρ μ (.Call (.Name "len" p) [a] [] pos) (wi ds.length) μ1 :=
  je_cb C call_len_seq hm (ja_cons ha ja_nil he) PySem.boot_len (fun G H xs Q gs m ws q => by
    cases ws with
    | cons h t =>
      cases t
      obtain ⟨_, _, hs, ys, rfl, hd⟩ := m.on n l _ hl
      exact ⟨l, ys, by rw [show _ = V.ref l from h], .inl (SqL.of hs), by rw [dpAll_len hd]; exact q _ (Dp.int _)⟩) hg (by decide) (by decide) he hpl
/-- int(bool), int(int) -/
theorem je_intB (C : Fx md X N sc k) (hm : X.mg "int" = none) (ha : JE X ρ μ a (wb b1) μ1) (hg : sc.names.lookup ("int" : Str) = some .globalImplicit := by rfl)
    (he : starEach [a] X.env = (false, eval a X.env) :: starEach [] X.env := by rfl) (hpl : (backTo pos (starEach [] X.env)).any (·.1) = false := by rfl) : JE X ρ μ (.Call (.Name "int" p) [a] [] pos) (wi (if b1 then 1 else 0)) μ1 :=
  PE.imp (pe_callTy call_int1 (C.gl hg) hm PyProof.Rows.boot_int (ja_cons ha ja_nil he) (he := he) (hpl := hpl)) fun σ H Q ⟨G, S, q⟩ => ⟨G, S, fun vs H1 G1 g1 m1 wvs => by
    cases wvs with
    | cons h t =>
      cases t
      exact .inr ⟨b1, by rw [wv_bl h], q _ H1 G1 g1 m1 (Dp.int _)⟩⟩
/-- isinstance with a built-in type -/
def tyName : PyData → String
  | .none => "NoneType" | .bool _ => "bool" | .int _ => "int" | .str _ => "str" | .list _ => "list" | .tuple _ => "tuple" | .dict _ => "dict"
theorem ty_of {K : PySem.W.Frag} {G H : Hp} {v : V} (gs : Same G H) (h : Dp K G v d) : TyX K H v (.type (tyName d)) := by
  cases h with
  | non => exact .base .non
  | bl b => exact .base (.bl b)
  | int i => exact .base (.int i)
  | str x => exact .base (.str x)
  | lst hs hd =>
    rcases gs.seq hs with (h | ⟨o, h⟩) | ⟨o, its, n, hk, hc, _⟩
    · exact .base (.lst h)
    · exact .base (.frz h)
    · exact .kList hk hc
  | tup hs hd =>
    rcases seqT gs hs with (h | ⟨o, h⟩) | ⟨o, its, n, hk, hc, _⟩
    · exact .base (.tup h)
    · exact .fTuple h
    · exact .kTuple hk hc
theorem je_isi (C : Fx md X N sc k) {t : Str} {T : String} {p3 : Pos} (hm : X.mg "isinstance" = none) (ht : X.mg t = none) (hT : bootBuiltins t = some (.type T)) (ha : JE X ρ μ a (.dat d) μ1) (hk : kitB (tyName d) T = some b1)
    (hg : sc.names.lookup ("isinstance" : Str) = some .globalImplicit := by rfl) (hgt : sc.names.lookup t = some .globalImplicit := by rfl) (hn : t ≠ "__name__" := by decide) (hdb : (t == ("__debug__" : Str)) = false := by decide)
    (he : starEach [a, .Name t p3] X.env = (false, eval a X.env) :: starEach [.Name t p3] X.env := by rfl) (hpl : (backTo pos (starEach [.Name t p3] X.env)).any (·.1) = false := by rfl) : JE X ρ μ (.Call (.Name "isinstance" p) [a, .Name t p3] [] pos) (wb b1) μ1 :=
  PE.imp (pe_callB call_isi (C.gl hg) hm (by decide +kernel) (pa_cons ha (pa_cons (pe_bltn (v := .ty T) (C.gl hgt) ht hT (show RelV (.ty T) (.type T) from rfl) hn hdb) pa_nil) he) (he := he) (hpl := hpl)) fun σ H Q ⟨G, S, q⟩ => ⟨G, S, fun v H1 G1 g1 m1 wv =>
    ⟨v, .ty T, _, _, b1, rfl, .ty T, ty_of g1.gs wv, kit_ty hk, q _ H1 G1 g1 m1 (Dp.bl _)⟩⟩
end
end RB
namespace RB
open PySem PySem.Spec PyProof.Rows L2
/-! ### loops -/
def LpR (Inv : Rho → Mu → Prop) (Φ : Out → Prop) : Out → Prop
  | .nx r u => Inv r u
  | .ct r u => Inv r u
  | .bk r u => Φ (.nx r u)
  | .rt w u => Φ (.rt w u)
  | .rl w u => Φ (.rl w u)
  | .ex c r u => Φ (.ex c r u)
section
variable {md : Md} {X : Cx} {N : List Str} {sc : Scope} {k : Nat} {ρ ρ1 : Rho} {μ μ1 μ2 μ3 μ' : Mu} {w wa wb' : W} {a b c e : Expr} {es : List Expr} {pos p p2 cp ap : Pos} {d d2 : PyData} {ds es2 : List PyData} {i j : Int} {b1 b2 : Bool} {Φ Φ' : Out → Prop} {st : Stmt} {rest body els : List Stmt}
theorem wants_lp {K : PySem.W.Frag} {H G : Hp} {D : Ends} {Wx : WX} {Inv : Rho → Mu → Prop} {Pv : L2.St → Hp → Prop} (Wn : Wants K H G μ Φ D Wx) (h : ∀ r u σ' H' G', Inv r u → Go H G μ H' G' u → StOk K σ' H' G' r u → Pv σ' H') :
    Wants K H G μ (LpR Inv Φ) { D with nx := Pv, ct := Pv, bk := D.nx } Wx :=
  ⟨fun r u σ' H' G' φ g s => h r u σ' H' G' φ g s, fun w u v H' G' φ g m wv => Wn.rt _ _ _ _ _ φ g m wv, fun ds u p xs H' G' φ g m h0 h1 h2 h3 h4 => Wn.rl _ _ _ _ _ _ φ g m h0 h1 h2 h3 h4, fun r u σ' H' G' φ g s => Wn.nx _ _ _ _ _ φ g s, fun r u σ' H' G' φ g s => h r u σ' H' G' φ g s, fun c r u σ' H' G' φ g s => Wn.ex _ _ _ _ _ _ φ g s⟩
/-- for x in range(a) -/
theorem js_forR (C : Fb .calm X N sc k) (n : Nat) {x : Str} {p3 : Pos} (hm : X.mg "range" = none) (ha : JE X ρ μ a (wi i) μ1) (h0 : -(2 ^ 62) ≤ i) (h1 : i < 2 ^ 62) (Inv : Nat → Rho → Mu → Prop) (hi : Inv 0 ρ μ1)
    (hs : ∀ m ρ' μ', m < i.toNat → Inv m ρ' μ' → JSs X (ρ'.set n (some (wi m))) μ' body (LpR (Inv (m + 1)) Φ)) (hd : ∀ ρ' μ', Inv i.toNat ρ' μ' → Φ (.nx ρ' μ'))
    (hN : N[n]? = some x := by rfl) (hv : Loc sc x := by first | exact Or.inl rfl | exact Or.inr rfl) (hg : sc.names.lookup ("range" : Str) = some .globalImplicit := by rfl) (hst : starEach [a] X.env = (false, eval a X.env) :: starEach [] X.env := by rfl) :
    JS X ρ μ (.For (.Name x p) (.Call (.Name "range" p3) [a] [] p2) body [] pos) Φ := by
  have hl : Loc X.env.scope x := by rw [C.s]; exact hv
  refine fun Wx tk => PS.imp (ps_for (tb := fun D σ H => ∃ m ρ' μ', m < i.toNat ∧ Inv m ρ' μ' ∧ rdS X.K Wx (ρ'.set n (some (wi m))) μ' (LpR (Inv (m + 1)) Φ) D σ H) C.po C.toFx.calm (pi_range1 (C.gl hg) hm (ja_cons ha ja_nil hst) hst)
    (pg_name (i := n) (by rw [C.n]; exact C.nd) (by rw [C.n]; exact hN) hl (.inl (C.fn x))) ⟨fun pins s σ H D I ⟨m, ρ', μ', l, v, q⟩ => (hs m ρ' μ' l v Wx tk).run pins s σ H D I q⟩) fun D σ H ⟨G, S, Wn⟩ => ⟨G, S, fun vs H1 G1 g1 m1 wvs => ?_⟩
  cases wvs with
  | cons hx ht =>
    cases ht
    refine ⟨i, by rw [wv_int hx], h0, h1, for_range (lo := 0) (n := i.toNat) (g := gName n) (tb := fun D σ H => ∃ m ρ' μ', m < i.toNat ∧ Inv m ρ' μ' ∧ rdS X.K Wx (ρ'.set n (some (wi m))) μ' (LpR (Inv (m + 1)) Φ) D σ H) (fun m σ H => ∃ ρ' μ' G', Inv m ρ' μ' ∧ StOk X.K σ H G' ρ' μ' ∧ Wants X.K H G' μ' Φ D Wx) ⟨ρ, μ1, G1, hi, S.go g1 m1, Wn.go g1⟩ ?_ fun σ' H' ⟨ρ', μ', G', v, s, wn'⟩ => wn'.nx _ _ _ _ _ (hd ρ' μ' v) (Go.refl s.gh) s⟩
    rintro m σ' H' l ⟨ρ', μ', G', v, s, wn'⟩
    refine ⟨m, ρ', μ', l, v, G', s.set n (show WV X.K G' (.int (0 + (m : Int))) (wi m) by rw [Int.zero_add]; exact Dp.int _), wants_lp wn' fun r u σ2 H2 G2 φ g s2 => ⟨r, u, G2, φ, s2, wn'.go g⟩⟩
/-- for x in a list that is known -/
theorem js_forL (C : Fb .calm X N sc k) (n : Nat) {x : Str} (ha : JE X ρ μ a (.dat (.list ds)) μ1) (Inv : Nat → Rho → Mu → Prop) (hi : Inv 0 ρ μ1)
    (hs : ∀ m d ρ' μ', ds[m]? = some d → Inv m ρ' μ' → JSs X (ρ'.set n (some (.dat d))) μ' body (LpR (Inv (m + 1)) Φ)) (hd : ∀ ρ' μ', Inv ds.length ρ' μ' → Φ (.nx ρ' μ'))
    (hN : N[n]? = some x := by rfl) (hv : Loc sc x := by first | exact Or.inl rfl | exact Or.inr rfl) (hfs : ∀ x, foldedSetIterable a X.env x = pure x := by intro _; rfl) :
    JS X ρ μ (.For (.Name x p) a body [] pos) Φ := by
  have hl : Loc X.env.scope x := by rw [C.s]; exact hv
  refine fun Wx tk => PS.imp (ps_for (tb := fun D σ H => ∃ m d ρ' μ', ds[m]? = some d ∧ Inv m ρ' μ' ∧ rdS X.K Wx (ρ'.set n (some (.dat d))) μ' (LpR (Inv (m + 1)) Φ) D σ H) C.po C.toFx.calm (pi_list ha)
    (pg_name (i := n) (by rw [C.n]; exact C.nd) (by rw [C.n]; exact hN) hl (.inl (C.fn x))) ⟨fun pins s σ H D I ⟨m, d, ρ', μ', l, v, q⟩ => (hs m d ρ' μ' l v Wx tk).run pins s σ H D I q⟩ hfs) fun D σ H ⟨G, S, Wn⟩ => ⟨G, S, fun v H1 G1 g1 m1 wv => ?_⟩
  obtain ⟨l, xs, rfl, hsq, hdp⟩ := wv_lst wv
  have hlen := dpAll_len hdp
  refine ⟨l, rfl, ⟨xs, g1.gs.seq hsq⟩, for_list (xs := xs) (g := gName n) (tb := fun D σ H => ∃ m d ρ' μ', ds[m]? = some d ∧ Inv m ρ' μ' ∧ rdS X.K Wx (ρ'.set n (some (.dat d))) μ' (LpR (Inv (m + 1)) Φ) D σ H) (fun m σ H => ∃ ρ' μ' G', Same G1 G' ∧ Inv m ρ' μ' ∧ StOk X.K σ H G' ρ' μ' ∧ Wants X.K H G' μ' Φ D Wx) ⟨ρ, μ1, G1, Same.refl _, hi, S.go g1 m1, Wn.go g1⟩
    (fun m σ' H' _ ⟨ρ', μ', G', gg, _, s, _⟩ => (gg.trans s.gh).seq hsq) ?_ fun σ' H' ⟨ρ', μ', G', gg, v, s, wn'⟩ => wn'.nx _ _ _ _ _ (hd ρ' μ' (by rw [← hlen]; exact v)) (Go.refl s.gh) s⟩
  rintro m y σ' H' hy ⟨ρ', μ', G', gg, v, s, wn'⟩
  obtain ⟨d, h1, h2⟩ := dpAll_getV hdp hy
  exact ⟨m, d, ρ', μ', h1, v, G', s.set n (show WV X.K G' y (.dat d) from dp_same gg _ _ h2), wants_lp wn' fun r u σ2 H2 G2 φ g s2 => ⟨r, u, G2, gg.trans g.gx, φ, s2, wn'.go g⟩⟩
/-- while -/
theorem js_while (C : Fb md X N sc k) (Inv : Nat → Rho → Mu → Prop) (m0 : Nat) (hi : Inv m0 ρ μ)
    (hs : ∀ m ρ' μ', Inv m ρ' μ' → ∃ b, JT X ρ' μ' c b μ' ∧ (b = true → JSs X ρ' μ' body (LpR (fun r u => ∃ m', m' < m ∧ Inv m' r u) Φ)) ∧ (b = false → Φ (.nx ρ' μ'))) :
    JS X ρ μ (.While c body [] pos) Φ := by
  refine fun Wx tk => PS.imp (ps_while (tc := fun σ H Q => ∃ m ρ' μ' b, Inv m ρ' μ' ∧ JT X ρ' μ' c b μ' ∧ rdT X.K ρ' μ' b μ' σ H Q) (tb := fun D σ H => ∃ ρ' μ' Ψ, JSs X ρ' μ' body Ψ ∧ rdS X.K Wx ρ' μ' Ψ D σ H) C.po
    ⟨fun pins s σ H Q I ⟨m, ρ', μ', b, _, j, q⟩ => j.run pins s σ H Q I q⟩ ⟨fun pins s σ H D I ⟨ρ', μ', Ψ, j, q⟩ => (j Wx tk).run pins s σ H D I q⟩) fun D σ H ⟨G, S, Wn⟩ => ?_
  refine ⟨fun m σ H => ∃ ρ' μ' G', Inv m ρ' μ' ∧ StOk X.K σ H G' ρ' μ' ∧ Wants X.K H G' μ' Φ D Wx, ⟨m0, ρ, μ, G, hi, S, Wn⟩, ?_⟩
  rintro m σ' H' ⟨ρ', μ', G', v, s, wn'⟩
  obtain ⟨b, jt, hb, hf⟩ := hs m ρ' μ' v
  refine ⟨m, ρ', μ', b, v, jt, G', s, fun H2 G2 g2 m2 => ?_⟩
  cases b with
  | true =>
    rw [if_pos rfl]
    refine ⟨fun σ3 H3 => ∃ m', m' < m ∧ ∃ ρ3 μ3 G3, Inv m' ρ3 μ3 ∧ StOk X.K σ3 H3 G3 ρ3 μ3 ∧ Wants X.K H3 G3 μ3 Φ D Wx, fun _ _ q => q, ρ', μ', _, hb rfl, G2, s.go g2 m2, wants_lp (wn'.go g2) fun r u σ3 H3 G3 φ g s3 => ?_⟩
    obtain ⟨m', hm', φ⟩ := φ
    exact ⟨m', hm', r, u, G3, φ, s3, (wn'.go g2).go g⟩
  | false =>
    rw [if_neg Bool.false_ne_true]
    exact wn'.nx _ _ _ _ _ (hf rfl) g2 (s.go g2 m2)

/-! ### owned lists change -/
theorem mu_put {K : PySem.W.Frag} {H G : Hp} {l : Addr} {n : Nat} {xs : List V} (gh : Same G H) (m : MuOk K H G μ) (hl : μ[n]? = some (l, OD.l ds)) (hd : DpAll K G xs es2) : Go H G μ (upd H l (.lst xs)) G (μ.set n (l, OD.l es2)) ∧ MuOk K (upd H l (.lst xs)) G (μ.set n (l, OD.l es2)) := by
  obtain ⟨gl, ys, hy, _⟩ := m.on n l _ hl
  have hn : n < μ.length := (List.getElem?_eq_some_iff.mp hl).1
  have hmap : (μ.set n (l, OD.l es2)).map (·.1) = μ.map (·.1) := by
    rw [List.map_set]
    refine List.ext_getElem? fun i => ?_
    by_cases hi : n = i
    · subst hi
      rw [List.getElem?_set_self (by rw [List.length_map]; exact hn), List.getElem?_map, hl]
      rfl
    · rw [List.getElem?_set_ne hi]
  have hmem : l ∈ μ.map (·.1) := List.mem_map.mpr ⟨(l, OD.l ds), List.mem_of_getElem? hl, rfl⟩
  refine ⟨⟨fun b o e nm => ?_, fun _ _ e => e, fun b o e => ?_, fun _ _ e => .inl e, fun b h => .inl (by rw [hmap] at h; exact h), fun b e => ?_⟩, fun i b fs e => ?_, by rw [hmap]; exact m.nd⟩
  · rw [upd_ne (fun z => nm (by rw [z]; exact hmem))]; exact e
  · rw [upd_ne (ne_of_none e gl)]; exact gh _ _ e
  · by_cases hb : b = l
    · subst hb; rw [upd_same] at e; cases e
    · rw [upd_ne hb] at e; exact e
  · by_cases hi : n = i
    · subst hi
      rw [List.getElem?_set_self hn] at e
      cases e
      exact ⟨gl, _, upd_same, xs, rfl, hd⟩
    · rw [List.getElem?_set_ne hi] at e
      obtain ⟨h1, zs, h2, h3⟩ := m.on i b fs e
      have hbl : b ≠ l := fun z => by
        subst z
        have q1 : (μ.map (·.1))[n]? = some b := by rw [List.getElem?_map, hl]; rfl
        have q2 : (μ.map (·.1))[i]? = some b := by rw [List.getElem?_map, e]; rfl
        exact hi ((List.getElem?_inj (by rw [List.length_map]; exact hn) m.nd).mp (q1.trans q2.symm))
      exact ⟨h1, zs, by rw [upd_ne hbl]; exact h2, h3⟩
theorem je_pop {l : Addr} {n : Nat} {o : Expr} (ho : JE X ρ μ o (.loc l) μ1) (hl : μ1[n]? = some (l, OD.l (ds ++ [d]))) (hbase : attributeBase o "pop" X.env (eval o X.env) = eval o X.env := by rfl) (hline : (ap.endLine == cp.line) = true := by rfl) :
    JE X ρ μ (.Call (.Attribute o "pop" ap) [] [] cp) (.dat d) (μ1.set n (l, OD.l ds)) :=
  PE.imp (pe_bm0 PySem.F.plainAttrs_list PySem.F.slot_list_pop PySem.F.type_list_pop mt_pop ho hbase hline) fun σ H Q ⟨G, S, q⟩ => ⟨G, S, fun v H1 G1 g1 m1 wv => by
    cases (show v = .ref l from wv)
    obtain ⟨_, _, hx, xs, rfl, hd⟩ := m1.on n l _ hl
    refine ⟨.inl ⟨rfl, _, SqL.of hx⟩, ?_⟩
    have hlen := dpAll_len hd
    rw [List.length_append, List.length_singleton] at hlen
    obtain ⟨y, hy, hyd⟩ := dpAll_get (i := ds.length) (d := d) hd (by rw [List.getElem?_append_right (Nat.le_refl _), Nat.sub_self]; rfl)
    have hd2 : DpAll X.K G1 xs.dropLast ds := by
      have q2 := dpAll_take ds.length hd
      rw [List.take_left] at q2
      rw [List.dropLast_eq_take, hlen]
      exact q2
    obtain ⟨g2, m2⟩ := mu_put g1.gs m1 hl hd2
    exact ⟨l, xs, y, rfl, rfl, hx, by rw [hlen]; exact hy, q y _ G1 (g1.trans g2) m2 hyd⟩⟩
theorem je_append {l : Addr} {n : Nat} {o : Expr} (ho : JE X ρ μ o (.loc l) μ1) (hv : JE X ρ μ1 e (.dat d) μ1) (hl : μ1[n]? = some (l, OD.l ds)) (hz : ds.length < 100000 := by omega) (hbase : attributeBase o "append" X.env (eval o X.env) = eval o X.env := by rfl) (hline : (ap.endLine == cp.line) = true := by rfl)
    (hfew : ((backTo cp (starEach [e] X.env)).all (fun x => !x.1) && (backToKw cp (keywordEach [] X.env)).all (fun x => x.1.isSome) && decide ([e].length + ([] : List Keyword).length + (if ([] : List Keyword).isEmpty then 0 else 1) < 30)) = true := by rfl)
    (hst : starEach [e] X.env = (false, eval e X.env) :: starEach [] X.env := by rfl) (hpl : (backTo cp (starEach [] X.env)).any (·.1) = false := by rfl) :
    JE X ρ μ (.Call (.Attribute o "append" ap) [e] [] cp) wn (μ1.set n (l, OD.l (ds ++ [d]))) :=
  PE.imp (pe_bm PySem.F.plainAttrs_list PySem.F.slot_list_append PySem.F.type_list_append mt_append ho (ja_cons hv ja_nil hst) hbase hfew hline hst hpl) fun σ H Q ⟨G, S, q⟩ => ⟨G, S, fun v H1 G1 g1 m1 wv => by
    cases (show v = .ref l from wv)
    obtain ⟨_, _, hy0, ys, rfl, _⟩ := m1.on n l _ hl
    exact ⟨.inl ⟨rfl, _, SqL.of hy0⟩, G1, S.go g1 m1, fun vs H2 G2 g2 m2 wvs => by
      cases wvs with
      | cons hy ht =>
        cases ht
        obtain ⟨_, _, hx, xs, rfl, hd⟩ := m2.on n l _ hl
        obtain ⟨g3, m3⟩ := mu_put g2.gs m2 hl (dpAll_app hd (.cons hy .nil))
        exact ⟨l, xs, _, rfl, rfl, hx, by rw [dpAll_len hd]; exact sz3l hz, q .non _ G2 ((g1.trans g2).trans g3) m3 Dp.non⟩⟩⟩
theorem je_reverse {l : Addr} {n : Nat} {o : Expr} (ho : JE X ρ μ o (.loc l) μ1) (hl : μ1[n]? = some (l, OD.l ds)) (hbase : attributeBase o "reverse" X.env (eval o X.env) = eval o X.env := by rfl) (hline : (ap.endLine == cp.line) = true := by rfl) :
    JE X ρ μ (.Call (.Attribute o "reverse" ap) [] [] cp) wn (μ1.set n (l, OD.l (ds.reverse))) :=
  PE.imp (pe_bm0 PySem.F.plainAttrs_list PySem.F.slot_list_reverse PySem.F.type_list_reverse mt_reverse ho hbase hline) fun σ H Q ⟨G, S, q⟩ => ⟨G, S, fun v H1 G1 g1 m1 wv => by
    cases (show v = .ref l from wv)
    obtain ⟨_, _, hx, xs, rfl, hd⟩ := m1.on n l _ hl
    obtain ⟨g2, m2⟩ := mu_put g1.gs m1 hl (dpAll_rev hd)
    exact ⟨.inl ⟨rfl, _, SqL.of hx⟩, l, xs, rfl, rfl, hx, q .non _ G1 (g1.trans g2) m2 Dp.non⟩⟩
end
end RB
namespace RB
open PySem PySem.Spec PyProof.Rows L2
/-! ### comprehensions with one name -/
/-- the scope of a block within sc -/
def relab (scope sc : Scope) : Scope :=
  { scope with names := scope.names.map fun (n, k) => if (k == .free && sc.kind == .function && sc.names.lookup n == some .cell) then (n, .cell) else (n, k) }
structure SameEnv (X Y : Cx) : Prop where
  p : Y.prog = X.prog
  w : Y.w = X.w
  K : Y.K = X.K
  m : Y.mg = X.mg
  b : Y.base = X.base
theorem CalX.to {md : Md} {X Y : Cx} (s : SameEnv X Y) {k : Nat} {x : Str} {R : List W → Mu → W → Mu → Prop} {RE : List W → Mu → Value → Mu → Prop} (c : CalGX md X k x R RE) : CalGX md Y k x R RE := by
  unfold CalGX at *
  rw [s.p, s.w, s.K, s.m, s.b]
  exact c
/-- what a block's iterations give -/
def gv (f : Nat → Bool) (v : Nat → PyData) : Nat → List PyData
  | 0 => []
  | n + 1 => if f n then gv f v n ++ [v n] else gv f v n
theorem gv_len (f : Nat → Bool) (v : Nat → PyData) : ∀ n, (gv f v n).length ≤ n
  | 0 => Nat.le_refl 0
  | n + 1 => by
    have h := gv_len f v n
    unfold gv
    split
    · rw [List.length_append, List.length_singleton]; omega
    · omega
theorem wipe1 {σ : L2.St} {j : Nat} (x : V) : wipe ((wipe σ [j]).set j (some x)) [j] = wipe σ [j] := by
  show ((σ.set j none).set j (some x)).set j none = σ.set j none
  rw [List.set_set, List.set_set]
section
variable {md : Md} {X : Cx} {N : List Str} {sc : Scope} {k : Nat} {ρ ρ1 : Rho} {μ μ1 μ2 μ3 μ' : Mu} {w wa wb' : W} {a b c e elt : Expr} {es ifs : List Expr} {pos p p2 p3 cp ap : Pos} {d d2 : PyData} {ds es2 : List PyData} {i : Int} {b1 b2 : Bool} {scope : Scope}
theorem blk_fx (C : Fx .calm X N sc k) (s : Shared) (H : Hp) (Cc : Addr) (cl : List (Str × Addr)) (fp : List Addr) : Fx .calm (X.blk s H scope (compEnvC scope cl Cc X.env) fp) N (relab scope sc) k ∧ SameEnv X (X.blk s H scope (compEnvC scope cl Cc X.env) fp) :=
  ⟨⟨C.n, by rw [← C.s]; rfl, C.nd, C.room, fun _ => C.cal rfl, fun z => Md.noConfusion z⟩, ⟨rfl, rfl, rfl, rfl, rfl⟩⟩
/-- the tests of a block -/
def JTs (X : Cx) (ρ : Rho) (μ : Mu) (es : List Expr) (b : Bool) (μ' : Mu) : Prop := PTs X es (rdT X.K ρ μ b μ')
theorem jts_nil : JTs X ρ μ [] true μ := ⟨fun pins s σ H Q I ⟨G, S, q⟩ => pts_nil.run pins s σ H Q I (q H G (Go.refl S.gh) S.mu)⟩
theorem jts_one (h : JT X ρ μ e b1 μ') : JTs X ρ μ [e] b1 μ' := pts_one h
/-- the invariant of a block over its list at D -/
structure Blk (K : PySem.W.Frag) (σ : L2.St) (ρ : Rho) (μ : Mu) (j : Nat) (acc : List PyData) (D : Addr) (H1 G1 H : Hp) : Prop where
  ex : ∃ G xs, StOk K (wipe σ [j]) H G (ρ.set j none) μ ∧ Go H1 G1 μ H G μ ∧ H1 D = none ∧ G D = none ∧ D ∉ μ.map (·.1) ∧ H D = some (.lst xs) ∧ DpAll K G xs acc
theorem blk_turn {K : PySem.W.Frag} {σ : L2.St} {j n : Nat} {D : Addr} {H1 G1 H : Hp} {y : V} {dy : PyData} {f : Nat → Bool} {v : Nat → PyData} {tt : TT} {te : TE} (B : Blk K σ ρ μ j (gv f v n) D H1 G1 H) (hn : n < 100000) (hy : Dp K G1 y dy)
    (ht : ∀ σ H Q, rdT K ((ρ.set j none).set j (some (.dat dy))) μ (f n) μ σ H Q → tt σ H Q) (he : f n = true → ∀ σ H Q, rdE K ((ρ.set j none).set j (some (.dat dy))) μ (.dat (v n)) μ σ H Q → te σ H Q) :
    tt ((wipe σ [j]).set j (some y)) H fun b H3 => if b = true then te ((wipe σ [j]).set j (some y)) H3 fun z H4 => ∃ acc, H4 D = some (.lst acc) ∧ acc.length < sizeLine ∧ Blk K σ ρ μ j (gv f v (n + 1)) D H1 G1 (upd H4 D (.lst (acc ++ [z]))) else Blk K σ ρ μ j (gv f v (n + 1)) D H1 G1 H3 := by
  obtain ⟨G, xs, S, g, h0, hG, hD, hx, hd⟩ := B.ex
  have S2 : StOk K ((wipe σ [j]).set j (some y)) H G ((ρ.set j none).set j (some (.dat dy))) μ := S.set j (show WV K G y (.dat dy) from dp_same g.gx _ _ hy)
  refine ht _ _ _ ⟨G, S2, fun H3 G3 g3 m3 => ?_⟩
  have nwD : ∀ {H' G' : Hp}, Go H G μ H' G' μ → H' D = some (.lst xs) ∧ G' D = none := fun {H' G'} g' => ⟨g'.fr D _ hx hD, by
    cases e : G' D with
    | none => rfl
    | some o =>
      rcases g'.nw D o e with z | z | z
      · rw [hG] at z; cases z
      · rw [hx] at z; cases z
      · exact absurd z hD⟩
  cases hf : f n with
  | true =>
    show te _ H3 _
    refine he hf _ _ _ ⟨G3, S2.go g3 m3, fun z H4 G4 g4 m4 wz => ?_⟩
    have g34 := g3.trans g4
    obtain ⟨q1, q2⟩ := nwD g34
    have hd4 : DpAll K G4 xs (gv f v n) := dpAll_same g34.gx _ _ hd
    refine ⟨xs, q1, by rw [dpAll_len hd4]; exact sz3l (Nat.lt_of_le_of_lt (gv_len f v n) hn), ⟨G4, xs ++ [z], ?_, ?_, h0, q2, hD, upd_same, ?_⟩⟩
    · have gsU : Same G4 (upd H4 D (.lst (xs ++ [z]))) := fun b o e => by rw [upd_ne (ne_of_none e q2)]; exact g4.gs _ _ e
      refine ⟨gsU, fun i w e => ?_, S.ln, ⟨fun i b fs e => ?_, m4.nd⟩⟩
      · obtain ⟨v', h1, h2⟩ := S.sv i w e
        exact ⟨v', h1, h2.same g34.gx⟩
      · obtain ⟨h1, zs, h2, h3⟩ := m4.on i b fs e
        have hb : b ≠ D := fun z => hD (by rw [← z]; exact List.mem_map.mpr ⟨(b, fs), List.mem_of_getElem? e, rfl⟩)
        exact ⟨h1, zs, by rw [upd_ne hb]; exact h2, h3⟩
    · have gt := g.trans g34
      refine ⟨fun b o e nm => ?_, gt.gx, fun b o e => ?_, gt.nw, gt.dm, fun b e => ?_⟩
      · rw [upd_ne (ne_of_none e h0)]; exact gt.fr b o e nm
      · rw [upd_ne (ne_of_none e q2)]; exact gt.gs _ _ e
      · by_cases hb : b = D
        · subst hb; exact h0
        · rw [upd_ne hb] at e; exact gt.al b e
    · unfold gv
      rw [if_pos hf]
      exact dpAll_app hd4 (.cons wz .nil)
  | false =>
    show Blk K σ ρ μ j (gv f v (n + 1)) D H1 G1 H3
    obtain ⟨q1, q2⟩ := nwD g3
    refine ⟨G3, xs, S.go g3 m3, g.trans g3, h0, q2, hD, q1, ?_⟩
    unfold gv
    rw [if_neg (by rw [hf]; exact Bool.false_ne_true)]
    exact dpAll_same g3.gx _ _ hd
theorem blk_start {K : PySem.W.Frag} {σ : L2.St} {j : Nat} {D : Addr} {H1 G1 : Hp} {f : Nat → Bool} {v : Nat → PyData} (S : StOk K σ H1 G1 ρ μ) (hD : H1 D = none) : Blk K σ ρ μ j (gv f v 0) D H1 G1 (upd H1 D (.lst [])) := by
  have gD : G1 D = none := S.gh.free hD
  have nm : D ∉ μ.map (·.1) := fun z => by
    obtain ⟨⟨a, es'⟩, h1, h2⟩ := List.mem_map.mp z
    obtain ⟨n, h3⟩ := List.getElem?_of_mem h1
    obtain ⟨_, xs, h4, _⟩ := S.mu.on n a es' h3
    rw [show a = D from h2, hD] at h4
    cases h4
  have gs : Same G1 (upd H1 D (.lst [])) := fun b o e => by rw [upd_ne (ne_of_none e gD)]; exact S.gh _ _ e
  have m2 : MuOk K (upd H1 D (.lst [])) G1 μ := ⟨fun i b fs e => by
    obtain ⟨h1, zs, h2, h3⟩ := S.mu.on i b fs e
    exact ⟨h1, zs, by rw [upd_ne (ne_of_none h2 hD)]; exact h2, h3⟩, S.mu.nd⟩
  refine ⟨G1, [], ⟨gs, (S.unset j).sv, (S.unset j).ln, m2⟩, ⟨fun b o e _ => by rw [upd_ne (ne_of_none e hD)]; exact e, fun _ _ e => e, gs, fun _ _ e => .inl e, fun _ h => .inl h, fun b e => ?_⟩, hD, gD, nm, upd_same, .nil⟩
  by_cases hb : b = D
  · subst hb; exact hD
  · rw [upd_ne hb] at e; exact e
/-- what a block over range(a) asks -/
abbrev tR (X : Cx) (ρ : Rho) (μ1 : Mu) (j : Nat) (f : Nat → Bool) (n : Nat) : TT := fun σ H Q => ∃ m, m < n ∧ rdT X.K ((ρ.set j none).set j (some (wi m))) μ1 (f m) μ1 σ H Q
abbrev eR (X : Cx) (ρ : Rho) (μ1 : Mu) (j : Nat) (f : Nat → Bool) (v : Nat → PyData) (n : Nat) : TE := fun σ H Q => ∃ m, m < n ∧ f m = true ∧ rdE X.K ((ρ.set j none).set j (some (wi m))) μ1 (.dat (v m)) μ1 σ H Q
theorem rd_compR {j : Nat} {f : Nat → Bool} {v : Nat → PyData} (h0 : 0 ≤ i) (h1 : i ≤ 100000) (σ : L2.St) (H : Hp) (Q : VK) (h : rdL X.K ρ μ (gv f v i.toNat) μ1 σ H Q) :
    tLc (iRng1 (rdA X.K ρ μ [wi i] μ1)) (gName j) (tR X ρ μ1 j f i.toNat) (eR X ρ μ1 j f v i.toNat) [j] σ H Q := by
  obtain ⟨G, S, q⟩ := h
  refine ⟨G, S, fun vs H1 G1 g1 m1 wvs => ?_⟩
  cases wvs with
  | cons hx' htl =>
    cases htl
    have S1 := S.go g1 m1
    refine ⟨i, by rw [wv_int hx'], by omega, by omega, fun D hD => lc_range (lo := 0) (n := i.toNat) (g := gName j) (vs := [j]) (σ := σ) (Qd := fun H => Q (V.ref D) H) (tt := tR X ρ μ1 j f i.toNat) (te := eR X ρ μ1 j f v i.toNat) (fun n H => Blk X.K σ ρ μ1 j (gv f v n) D H1 G1 H) (blk_start S1 hD) (fun n H' hn B => ?_) fun H' B => ?_⟩
    · rw [show (0 : Int) + (n : Int) = (n : Int) from Int.zero_add _]
      exact ⟨wipe1 _, blk_turn (tt := tR X ρ μ1 j f i.toNat) (te := eR X ρ μ1 j f v i.toNat) B (by omega) (Dp.int _) (fun σ H Q q => ⟨n, hn, q⟩) (fun hf σ H Q q => ⟨n, hn, hf, q⟩)⟩
    · obtain ⟨G, xs, S2, g, h0', hG, hD', hx2, hd⟩ := B.ex
      exact q D xs H' G (g1.trans g) S2.mu (g1.al D h0') hG hD' hx2 hd
/-- [elt for x in range(a) if ..] -/
theorem jl_compR (C : Fx .calm X N sc k) (j : Nat) {x : Str} (f : Nat → Bool) (v : Nat → PyData) (hm : X.mg "range" = none) (ha : JE X ρ μ a (wi i) μ1) (h0 : 0 ≤ i) (h1 : i ≤ 100000)
    (hb : blkC N sc scope [(x, j)] = true) (hN : N[j]? = some x) (hx : (relab scope sc).names.lookup x = some .local)
    (ht : ∀ (Y : Cx) (n : Nat), Fx .calm Y N (relab scope sc) k → SameEnv X Y → n < i.toNat → JTs Y ((ρ.set j none).set j (some (wi n))) μ1 ifs (f n) μ1)
    (he : ∀ (Y : Cx) (n : Nat), Fx .calm Y N (relab scope sc) k → SameEnv X Y → n < i.toNat → f n = true → JE Y ((ρ.set j none).set j (some (wi n))) μ1 elt (.dat (v n)) μ1)
    (hg : sc.names.lookup ("range" : Str) = some .globalImplicit := by rfl) (hst : starEach [a] X.env = (false, eval a X.env) :: starEach [] X.env := by rfl) :
    JL X ρ μ (.ListComp elt [⟨.Name x p, .Call (.Name "range" p3) [a] [] p2, ifs, 0⟩] scope pos) (gv f v i.toNat) μ1 :=
  PE.imp (pe_lc (own := [(x, j)]) (g := gName j) (tt := tR X ρ μ1 j f i.toNat) (te := eR X ρ μ1 j f v i.toNat)
    C.calm (by rw [C.n]; exact C.nd) (pi_range1 (C.gl hg) hm (ja_cons ha ja_nil hst) hst) (by rw [C.n, C.s]; exact blkOk_by hb)
    (fun s H Cc cl fp => pg_name (i := j) (by rw [(blk_fx C s H Cc cl fp).1.n]; exact C.nd) (by rw [(blk_fx C s H Cc cl fp).1.n]; exact hN) (by rw [(blk_fx C s H Cc cl fp).1.s]; exact .inl hx) (.inr (by rw [(blk_fx C s H Cc cl fp).1.s]; exact hx)))
    (fun s H Cc cl fp => ⟨fun pins s' σ H' Q I ⟨n, hn, q⟩ => (ht _ n (blk_fx C s H Cc cl fp).1 (blk_fx C s H Cc cl fp).2 hn).run pins s' σ H' Q I q⟩)
    (fun s H Cc cl fp => ⟨fun pins s' σ H' Q I ⟨n, hn, hf, q⟩ => (he _ n (blk_fx C s H Cc cl fp).1 (blk_fx C s H Cc cl fp).2 hn hf).run pins s' σ H' Q I q⟩)) fun σ H Q h => rd_compR h0 h1 σ H Q h
/-- what a block over a list asks -/
abbrev tL (X : Cx) (ρ : Rho) (μ1 : Mu) (j : Nat) (f : Nat → Bool) (ds : List PyData) : TT := fun σ H Q => ∃ n d, ds[n]? = some d ∧ rdT X.K ((ρ.set j none).set j (some (.dat d))) μ1 (f n) μ1 σ H Q
abbrev eL (X : Cx) (ρ : Rho) (μ1 : Mu) (j : Nat) (f : Nat → Bool) (v : Nat → PyData) (ds : List PyData) : TE := fun σ H Q => ∃ n d, ds[n]? = some d ∧ f n = true ∧ rdE X.K ((ρ.set j none).set j (some (.dat d))) μ1 (.dat (v n)) μ1 σ H Q
theorem rd_compL {j : Nat} {f : Nat → Bool} {v : Nat → PyData} (h1 : ds.length ≤ 100000) (σ : L2.St) (H : Hp) (Q : VK) (h : rdL X.K ρ μ (gv f v ds.length) μ1 σ H Q) :
    tLc (iList X.K (rdE X.K ρ μ (.dat (.list ds)) μ1)) (gName j) (tL X ρ μ1 j f ds) (eL X ρ μ1 j f v ds) [j] σ H Q := by
  obtain ⟨G, S, q⟩ := h
  refine ⟨G, S, fun vv H1 G1 g1 m1 wv => ?_⟩
  obtain ⟨l, ys, rfl, hsq, hdp⟩ := wv_lst wv
  have S1 := S.go g1 m1
  have hlen := dpAll_len hdp
  refine ⟨l, rfl, ⟨ys, g1.gs.seq hsq⟩, fun D hD => lc_list (K := X.K) (a := l) (xs := ys) (g := gName j) (vs := [j]) (σ := σ) (Qd := fun H => Q (V.ref D) H) (tt := tL X ρ μ1 j f ds) (te := eL X ρ μ1 j f v ds) (fun n H => Blk X.K σ ρ μ1 j (gv f v n) D H1 G1 H) (blk_start S1 hD) (fun n H' _ B => ?_) (fun n y H' hy B => ?_) fun H' B => ?_⟩
  · obtain ⟨G, xs, S2, g, _⟩ := B.ex
    exact (g.gx.trans g.gs).seq hsq
  · obtain ⟨dd, e1, e2⟩ := dpAll_getV hdp hy
    have hn : n < ys.length := (List.getElem?_eq_some_iff.mp hy).1
    exact ⟨wipe1 _, blk_turn (tt := tL X ρ μ1 j f ds) (te := eL X ρ μ1 j f v ds) B (by omega) e2 (fun σ H Q q => ⟨n, dd, e1, q⟩) (fun hf σ H Q q => ⟨n, dd, e1, hf, q⟩)⟩
  · obtain ⟨G, xs, S2, g, h0', hG, hD', hx2, hd⟩ := B.ex
    rw [hlen] at hd
    exact q D xs H' G (g1.trans g) S2.mu (g1.al D h0') hG hD' hx2 hd
/-- [elt for x in list if ..] -/
theorem jl_compL (C : Fx .calm X N sc k) (j : Nat) {x : Str} (f : Nat → Bool) (v : Nat → PyData) (ha : JE X ρ μ a (.dat (.list ds)) μ1) (h1 : ds.length ≤ 100000)
    (hb : blkC N sc scope [(x, j)] = true) (hN : N[j]? = some x) (hx : (relab scope sc).names.lookup x = some .local)
    (ht : ∀ (Y : Cx) (n : Nat) (d : PyData), Fx .calm Y N (relab scope sc) k → SameEnv X Y → ds[n]? = some d → JTs Y ((ρ.set j none).set j (some (.dat d))) μ1 ifs (f n) μ1)
    (he : ∀ (Y : Cx) (n : Nat) (d : PyData), Fx .calm Y N (relab scope sc) k → SameEnv X Y → ds[n]? = some d → f n = true → JE Y ((ρ.set j none).set j (some (.dat d))) μ1 elt (.dat (v n)) μ1)
    (hfs : ∀ x, foldedSetIterable a X.env x = pure x := by intro _; rfl) :
    JL X ρ μ (.ListComp elt [⟨.Name x p, a, ifs, 0⟩] scope pos) (gv f v ds.length) μ1 :=
  PE.imp (pe_lc (own := [(x, j)]) (g := gName j) (tt := tL X ρ μ1 j f ds) (te := eL X ρ μ1 j f v ds)
    C.calm (by rw [C.n]; exact C.nd) (pi_list ha) (by rw [C.n, C.s]; exact blkOk_by hb)
    (fun s H Cc cl fp => pg_name (i := j) (by rw [(blk_fx C s H Cc cl fp).1.n]; exact C.nd) (by rw [(blk_fx C s H Cc cl fp).1.n]; exact hN) (by rw [(blk_fx C s H Cc cl fp).1.s]; exact .inl hx) (.inr (by rw [(blk_fx C s H Cc cl fp).1.s]; exact hx)))
    (fun s H Cc cl fp => ⟨fun pins s' σ H' Q I ⟨n, d, hn, q⟩ => (ht _ n d (blk_fx C s H Cc cl fp).1 (blk_fx C s H Cc cl fp).2 hn).run pins s' σ H' Q I q⟩)
    (fun s H Cc cl fp => ⟨fun pins s' σ H' Q I ⟨n, d, hn, hf, q⟩ => (he _ n d (blk_fx C s H Cc cl fp).1 (blk_fx C s H Cc cl fp).2 hn hf).run pins s' σ H' Q I q⟩) hfs) fun σ H Q h => rd_compL h1 σ H Q h
/-- a list that is made is known from now on -/
theorem rdL_je {w : List PyData} {σ : L2.St} {H : Hp} {Q : VK} (h : rdE X.K ρ μ (.dat (.list ds)) μ1 σ H Q) : rdL X.K ρ μ ds μ1 σ H Q := by
  obtain ⟨G, S, q⟩ := h
  refine ⟨G, S, fun t xs H1 G1 g1 m1 h0 gt tm ht hd => ?_⟩
  have gx : Same G1 (upd G1 t (.lst xs)) := fun b u eb => by rw [upd_ne (ne_of_none eb gt)]; exact eb
  refine q _ H1 (upd G1 t (.lst xs)) ⟨g1.fr, g1.gx.trans gx, fun b u eb => ?_, fun b u eb => ?_, g1.dm, g1.al⟩ ⟨fun n b es' eb => ?_, m1.nd⟩ (Dp.lst (SqL.of upd_same) (dpAll_same gx _ _ hd))
  · by_cases hb : b = t
    · subst hb; rw [upd_same] at eb; cases eb; exact ht
    · rw [upd_ne hb] at eb; exact g1.gs _ _ eb
  · by_cases hb : b = t
    · subst hb; exact .inr (.inl h0)
    · rw [upd_ne hb] at eb; exact g1.nw _ _ eb
  · obtain ⟨h1, xs', h2, h3⟩ := m1.on n b es' eb
    have hbt : b ≠ t := fun z => tm (by rw [← z]; exact List.mem_map.mpr ⟨(b, es'), List.mem_of_getElem? eb, rfl⟩)
    exact ⟨by rw [upd_ne hbt]; exact h1, xs', h2, OOk.same gx h3⟩
/-- name = [elt for x in list if ..], on one line -/
theorem js_setL {Φ : Out → Prop} (C : Fb .calm X N sc k) (n j : Nat) {y x : Str} {py spos : Pos} (f : Nat → Bool) (v : Nat → PyData) (ha : JE X ρ μ a (.dat (.list ds)) μ1) (h1 : ds.length ≤ 100000)
    (hb : blkC N sc scope [(x, j)] = true) (hN : N[j]? = some x) (hx : (relab scope sc).names.lookup x = some .local)
    (ht : ∀ (Y : Cx) (n : Nat) (d : PyData), Fx .calm Y N (relab scope sc) k → SameEnv X Y → ds[n]? = some d → JTs Y ((ρ.set j none).set j (some (.dat d))) μ1 ifs (f n) μ1)
    (he : ∀ (Y : Cx) (n : Nat) (d : PyData), Fx .calm Y N (relab scope sc) k → SameEnv X Y → ds[n]? = some d → f n = true → JE Y ((ρ.set j none).set j (some (.dat d))) μ1 elt (.dat (v n)) μ1)
    (hF : Φ (.nx (ρ.set n (some (.dat (.list (gv f v ds.length))))) μ1))
    (hy : N[n]? = some y := by rfl) (hyl : sc.names.lookup y = some .local := by rfl) (hk : sc.kind = .function := by rfl) (hln : (py.line == pos.line) = true := by rfl) (hany : (scope.names.any fun (n, k) => n == y && (k == .local || k == .cell)) = false := by decide +kernel)
    (hfs : ∀ x, foldedSetIterable a X.env x = pure x := by intro _; rfl) :
    JS X ρ μ (.Assign [.Name y py] (.ListComp elt [⟨.Name x p, a, ifs, 0⟩] scope pos) spos) Φ :=
  fun Wx tk => PS.imp (ps_setLc (i := n) (own := [(x, j)]) (g := gName j) (tt := tL X ρ μ1 j f ds) (te := eL X ρ μ1 j f v ds)
    C.toFx.calm (by rw [C.n]; exact C.nd) (by rw [C.n]; exact hy) (by rw [C.s]; exact hyl) (sw_true (by rw [C.s]; exact hk) (by rw [C.s]; exact hyl) hln hany) (pi_list ha) (by rw [C.n, C.s]; exact blkOk_by hb)
    (fun s H Cc cl fp => pg_name (i := j) (by rw [(blk_fx C.toFx s H Cc cl fp).1.n]; exact C.nd) (by rw [(blk_fx C.toFx s H Cc cl fp).1.n]; exact hN) (by rw [(blk_fx C.toFx s H Cc cl fp).1.s]; exact .inl hx) (.inr (by rw [(blk_fx C.toFx s H Cc cl fp).1.s]; exact hx)))
    (fun s H Cc cl fp => ⟨fun pins s' σ H' Q I ⟨n, d, hn, q⟩ => (ht _ n d (blk_fx C.toFx s H Cc cl fp).1 (blk_fx C.toFx s H Cc cl fp).2 hn).run pins s' σ H' Q I q⟩)
    (fun s H Cc cl fp => ⟨fun pins s' σ H' Q I ⟨n, d, hn, hf, q⟩ => (he _ n d (blk_fx C.toFx s H Cc cl fp).1 (blk_fx C.toFx s H Cc cl fp).2 hn hf).run pins s' σ H' Q I q⟩) hfs) fun D σ H ⟨G, S, Wn⟩ =>
      rd_compL h1 σ H _ (rdL_je (w := []) ⟨G, S, fun v' H1 G1 g1 m1 wv => Wn.nx _ _ _ _ _ hF g1 ((S.go g1 m1).set n wv)⟩)
/-! ### more of texts, lists, tuples -/
def cutD (ds : List PyData) (lo hi : Option Int) : List PyData := (ds.drop (HT.sIx ds.length 0 lo)).take (HT.sIx ds.length ds.length hi - HT.sIx ds.length 0 lo)
theorem dpAll_cut {K : PySem.W.Frag} {G : Hp} {xs : List V} {lo hi : Option Int} (h : DpAll K G xs ds) : DpAll K G (cutV xs lo hi) (cutD ds lo hi) := by
  unfold cutV cutD
  rw [dpAll_len h]
  exact dpAll_take _ (dpAll_drop _ h)
theorem fresh_mu {K : PySem.W.Frag} {H G : Hp} {t : Addr} (m : MuOk K H G μ) (ht : H t = none) : t ∉ μ.map (·.1) := fun z => by
  obtain ⟨⟨a, es'⟩, h1, h2⟩ := List.mem_map.mp z
  obtain ⟨n, h3⟩ := List.getElem?_of_mem h1
  obtain ⟨_, xs, h4, _⟩ := m.on n a es' h3
  rw [show a = t from h2, ht] at h4
  cases h4
/-- a new list is laid, not yet known -/
theorem lay_l {K : PySem.W.Frag} {H G : Hp} {t : Addr} {o : HO} (gh : Same G H) (m : MuOk K H G μ) (ht : H t = none) : Go H G μ (upd H t o) G μ ∧ MuOk K (upd H t o) G μ ∧ G t = none ∧ t ∉ μ.map (·.1) := by
  have gt : G t = none := gh.free ht
  refine ⟨⟨fun b o eb _ => by rw [upd_ne (ne_of_none eb ht)]; exact eb, fun _ _ z => z, fun b u eb => by rw [upd_ne (ne_of_none eb gt)]; exact gh _ _ eb, fun _ _ z => .inl z, fun _ z => .inl z, fun b eb => ?_⟩, ⟨fun n b es' eb => ?_, m.nd⟩, gt, fresh_mu m ht⟩
  · by_cases hb : b = t
    · subst hb; exact ht
    · rw [upd_ne hb] at eb; exact eb
  · obtain ⟨h1, xs, h2, h3⟩ := m.on n b es' eb
    exact ⟨h1, xs, by rw [upd_ne (ne_of_none h2 ht)]; exact h2, h3⟩
theorem jl_sl {lo hi : Option Expr} {l h : Option Int} (ha : JE X ρ μ a (.dat (.list ds)) μ1) (h1 : JO X ρ μ1 lo l μ2) (h2 : JO X ρ μ2 hi h μ3) : JL X ρ μ (.Subscript a (.Slice lo hi none p2) pos) (cutD ds l h) μ3 :=
  PE.imp (pe_slice sl_list ha h1 h2) fun σ H Q ⟨G, S, q⟩ => ⟨G, S, fun v H1 G1 g1 m1 wv => ⟨G1, S.go g1 m1, fun H2 G2 g2 m2 => ⟨G2, (S.go g1 m1).go g2 m2, fun H3 G3 g3 m3 => by
    obtain ⟨l, xs, rfl, hs, hd⟩ := wv_lst wv
    refine ⟨l, xs, rfl, ((g2.trans g3).gx.trans g3.gs).seq hs, fun t ht => ?_⟩
    obtain ⟨g4, m4, gt, tm⟩ := lay_l (o := .lst (cutV xs _ _)) g3.gs m3 ht
    have gg := (g1.trans g2).trans g3
    exact q t _ _ G3 (gg.trans g4) m4 (gg.al t ht) gt tm upd_same (dpAll_same (g2.trans g3).gx _ _ (dpAll_cut hd))⟩⟩⟩
theorem jl_slLoc {lo hi : Option Expr} {l h : Option Int} {ad : Addr} {n : Nat} (ha : JE X ρ μ a (.loc ad) μ1) (h1 : JO X ρ μ1 lo l μ2) (h2 : JO X ρ μ2 hi h μ3) (hl : μ3[n]? = some (ad, OD.l ds)) : JL X ρ μ (.Subscript a (.Slice lo hi none p2) pos) (cutD ds l h) μ3 :=
  PE.imp (pe_slice sl_list ha h1 h2) fun σ H Q ⟨G, S, q⟩ => ⟨G, S, fun v H1 G1 g1 m1 wv => ⟨G1, S.go g1 m1, fun H2 G2 g2 m2 => ⟨G2, (S.go g1 m1).go g2 m2, fun H3 G3 g3 m3 => by
    cases (show v = .ref ad from wv)
    obtain ⟨_, _, hx, xs, rfl, hd⟩ := m3.on n ad _ hl
    refine ⟨ad, xs, rfl, SqL.of hx, fun t ht => ?_⟩
    obtain ⟨g4, m4, gt, tm⟩ := lay_l (o := .lst (cutV xs _ _)) g3.gs m3 ht
    have gg := (g1.trans g2).trans g3
    exact q t _ _ G3 (gg.trans g4) m4 (gg.al t ht) gt tm upd_same (dpAll_cut hd)⟩⟩⟩
theorem je_cat {x y : Str} (ha : JE X ρ μ a (.dat (.str x)) μ1) (hb : JE X ρ μ1 b (.dat (.str y)) μ2) (h : x.length + y.length ≤ 100000) : JE X ρ μ (.BinOp a .Add b pos) (.dat (.str (x ++ y))) μ2 :=
  je_op op_add_str ha hb fun G H u v Q _ hx hy q => ⟨x, y, wv_str hx, wv_str hy, sz3 h, q _ (Dp.str _)⟩
theorem op_mulS : OpR X (binaryOp .Mult) (fun x y H Q => ∃ z n, x = .str z ∧ y = .int n ∧ MulOk z n ∧ Q (.str (Txt.mul z n)) H) := by
  intro pins s σ H x y v u Q I rx ry h
  obtain ⟨z, n, rfl, rfl, hok, q⟩ := h
  obtain ⟨t, rfl⟩ := (show ∃ t, v = Value.str z t from rx)
  obtain ⟨t2, rfl⟩ := (show ∃ t, u = Value.int n t from ry)
  exact PySem.SB.mul hok fun t' k => ⟨.str _, H, I.tok k, ⟨t', rfl⟩, q⟩
theorem je_mulS {x : Str} (ha : JE X ρ μ a (.dat (.str x)) μ1) (hb : JE X ρ μ1 b (wi i) μ2) (h : MulOk x i) : JE X ρ μ (.BinOp a .Mult b pos) (.dat (.str (Txt.mul x i))) μ2 :=
  je_op op_mulS ha hb fun G H u v Q _ hx hy q => ⟨x, i, wv_str hx, wv_int hy, h, q _ (Dp.str _)⟩
/-- tuple(a list) -/
theorem je_tupleL (C : Fx md X N sc k) (hm : X.mg "tuple" = none) (ha : JE X ρ μ a (.dat (.list ds)) μ1) (hg : sc.names.lookup ("tuple" : Str) = some .globalImplicit := by rfl)
    (he : starEach [a] X.env = (false, eval a X.env) :: starEach [] X.env := by rfl) (hpl : (backTo pos (starEach [] X.env)).any (·.1) = false := by rfl) : JE X ρ μ (.Call (.Name "tuple" p) [a] [] pos) (.dat (.tuple ds)) μ1 :=
  PE.imp (pe_callTy call_tuple_of (C.gl hg) hm PyProof.Rows.boot_tuple (ja_cons ha ja_nil he) (he := he) (hpl := hpl)) fun σ H Q ⟨G, S, q⟩ => ⟨G, S, fun vs H1 G1 g1 m1 wvs => by
    cases wvs with
    | cons h t =>
      cases t
      obtain ⟨l, ys, rfl, hs, hd⟩ := wv_lst h
      refine ⟨l, ys, rfl, .inl ⟨g1.gs.seq hs, fun t ht => ?_⟩⟩
      obtain ⟨g2, m2⟩ := Go.lay (K := X.K) (o := .tup ys) g1.gs m1 ht
      exact q _ _ _ (g1.trans g2) m2 (Dp.tup (SqT.of upd_same) (dpAll_same g2.gx _ _ hd))⟩
end
end RB
namespace RB
open PySem PySem.Spec PyProof.Rows L2
section
variable {md : Md} {X : Cx} {N : List Str} {sc : Scope} {k : Nat} {ρ ρ1 : Rho} {μ μ1 μ2 μ3 μ' : Mu} {w wa wb' : W} {a b c e elt : Expr} {es ifs : List Expr} {pos p p2 p3 cp ap : Pos} {d d2 : PyData} {ds es2 : List PyData} {i : Int} {b1 b2 : Bool} {scope : Scope} {Φ Φ' : Out → Prop} {st : Stmt} {rest body els : List Stmt}
theorem jss_end (h : JSs X ρ μ rest Φ) : JSs X ρ μ [] (Kn X rest Φ) := jss_nil h
theorem jss_ret (h : JE X ρ μ e w μ1) (f : Φ (.rt w μ1)) : JSs X ρ μ (.Return (some e) pos :: rest) Φ := jss_cons (js_ret h f)
theorem jss_retL (h : JL X ρ μ e ds μ1) (f : Φ (.rl ds μ1)) : JSs X ρ μ (.Return (some e) pos :: rest) Φ := jss_cons (js_retL h f)
theorem jss_retN (f : Φ (.rt wn μ)) : JSs X ρ μ (.Return none pos :: rest) Φ := jss_cons (js_retN f)
theorem jss_asg (C : Fb md X N sc k) (n : Nat) {x : Str} (h : JE X ρ μ e w μ1) (f : JSs X (ρ.set n (some w)) μ1 rest Φ) (hN : N[n]? = some x := by rfl) (hv : Loc sc x := by first | exact Or.inl rfl | exact Or.inr rfl)
    (hs : swapsWithSole [Expr.Name x p] e pos.line X.env = pure false := by rfl) (hw : swappedStores [Expr.Name x p] e X.env = pure none := by rfl) (h1 : (assignEach [Expr.Name x p] X.env).map (·.2) = [assign (Expr.Name x p) X.env] := by rfl) :
    JSs X ρ μ (.Assign [.Name x p] e pos :: rest) Φ := jss_cons (js_asg C n h f hN hv hs hw h1)
theorem jss_asgL (C : Fb md X N sc k) (n : Nat) {x : Str} (h : JL X ρ μ e ds μ1) (f : ∀ l, JSs X (ρ.set n (some (.loc l))) ((l, OD.l ds) :: μ1) rest Φ) (hN : N[n]? = some x := by rfl) (hv : Loc sc x := by first | exact Or.inl rfl | exact Or.inr rfl)
    (hs : swapsWithSole [Expr.Name x p] e pos.line X.env = pure false := by rfl) (hw : swappedStores [Expr.Name x p] e X.env = pure none := by rfl) (h1 : (assignEach [Expr.Name x p] X.env).map (·.2) = [assign (Expr.Name x p) X.env] := by rfl) :
    JSs X ρ μ (.Assign [.Name x p] e pos :: rest) Φ := jss_cons (js_asgL C n h f hN hv hs hw h1)
theorem jss_expr (h : JE X ρ μ e w μ1) (f : JSs X ρ μ1 rest Φ) (hd : swapsWith e none pos.line X.env = pure false := by rfl) : JSs X ρ μ (.Expr e pos :: rest) Φ := jss_cons (js_expr h f hd)
theorem jss_if (h : JT X ρ μ c b1 μ1) (h1 : b1 = true → JSs X ρ μ1 body (Kn X rest Φ)) (h2 : b1 = false → JSs X ρ μ1 els (Kn X rest Φ)) : JSs X ρ μ (.If c body els pos :: rest) Φ := jss_cons (js_if h h1 h2)
theorem jss_if0 (h : JT X ρ μ c b1 μ1) (h1 : b1 = true → JSs X ρ μ1 body (Kn X rest Φ)) (h2 : b1 = false → JSs X ρ μ1 rest Φ) : JSs X ρ μ (.If c body [] pos :: rest) Φ := jss_cons (js_if h h1 fun q => jss_end (h2 q))
theorem jss_forR (C : Fb .calm X N sc k) (n : Nat) {x : Str} (hm : X.mg "range" = none) (ha : JE X ρ μ a (wi i) μ1) (h0 : -(2 ^ 62) ≤ i) (h1 : i < 2 ^ 62) (Inv : Nat → Rho → Mu → Prop) (hi : Inv 0 ρ μ1)
    (hs : ∀ m ρ' μ', m < i.toNat → Inv m ρ' μ' → JSs X (ρ'.set n (some (wi m))) μ' body (LpR (Inv (m + 1)) (Kn X rest Φ))) (hd : ∀ ρ' μ', Inv i.toNat ρ' μ' → JSs X ρ' μ' rest Φ)
    (hN : N[n]? = some x := by rfl) (hv : Loc sc x := by first | exact Or.inl rfl | exact Or.inr rfl) (hg : sc.names.lookup ("range" : Str) = some .globalImplicit := by rfl) (hst : starEach [a] X.env = (false, eval a X.env) :: starEach [] X.env := by rfl) :
    JSs X ρ μ (.For (.Name x p) (.Call (.Name "range" p3) [a] [] p2) body [] pos :: rest) Φ := jss_cons (js_forR C n hm ha h0 h1 Inv hi hs hd hN hv hg hst)
theorem jss_forL (C : Fb .calm X N sc k) (n : Nat) {x : Str} (ha : JE X ρ μ a (.dat (.list ds)) μ1) (Inv : Nat → Rho → Mu → Prop) (hi : Inv 0 ρ μ1)
    (hs : ∀ m d ρ' μ', ds[m]? = some d → Inv m ρ' μ' → JSs X (ρ'.set n (some (.dat d))) μ' body (LpR (Inv (m + 1)) (Kn X rest Φ))) (hd : ∀ ρ' μ', Inv ds.length ρ' μ' → JSs X ρ' μ' rest Φ)
    (hN : N[n]? = some x := by rfl) (hv : Loc sc x := by first | exact Or.inl rfl | exact Or.inr rfl) (hfs : ∀ x, foldedSetIterable a X.env x = pure x := by intro _; rfl) :
    JSs X ρ μ (.For (.Name x p) a body [] pos :: rest) Φ := jss_cons (js_forL C n ha Inv hi hs hd hN hv hfs)
theorem jss_while (C : Fb md X N sc k) (Inv : Nat → Rho → Mu → Prop) (m0 : Nat) (hi : Inv m0 ρ μ)
    (hs : ∀ m ρ' μ', Inv m ρ' μ' → ∃ b, JT X ρ' μ' c b μ' ∧ (b = true → JSs X ρ' μ' body (LpR (fun r u => ∃ m', m' < m ∧ Inv m' r u) (Kn X rest Φ))) ∧ (b = false → JSs X ρ' μ' rest Φ)) :
    JSs X ρ μ (.While c body [] pos :: rest) Φ := jss_cons (js_while C Inv m0 hi hs)

/-! ### defs as they stand -/
def DefAt (K : PySem.W.Frag) (mg : Str → Option Value) (x : Str) (st : Stmt) (ps : List Str) : Prop := ∃ f fd, Fun K x x st f fd ∧ mg x = some (.ref f) ∧ Binds K fd ps []
theorem cal_atM (md : Md) (hmd : md ≠ .cold) {P : Program} {wd : World} {K : PySem.W.Frag} {mg : Str → Option Value} {base : Heap} {x : Str} {st : Stmt} {N ps : List Str} {k : Nat} {R : List W → Mu → W → Mu → Prop} (A : DefAt K mg x st ps) (S : FnScope N ps (defScope st))
    (hl : ∀ ws μ w μ', R ws μ w μ' → ws.length = ps.length)
    (body : ∀ X : Cx, IsEnv X P wd K mg base → Fb md X N (defScope st) k → ∀ ws μ w μ', R ws μ w μ' →
      JSs X (ws.map some ++ List.replicate (N.length - ws.length) none) μ (defBody st) fun o => o = .rt w μ' ∨ (w = wn ∧ ∃ ρ', o = .nx ρ' μ')) : CalG md P wd K mg base (k + 1) x R noX := by
  obtain ⟨f, fd, F, hm, b⟩ := A
  exact cal_of md hmd F S hm b hl (fun _ _ _ _ h => False.elim h) body (fun _ _ _ _ _ _ _ h => False.elim h)
theorem cal_at {P : Program} {wd : World} {K : PySem.W.Frag} {mg : Str → Option Value} {base : Heap} {x : Str} {st : Stmt} {N ps : List Str} {k : Nat} {R : List W → Mu → W → Mu → Prop} (A : DefAt K mg x st ps) (S : FnScope N ps (defScope st))
    (hl : ∀ ws μ w μ', R ws μ w μ' → ws.length = ps.length)
    (body : ∀ X : Cx, IsEnv X P wd K mg base → Fb .calm X N (defScope st) k → ∀ ws μ w μ', R ws μ w μ' →
      JSs X (ws.map some ++ List.replicate (N.length - ws.length) none) μ (defBody st) fun o => o = .rt w μ' ∨ (w = wn ∧ ∃ ρ', o = .nx ρ' μ')) : CalW P wd K mg base (k + 1) x R := cal_atM .calm (fun z => Md.noConfusion z) A S hl body
/-- a def that may raise: what it gives, what it raises -/
theorem cal_atE (md : Md) (hmd : md ≠ .cold) {P : Program} {wd : World} {K : PySem.W.Frag} {mg : Str → Option Value} {base : Heap} {x : Str} {st : Stmt} {N ps : List Str} {k : Nat} {R : List W → Mu → W → Mu → Prop} {RE : List W → Mu → Value → Mu → Prop} (A : DefAt K mg x st ps) (S : FnScope N ps (defScope st))
    (hl : ∀ ws μ w μ', R ws μ w μ' → ws.length = ps.length) (hlE : ∀ ws μ w μ', RE ws μ w μ' → ws.length = ps.length)
    (body : ∀ X : Cx, IsEnv X P wd K mg base → Fb md X N (defScope st) k → ∀ ws μ w μ', R ws μ w μ' →
      JSs X (ws.map some ++ List.replicate (N.length - ws.length) none) μ (defBody st) fun o => o = .rt w μ' ∨ (w = wn ∧ ∃ ρ', o = .nx ρ' μ'))
    (bodyE : ∀ X : Cx, IsEnv X P wd K mg base → Fb md X N (defScope st) k → ∀ ws μ c μ', RE ws μ c μ' →
      JSs X (ws.map some ++ List.replicate (N.length - ws.length) none) μ (defBody st) fun o => ∃ ρ', o = .ex c ρ' μ') : CalG md P wd K mg base (k + 1) x R RE := by
  obtain ⟨f, fd, F, hm, b⟩ := A
  exact cal_of md hmd F S hm b hl hlE body bodyE
theorem cal_atL {P : Program} {wd : World} {K : PySem.W.Frag} {mg : Str → Option Value} {base : Heap} {x : Str} {st : Stmt} {N ps : List Str} {k : Nat} {R : List W → Mu → List PyData → Mu → Prop} (A : DefAt K mg x st ps) (S : FnScope N ps (defScope st))
    (hl : ∀ ws μ w μ', R ws μ w μ' → ws.length = ps.length ∧ μ' = μ)
    (body : ∀ X : Cx, IsEnv X P wd K mg base → Fb .calm X N (defScope st) k → ∀ ws μ ds μ', R ws μ ds μ' →
      JSs X (ws.map some ++ List.replicate (N.length - ws.length) none) μ (defBody st) fun o => o = .rl ds μ') : CalL P wd K mg base (k + 1) x R := by
  obtain ⟨f, fd, F, hm, b⟩ := A
  exact cal_ofL F S hm b hl body
theorem CalG.here {md : Md} {X : Cx} {P : Program} {wd : World} {K : PySem.W.Frag} {mg : Str → Option Value} {base : Heap} {x : Str} {j : Nat} {R : List W → Mu → W → Mu → Prop} {RE : List W → Mu → Value → Mu → Prop} (h : CalG md P wd K mg base j x R RE) (E : IsEnv X P wd K mg base) : CalGX md X j x R RE := by
  unfold CalGX
  rw [E.p, E.w, E.K, E.m, E.b]
  exact h
theorem CalL.here {P : Program} {wd : World} {K : PySem.W.Frag} {mg : Str → Option Value} {base : Heap} {x : Str} {j : Nat} {R : List W → Mu → List PyData → Mu → Prop} (h : CalL P wd K mg base j x R) (E : IsEnv X P wd K mg base) : CalLX X j x R := by
  unfold CalLX
  rw [E.p, E.w, E.K, E.m, E.b]
  exact h
theorem IsEnv.sub {Y : Cx} {P : Program} {wd : World} {K : PySem.W.Frag} {mg : Str → Option Value} {base : Heap} (E : IsEnv X P wd K mg base) (s : SameEnv X Y) : IsEnv Y P wd K mg base := ⟨s.p.trans E.p, s.w.trans E.w, s.K.trans E.K, s.m.trans E.m, s.b.trans E.b⟩
theorem IsEnv.mg_eq {P : Program} {wd : World} {K : PySem.W.Frag} {mg : Str → Option Value} {base : Heap} (E : IsEnv X P wd K mg base) {x : Str} {o : Option Value} (h : mg x = o) : X.mg x = o := by rw [E.m]; exact h

/-! ### more of == -/
theorem je_eqs {x y : Str} (ha : JE X ρ μ a (.dat (.str x)) μ1) (hb : JE X ρ μ1 b (.dat (.str y)) μ2) : JE X ρ μ (.Compare a [.Eq] [b] pos) (wb (decide (x = y))) μ2 :=
  je_cmp op_eq ha hb (nomark _) fun G H u v Q _ hx hy q => by
    rw [wv_str hx, wv_str hy]
    refine ⟨rfl, q _ ?_⟩
    have e : decide (V.str x = V.str y) = decide (x = y) := by
      by_cases h : x = y
      · subst h; simp
      · rw [decide_eq_false h, decide_eq_false fun q => h (V.str.inj q)]
    rw [e]
    exact Dp.bl _
theorem je_eqn (ha : JE X ρ μ a wn μ1) (hb : JE X ρ μ1 b wn μ2) : JE X ρ μ (.Compare a [.Eq] [b] pos) (wb true) μ2 :=
  je_cmp op_eq ha hb (nomark _) fun G H u v Q _ hx hy q => by rw [wv_non hx, wv_non hy]; exact ⟨rfl, q _ (by rw [show decide (V.non = V.non) = true from rfl]; exact Dp.bl _)⟩
theorem mu_tail {K : PySem.W.Frag} {H G : Hp} {q : Addr × OD} (m : MuOk K H G (q :: μ)) : MuOk K H G μ := ⟨fun n a es e => m.on (n + 1) a es e, by
  have nd := m.nd
  rw [List.map_cons] at nd
  exact (List.nodup_cons.mp nd).2⟩
theorem go_tail {H G H' G' : Hp} {q : Addr × OD} (g : Go H G μ H' G' (q :: μ1)) : Go H G μ H' G' μ1 := ⟨g.fr, g.gx, g.gs, g.nw, fun a h => g.dm a (List.mem_cons_of_mem _ h), g.al⟩
theorem mu_own {K : PySem.W.Frag} {H G : Hp} {l : Addr} {xs : List V} (m1 : MuOk K H G μ1) (gl : G l = none) (lm : l ∉ μ1.map (·.1)) (hl : H l = some (.lst xs)) (hd : DpAll K G xs ds) : MuOk K H G ((l, OD.l ds) :: μ1) := ⟨fun n a es e => by
  cases n with
  | zero => cases e; exact ⟨gl, _, hl, xs, rfl, hd⟩
  | succ n => exact m1.on n a es e, by
  rw [List.map_cons]
  exact List.nodup_cons.mpr ⟨lm, m1.nd⟩⟩
theorem go_own {H G H1 G1 : Hp} {l : Addr} (g1 : Go H G μ H1 G1 μ1) (h0 : H l = none) : Go H G μ H1 G1 ((l, OD.l ds) :: μ1) := ⟨g1.fr, g1.gx, g1.gs, g1.nw, fun a h => by
  rw [List.map_cons] at h
  rcases List.mem_cons.mp h with h | h
  · rw [h]; exact .inr h0
  · exact g1.dm a h, g1.al⟩
theorem dpAll_rep {K : PySem.W.Frag} {G : Hp} {xs : List V} (h : DpAll K G xs ds) : ∀ n : Nat, DpAll K G (List.replicate n xs).flatten (List.replicate n ds).flatten
  | 0 => .nil
  | n + 1 => by rw [List.replicate_succ, List.replicate_succ, List.flatten_cons, List.flatten_cons]; exact dpAll_app h (dpAll_rep h n)
/-- a list times an int, the list new -/
theorem jl_rep (ha : JL X ρ μ a ds μ1) (hb : ∀ l, JE X ρ ((l, OD.l ds) :: μ1) b (wi i) ((l, OD.l ds) :: μ1)) (h0 : 0 ≤ i ∧ i ≤ 100000) (h1 : ds.length * i.toNat ≤ 100000) : JL X ρ μ (.BinOp a .Mult b pos) (List.replicate i.toNat ds).flatten μ1 :=
  PE.imp (pe_op op_rep ha (⟨fun pins s σ H Q I ⟨l, q⟩ => (hb l).run pins s σ H Q I q⟩ : PE X b (fun σ H Q => ∃ l, rdE X.K ρ ((l, OD.l ds) :: μ1) (wi i) ((l, OD.l ds) :: μ1) σ H Q))) fun σ H Q ⟨G, S, q⟩ => ⟨G, S, fun l xs H1 G1 g1 m1 h0' gl lm hl hd => by
    refine ⟨l, G1, S.go (go_own g1 h0') (mu_own m1 gl lm hl hd), fun y H2 G2 g3 m3 wy => ?_⟩
    obtain ⟨_, _, hy, ys, rfl, hyd⟩ := m3.on 0 l _ rfl
    have hlen := dpAll_len hyd
    refine ⟨l, i, ys, rfl, wv_int wy, hy, by omega, by omega, by rw [hlen]; exact sz3 h1, fun t ht => ?_⟩
    obtain ⟨g4, m4, gt, tm⟩ := lay_l (o := .lst (List.replicate i.toNat ys).flatten) g3.gs m3 ht
    have gg := (go_own (ds := ds) g1 h0').trans g3
    exact q t _ _ G2 (go_tail (gg.trans g4)) (mu_tail m4) (gg.al t ht) gt (fun z => tm (List.mem_cons_of_mem _ z)) upd_same (dpAll_rep hyd _)⟩
/-- a + b of two new lists -/
theorem jl_cat (ha : JL X ρ μ a ds μ1) (hb : ∀ l, JL X ρ ((l, OD.l ds) :: μ1) b es2 ((l, OD.l ds) :: μ1)) (h1 : ds.length + es2.length ≤ 100000) : JL X ρ μ (.BinOp a .Add b pos) (ds ++ es2) μ1 :=
  PE.imp (pe_op op_cat ha (⟨fun pins s σ H Q I ⟨l, q⟩ => (hb l).run pins s σ H Q I q⟩ : PE X b (fun σ H Q => ∃ l, rdL X.K ρ ((l, OD.l ds) :: μ1) es2 ((l, OD.l ds) :: μ1) σ H Q))) fun σ H Q ⟨G, S, q⟩ => ⟨G, S, fun l xs H1 G1 g1 m1 h0' gl lm hl hd => by
    refine ⟨l, G1, S.go (go_own g1 h0') (mu_own m1 gl lm hl hd), fun y zs H2 G2 g3 m3 k0 k1 k2 k3 k4 => ?_⟩
    obtain ⟨_, _, hy, ys, rfl, hyd⟩ := m3.on 0 l _ rfl
    refine ⟨l, y, ys, zs, rfl, rfl, hy, k3, by rw [dpAll_len hyd, dpAll_len k4]; exact sz3 h1, fun t ht => ?_⟩
    obtain ⟨g4, m4, gt, tm⟩ := lay_l (o := .lst (ys ++ zs)) g3.gs m3 ht
    have gg := (go_own (ds := ds) g1 h0').trans g3
    exact q t _ _ G2 (go_tail (gg.trans g4)) (mu_tail m4) (gg.al t ht) gt (fun z => tm (List.mem_cons_of_mem _ z)) upd_same (dpAll_app hyd k4)⟩
end

/-! ### the bits of ints -/
theorem bits_iff {x : Int} {n : Nat} : Builtin.Int.intBits x ≤ n ↔ x.natAbs < 2 ^ n := by
  unfold Builtin.Int.intBits
  by_cases h : x = 0
  · subst h
    simp
    exact Nat.two_pow_pos n
  · have h1 : (x == 0) = false := by simpa using h
    rw [h1]
    have h2 : x.natAbs ≠ 0 := by omega
    rw [if_neg Bool.false_ne_true]
    rw [← Nat.log2_lt h2]
    omega
theorem bits_mono {x : Int} {n m : Nat} (h : Builtin.Int.intBits x ≤ n) (hm : n ≤ m) : Builtin.Int.intBits x ≤ m := Nat.le_trans h hm
theorem bits_add {x y : Int} {n : Nat} (hx : Builtin.Int.intBits x ≤ n) (hy : Builtin.Int.intBits y ≤ n) : Builtin.Int.intBits (x + y) ≤ n + 1 := by
  rw [bits_iff] at *
  rw [Nat.pow_succ]
  omega
theorem bits_small {x : Int} (h1 : -(2 ^ 64) < x) (h2 : x < 2 ^ 64) : Builtin.Int.intBits x ≤ 64 := PySem.intBits_le_64 h1 h2
theorem mul_ok {x y : Int} {n m : Nat} (hx : Builtin.Int.intBits x ≤ n) (hy : Builtin.Int.intBits y ≤ m) (h : n + m ≤ 134217728) : CMulX x y := by
  unfold CMulX
  omega
theorem div_ok {x y : Int} {n : Nat} (h0 : 0 < y) (h : Builtin.Int.intBits y ≤ n) (hn : n ≤ 9000) : CDivW x y := by
  refine ⟨h0, ?_⟩
  unfold Builtin.Int.intBits at h
  have h1 : (y == 0) = false := by simp; omega
  rw [h1, if_neg Bool.false_ne_true] at h
  omega
theorem div_small {x y : Int} (h0 : 0 < y) (h1 : y < 2 ^ 64) : CDivW x y := div_ok (n := 64) h0 (bits_small (by omega) h1) (by decide)
end RB
namespace RB
open PySem PySem.Spec PyProof.Rows L2
/-! ### isinstance, by the kind of the datum -/
def isI : PyData → Bool | .int _ => true | _ => false
def isIB : PyData → Bool | .int _ => true | .bool _ => true | _ => false
def isB : PyData → Bool | .bool _ => true | _ => false
def isT : PyData → Bool | .tuple _ => true | _ => false
def isL : PyData → Bool | .list _ => true | _ => false
def kinds : List String := ["NoneType", "bool", "int", "str", "list", "tuple", "dict"]
theorem kit_all : (kinds.map fun a => (kitB a "int", kitB a "bool", kitB a "tuple", kitB a "list")) = [(some false, some false, some false, some false), (some true, some true, some false, some false), (some true, some false, some false, some false), (some false, some false, some false, some false), (some false, some false, some false, some true), (some false, some false, some true, some false), (some false, some false, some false, some false)] := by decide +kernel
theorem kit_get {i : Nat} {a : String} (h : kinds[i]? = some a) : (kinds.map fun a => (kitB a "int", kitB a "bool", kitB a "tuple", kitB a "list"))[i]? = some (kitB a "int", kitB a "bool", kitB a "tuple", kitB a "list") := by rw [List.getElem?_map, h]; rfl
theorem kit_row (d : PyData) : (kitB (tyName d) "int", kitB (tyName d) "bool", kitB (tyName d) "tuple", kitB (tyName d) "list") = (some (isIB d), some (isB d), some (isT d), some (isL d)) := by
  have go : ∀ (i : Nat) (a : String) r, kinds[i]? = some a → [(some false, some false, some false, some false), (some true, some true, some false, some false), (some true, some false, some false, some false), (some false, some false, some false, some false), (some false, some false, some false, some true), (some false, some false, some true, some false), (some false, some false, some false, some false)][i]? = some r → (kitB a "int", kitB a "bool", kitB a "tuple", kitB a "list") = r := fun i a r h1 h2 => by
    have q := kit_get h1
    rw [kit_all, h2] at q
    exact (Option.some.inj q).symm
  cases d with
  | none => exact go 0 _ _ rfl rfl
  | bool b => exact go 1 _ _ rfl rfl
  | int i => exact go 2 _ _ rfl rfl
  | str x => exact go 3 _ _ rfl rfl
  | list xs => exact go 4 _ _ rfl rfl
  | tuple xs => exact go 5 _ _ rfl rfl
  | dict xs => exact go 6 _ _ rfl rfl
theorem kit_int (d : PyData) : kitB (tyName d) "int" = some (isIB d) := (Prod.mk.inj (kit_row d)).1
theorem kit_bool (d : PyData) : kitB (tyName d) "bool" = some (isB d) := (Prod.mk.inj (Prod.mk.inj (kit_row d)).2).1
theorem kit_tuple (d : PyData) : kitB (tyName d) "tuple" = some (isT d) := (Prod.mk.inj (Prod.mk.inj (Prod.mk.inj (kit_row d)).2).2).1
theorem kit_list (d : PyData) : kitB (tyName d) "list" = some (isL d) := (Prod.mk.inj (Prod.mk.inj (Prod.mk.inj (kit_row d)).2).2).2
theorem boot_bool : bootBuiltins "bool" = some (.type "bool") := by decide +kernel
theorem boot_list : bootBuiltins "list" = some (.type "list") := by decide +kernel
section
variable {md : Md} {X : Cx} {N : List Str} {sc : Scope} {k : Nat} {ρ : Rho} {μ μ1 : Mu} {a : Expr} {pos p p3 : Pos} {d : PyData}
theorem je_isInt (C : Fx md X N sc k) (hm : X.mg "isinstance" = none) (ht : X.mg "int" = none) (ha : JE X ρ μ a (.dat d) μ1) (hg : sc.names.lookup ("isinstance" : Str) = some .globalImplicit := by rfl) (hgt : sc.names.lookup ("int" : Str) = some .globalImplicit := by rfl)
    (he : starEach [a, .Name "int" p3] X.env = (false, eval a X.env) :: starEach [.Name "int" p3] X.env := by rfl) (hpl : (backTo pos (starEach [.Name "int" p3] X.env)).any (·.1) = false := by rfl) : JE X ρ μ (.Call (.Name "isinstance" p) [a, .Name "int" p3] [] pos) (wb (isIB d)) μ1 :=
  je_isi C hm ht PyProof.Rows.boot_int ha (kit_int d) hg hgt (by decide) (by decide) he hpl
theorem je_isBool (C : Fx md X N sc k) (hm : X.mg "isinstance" = none) (ht : X.mg "bool" = none) (ha : JE X ρ μ a (.dat d) μ1) (hg : sc.names.lookup ("isinstance" : Str) = some .globalImplicit := by rfl) (hgt : sc.names.lookup ("bool" : Str) = some .globalImplicit := by rfl)
    (he : starEach [a, .Name "bool" p3] X.env = (false, eval a X.env) :: starEach [.Name "bool" p3] X.env := by rfl) (hpl : (backTo pos (starEach [.Name "bool" p3] X.env)).any (·.1) = false := by rfl) : JE X ρ μ (.Call (.Name "isinstance" p) [a, .Name "bool" p3] [] pos) (wb (isB d)) μ1 :=
  je_isi C hm ht boot_bool ha (kit_bool d) hg hgt (by decide) (by decide) he hpl
theorem je_isTuple (C : Fx md X N sc k) (hm : X.mg "isinstance" = none) (ht : X.mg "tuple" = none) (ha : JE X ρ μ a (.dat d) μ1) (hg : sc.names.lookup ("isinstance" : Str) = some .globalImplicit := by rfl) (hgt : sc.names.lookup ("tuple" : Str) = some .globalImplicit := by rfl)
    (he : starEach [a, .Name "tuple" p3] X.env = (false, eval a X.env) :: starEach [.Name "tuple" p3] X.env := by rfl) (hpl : (backTo pos (starEach [.Name "tuple" p3] X.env)).any (·.1) = false := by rfl) : JE X ρ μ (.Call (.Name "isinstance" p) [a, .Name "tuple" p3] [] pos) (wb (isT d)) μ1 :=
  je_isi C hm ht PyProof.Rows.boot_tuple ha (kit_tuple d) hg hgt (by decide) (by decide) he hpl
theorem je_isList (C : Fx md X N sc k) (hm : X.mg "isinstance" = none) (ht : X.mg "list" = none) (ha : JE X ρ μ a (.dat d) μ1) (hg : sc.names.lookup ("isinstance" : Str) = some .globalImplicit := by rfl) (hgt : sc.names.lookup ("list" : Str) = some .globalImplicit := by rfl)
    (he : starEach [a, .Name "list" p3] X.env = (false, eval a X.env) :: starEach [.Name "list" p3] X.env := by rfl) (hpl : (backTo pos (starEach [.Name "list" p3] X.env)).any (·.1) = false := by rfl) : JE X ρ μ (.Call (.Name "isinstance" p) [a, .Name "list" p3] [] pos) (wb (isL d)) μ1 :=
  je_isi C hm ht boot_list ha (kit_list d) hg hgt (by decide) (by decide) he hpl
end
end RB
namespace RB
open PySem PySem.Spec PyProof.Rows L2
section
variable {md : Md} {X : Cx} {N : List Str} {sc : Scope} {k : Nat} {ρ ρ2 : Rho} {μ μ1 μ2 : Mu} {c : Expr} {pos : Pos} {b1 : Bool} {Φ : Out → Prop} {rest body els : List Stmt}
/-- an if whose ways meet -/
theorem jss_ifM (ρ2 : Rho) (μ2 : Mu) (h : JT X ρ μ c b1 μ1) (h1 : b1 = true → JSs X ρ μ1 body (fun o => o = .nx ρ2 μ2)) (h2 : b1 = false → JSs X ρ μ1 els (fun o => o = .nx ρ2 μ2)) (q : JSs X ρ2 μ2 rest Φ) : JSs X ρ μ (.If c body els pos :: rest) Φ :=
  jss_if h (fun e => (h1 e).imp fun o ho => by rw [ho]; exact q) (fun e => (h2 e).imp fun o ho => by rw [ho]; exact q)
/-- nothing can be asked -/
theorem cal_none {P : Program} {wd : World} {K : PySem.W.Frag} {mg : Str → Option Value} {base : Heap} {x : Str} {st : Stmt} {ps : List Str} {R : List W → Mu → W → Mu → Prop} (A : DefAt K mg x st ps) (h : ∀ ws μ w μ', ¬ R ws μ w μ') : CalW P wd K mg base 0 x R := by
  obtain ⟨f, fd, F, hm, b⟩ := A
  have no : ∀ vs H Q E, ¬ SpX K R noX vs H Q E := fun vs H Q E q => by
    rcases q with ⟨_, _, _, _, _, _, _, _, hr, _⟩ | ⟨_, _, _, _, _, _, _, _, hr, _⟩
    · exact h _ _ _ _ hr
    · exact hr.elim
  exact ⟨f, fd, ps, ⟨fun vs H Q E q => absurd q (no vs H Q E), fun A outer s H args us vs Q E _ _ _ _ q => absurd q (no vs H Q E)⟩, hm, F.kp, b⟩
theorem gv_false (v : Nat → PyData) : ∀ n, gv (fun _ => false) v n = []
  | 0 => rfl
  | n + 1 => by unfold gv; rw [if_neg Bool.false_ne_true]; exact gv_false v n
theorem gv_true (v : Nat → PyData) : ∀ n, gv (fun _ => true) v n = (List.range n).map v
  | 0 => rfl
  | n + 1 => by unfold gv; rw [if_pos rfl, gv_true v n, List.range_succ, List.map_append]; rfl
theorem jss_setL (C : Fb .calm X N sc k) (n j : Nat) {ds : List PyData} {a elt : Expr} {ifs : List Expr} {scope : Scope} {p pos spos py : Pos} {y x : Str} (f : Nat → Bool) (v : Nat → PyData) (ha : JE X ρ μ a (.dat (.list ds)) μ1) (h1 : ds.length ≤ 100000)
    (hb : blkC N sc scope [(x, j)] = true) (hN : N[j]? = some x) (hx : (relab scope sc).names.lookup x = some .local)
    (ht : ∀ (Y : Cx) (n : Nat) (d : PyData), Fx .calm Y N (relab scope sc) k → SameEnv X Y → ds[n]? = some d → JTs Y ((ρ.set j none).set j (some (.dat d))) μ1 ifs (f n) μ1)
    (he : ∀ (Y : Cx) (n : Nat) (d : PyData), Fx .calm Y N (relab scope sc) k → SameEnv X Y → ds[n]? = some d → f n = true → JE Y ((ρ.set j none).set j (some (.dat d))) μ1 elt (.dat (v n)) μ1)
    {es : List PyData} (hv : gv f v ds.length = es) (hF : JSs X (ρ.set n (some (.dat (.list es)))) μ1 rest Φ)
    (hy : N[n]? = some y := by rfl) (hyl : sc.names.lookup y = some .local := by rfl) (hk : sc.kind = .function := by rfl) (hln : (py.line == pos.line) = true := by rfl) (hany : (scope.names.any fun (n, k) => n == y && (k == .local || k == .cell)) = false := by decide +kernel)
    (hfs : ∀ x, foldedSetIterable a X.env x = pure x := by intro _; rfl) :
    JSs X ρ μ (.Assign [.Name y py] (.ListComp elt [⟨.Name x p, a, ifs, 0⟩] scope pos) spos :: rest) Φ := jss_cons (js_setL C n j f v ha h1 hb hN hx ht he (by rw [hv]; exact hF) hy hyl hk hln hany hfs)
/-! ### two owned lists, by their places -/
def S2 (μ : Mu) (n m : Nat) (x y : Addr × OD) : Mu := (μ.set n x).set m y
variable {n m : Nat} {x y x' y' : Addr × OD}
theorem S2.l (hn : n < μ.length) (h : n ≠ m) : (S2 μ n m x y)[n]? = some x := by
  unfold S2
  rw [List.getElem?_set_ne (Ne.symm h), List.getElem?_set_self hn]
theorem S2.r (hm : m < μ.length) : (S2 μ n m x y)[m]? = some y := by
  unfold S2
  rw [List.getElem?_set_self (by rw [List.length_set]; exact hm)]
theorem S2.s2 (h : n ≠ m) : S2 (S2 μ n m x y) n m x' y' = S2 μ n m x' y' := by
  unfold S2
  rw [List.set_comm _ _ (Ne.symm h), List.set_set, List.set_set]
theorem S2.sr : (S2 μ n m x y).set m y' = S2 μ n m x y' := by
  unfold S2
  rw [List.set_set]
theorem S2.sl (h : n ≠ m) : (S2 μ n m x y).set n x' = S2 μ n m x' y := by
  unfold S2
  rw [List.set_comm _ _ (Ne.symm h), List.set_set]
theorem set_here {μ : Mu} (h : μ[m]? = some y) : μ.set m y = μ := by
  refine List.ext_getElem? fun i => ?_
  by_cases hi : m = i
  · subst hi
    rw [List.getElem?_set_self (List.getElem?_eq_some_iff.mp h).1, h]
  · rw [List.getElem?_set_ne hi]
theorem S2.here (hx : μ[n]? = some x) (hy : μ[m]? = some y) : S2 μ n m x y = μ := by
  unfold S2
  rw [set_here hx, set_here hy]
theorem S2.len : (S2 μ n m x y).length = μ.length := by
  unfold S2
  rw [List.length_set, List.length_set]
end
end RB
namespace RB
open PySem PySem.Spec PyProof.Rows L2
section
variable {md : Md} {X : Cx} {N : List Str} {sc : Scope} {k : Nat} {ρ ρ2 : Rho} {μ μ1 μ2 μ3 : Mu} {a b c e : Expr} {pos p : Pos} {b1 : Bool} {w : W} {Φ : Out → Prop} {rest body els : List Stmt} {i j l : Int}
/-- an if whose ways meet in one of several states -/
theorem jss_ifS (M : Rho → Mu → Prop) (h : JT X ρ μ c b1 μ1) (h1 : b1 = true → JSs X ρ μ1 body (fun o => ∃ ρ2 μ2, o = .nx ρ2 μ2 ∧ M ρ2 μ2)) (h2 : b1 = false → JSs X ρ μ1 els (fun o => ∃ ρ2 μ2, o = .nx ρ2 μ2 ∧ M ρ2 μ2)) (q : ∀ ρ2 μ2, M ρ2 μ2 → JSs X ρ2 μ2 rest Φ) : JSs X ρ μ (.If c body els pos :: rest) Φ :=
  jss_if h (fun e => (h1 e).imp fun o ho => by obtain ⟨ρ2, μ2, ho, m⟩ := ho; rw [ho]; exact q _ _ m) (fun e => (h2 e).imp fun o ho => by obtain ⟨ρ2, μ2, ho, m⟩ := ho; rw [ho]; exact q _ _ m)
theorem mu_drop {K : PySem.W.Frag} {H G : Hp} (m : MuOk K H G μ) (n : Nat) : MuOk K H G (μ.drop n) := ⟨fun i a es e => m.on (n + i) a es (by rw [List.getElem?_drop] at e; exact e), by rw [List.map_drop]; exact List.Nodup.sublist (List.drop_sublist _ _) m.nd⟩
theorem go_drop {H G H' G' : Hp} (g : Go H G μ H' G' μ1) (n : Nat) : Go H G μ H' G' (μ1.drop n) := ⟨g.fr, g.gx, g.gs, g.nw, fun a h => g.dm a (by rw [List.map_drop] at h; exact List.mem_of_mem_drop h), g.al⟩
/-- own lists are left behind -/
theorem js_retD (n : Nat) (h : JE X ρ μ e w μ1) (f : Φ (.rt w (μ1.drop n))) : JS X ρ μ (.Return (some e) pos) Φ :=
  fun Wx tk => PS.imp (ps_ret h) fun D σ H ⟨G, S, Wn⟩ => ⟨G, S, fun v H' G' g m wv => Wn.rt _ _ v H' G' f (go_drop g n) (mu_drop m n) wv⟩
theorem jss_retD (n : Nat) (h : JE X ρ μ e w μ1) (f : Φ (.rt w (μ1.drop n))) : JSs X ρ μ (.Return (some e) pos :: rest) Φ := jss_cons (js_retD n h f)
/-- an owned list is handed back -/
theorem js_retO (n : Nat) {ad : Addr} {ds : List PyData} (h : JE X ρ μ e (.loc ad) μ1) (hn : μ1[n]? = some (ad, OD.l ds)) (f : Φ (.rl ds (μ1.drop (n + 1)))) : JS X ρ μ (.Return (some e) pos) Φ :=
  fun Wx tk => PS.imp (ps_ret h) fun D σ H ⟨G, S, Wn⟩ => ⟨G, S, fun v H' G' g m wv => by
    cases (show v = .ref ad from wv)
    obtain ⟨g0, _, hx, xs, rfl, hd⟩ := m.on n ad _ hn
    have hmem : ad ∈ μ1.map (·.1) := List.mem_map.mpr ⟨_, List.mem_of_getElem? hn, rfl⟩
    refine Wn.rl _ _ ad xs H' G' f (go_drop g (n + 1)) (mu_drop m (n + 1)) ((g.dm ad hmem).symm) g0 (fun z => ?_) hx hd
    rw [List.map_drop] at z
    obtain ⟨i, hi⟩ := List.getElem?_of_mem z
    rw [List.getElem?_drop] at hi
    have e1 : (μ1.map (·.1))[n]? = some ad := by rw [List.getElem?_map, hn]; rfl
    have hlt : n < (μ1.map (·.1)).length := (List.getElem?_eq_some_iff.mp e1).1
    have := (List.getElem?_inj hlt m.nd).mp (e1.trans hi.symm)
    omega⟩
theorem jss_retO (n : Nat) {ad : Addr} {ds : List PyData} (h : JE X ρ μ e (.loc ad) μ1) (hn : μ1[n]? = some (ad, OD.l ds)) (f : Φ (.rl ds (μ1.drop (n + 1)))) : JSs X ρ μ (.Return (some e) pos :: rest) Φ := jss_cons (js_retO n h hn f)
theorem je_chain {op op' : CmpOp} {r r' : R2} {wa wb' wc : W} {b1 b2 : Bool} (ho : OpR X (compareOp op) r) (ho' : OpR X (compareOp op') r') (ha : JE X ρ μ a wa μ1) (hb : JE X ρ μ1 b wb' μ2) (hc : JE X ρ μ2 c wc μ2)
    (hr : ∀ (G H : Hp) (x y : V) (Q : VK), Same G H → WV X.K G x wa → WV X.K G y wb' → Q (.bl b1) H → r x y H Q) (hr' : ∀ (G H : Hp) (x y : V) (Q : VK), Same G H → WV X.K G x wb' → WV X.K G y wc → Q (.bl b2) H → r' x y H Q)
    (hm : lastMarks [op, op'] [b, c] = false := by with_unfolding_all rfl) : JT X ρ μ (.Compare a [op, op'] [b, c] pos) (b1 && b2) μ2 :=
  PT.imp (pt_chain ho ho' ha hb hc hm) fun σ H Q ⟨G, S, q⟩ => ⟨G, S, fun x H1 G1 g1 m1 wx => ⟨G1, S.go g1 m1, fun y H2 G2 g2 m2 wy => hr G2 H2 x y _ g2.gs (wx.same g2.gx) wy ⟨b1, rfl, by
    cases b1 with
    | true =>
      rw [if_pos rfl]
      exact ⟨G2, (S.go g1 m1).go g2 m2, fun z H3 G3 g3 m3 wz => hr' G3 H3 y z _ g3.gs (wy.same g3.gx) wz ⟨b2, rfl, q H3 G3 ((g1.trans g2).trans g3) m3⟩⟩
    | false =>
      rw [if_neg Bool.false_ne_true]
      exact ⟨false, rfl, q H2 G2 (g1.trans g2) m2⟩⟩⟩⟩
theorem jt_chLeLt (ha : JE X ρ μ a (wi i) μ1) (hb : JE X ρ μ1 b (wi j) μ2) (hc : JE X ρ μ2 c (wi l) μ2) (hm : lastMarks [.LtE, .Lt] [b, c] = false := by with_unfolding_all rfl) : JT X ρ μ (.Compare a [.LtE, .Lt] [b, c] pos) (decide (i ≤ j) && decide (j < l)) μ2 :=
  je_chain op_le op_lt ha hb hc (fun G H x y Q _ hx hy q => ⟨i, j, wv_int hx, wv_int hy, q⟩) (fun G H x y Q _ hx hy q => ⟨j, l, wv_int hx, wv_int hy, q⟩) hm
end
end RB
namespace RB
open PySem PySem.Spec PyProof.Rows L2
section
variable {md : Md} {X : Cx} {N : List Str} {sc : Scope} {k : Nat} {ρ ρ2 : Rho} {μ μ1 μ2 μ3 : Mu} {a b c e : Expr} {pos p : Pos} {b1 : Bool} {w : W} {Φ : Out → Prop} {rest body els : List Stmt} {i j l : Int}
theorem Fb.wr (C : Fb md X N sc k) {x : Str} (hv : Loc sc x) : Loc X.env.scope x ∧ (X.fn x = true ∨ X.env.scope.names.lookup x = some .local) := by
  refine ⟨by rw [C.s]; exact hv, ?_⟩
  rcases hv with hv | hv
  · exact .inr (by rw [C.s]; exact hv)
  · exact .inl (C.fn x)
/-- name += int -/
theorem js_aug (C : Fb md X N sc k) (n : Nat) {x : Str} (h : JE X ρ μ e (wi j) μ1) (h0 : ρ[n]? = some (some (wi i))) (f : Φ (.nx (ρ.set n (some (wi (i + j)))) μ1)) (hN : N[n]? = some x := by rfl) (hv : Loc sc x := by first | exact Or.inl rfl | exact Or.inr rfl) :
    JS X ρ μ (.AugAssign (.Name x p) .Add e pos) Φ :=
  fun Wx tk => PS.imp (ps_aug (i := n) (by rw [C.n]; exact C.nd) (by rw [C.n]; exact hN) (C.wr hv).1 h ip_add (C.wr hv).2) fun D σ H ⟨G, S, Wn⟩ => by
    obtain ⟨v, e1, wv⟩ := S.sv n _ h0
    exact ⟨v, e1, G, S, fun y H1 G1 g1 m1 wy => ⟨i, j, wv_int wv, wv_int wy, Wn.nx _ _ _ _ _ f g1 ((S.go g1 m1).set n (show WV X.K G1 (.int (i + j)) (wi (i + j)) from Dp.int _))⟩⟩
theorem jss_aug (C : Fb md X N sc k) (n : Nat) {x : Str} (h : JE X ρ μ e (wi j) μ1) (h0 : ρ[n]? = some (some (wi i))) (f : JSs X (ρ.set n (some (wi (i + j)))) μ1 rest Φ) (hN : N[n]? = some x := by rfl) (hv : Loc sc x := by first | exact Or.inl rfl | exact Or.inr rfl) :
    JSs X ρ μ (.AugAssign (.Name x p) .Add e pos :: rest) Φ := jss_cons (js_aug C n h h0 f hN hv)
/-- x, y = a tuple of two; x, y, z = one of three -/
theorem js_asgT2 (C : Fb .calm X N sc k) (n1 n2 : Nat) {x1 x2 : Str} {p1 p2 pt : Pos} {kt : Nat} {d1 d2 : PyData} (h : JE X ρ μ e (.dat (.tuple [d1, d2])) μ1) (f : Φ (.nx ((ρ.set n1 (some (.dat d1))).set n2 (some (.dat d2))) μ1))
    (hN1 : N[n1]? = some x1 := by rfl) (hN2 : N[n2]? = some x2 := by rfl) (hv1 : Loc sc x1 := by first | exact Or.inl rfl | exact Or.inr rfl) (hv2 : Loc sc x2 := by first | exact Or.inl rfl | exact Or.inr rfl)
    (hs : swapsWithSole [Expr.Tuple [.Name x1 p1, .Name x2 p2] kt pt] e pos.line X.env = pure false := by rfl) (hw : swappedStores [Expr.Tuple [.Name x1 p1, .Name x2 p2] kt pt] e X.env = pure none := by rfl) (h1 : (assignEach [Expr.Tuple [.Name x1 p1, .Name x2 p2] kt pt] X.env).map (·.2) = [assign (Expr.Tuple [.Name x1 p1, .Name x2 p2] kt pt) X.env] := by rfl) :
    JS X ρ μ (.Assign [.Tuple [.Name x1 p1, .Name x2 p2] kt pt] e pos) Φ :=
  fun Wx tk => PS.imp (ps_asg h (pg_tup (n := 2) C.toFx.calm (pgs_cons (pg_name (i := n1) (by rw [C.n]; exact C.nd) (by rw [C.n]; exact hN1) (C.wr hv1).1 (C.wr hv1).2) (pgs_cons (pg_name (i := n2) (by rw [C.n]; exact C.nd) (by rw [C.n]; exact hN2) (C.wr hv2).1 (C.wr hv2).2) pgs_nil))) hs hw h1) fun D σ H ⟨G, S, Wn⟩ => ⟨G, S, fun v H1 G1 g1 m1 wv => by
    obtain ⟨l, xs, rfl, hsq, hd⟩ := wv_tup wv
    cases hd with
    | cons q1 hd =>
      cases hd with
      | cons q2 hd =>
        cases hd
        exact ⟨l, _, rfl, seqT g1.gs hsq, rfl, _, _, rfl, _, _, rfl, rfl, Wn.nx _ _ _ _ _ f g1 (((S.go g1 m1).set n1 (w := .dat d1) q1).set n2 (w := .dat d2) q2)⟩⟩
theorem jss_asgT2 (C : Fb .calm X N sc k) (n1 n2 : Nat) {x1 x2 : Str} {p1 p2 pt : Pos} {kt : Nat} {d1 d2 : PyData} (h : JE X ρ μ e (.dat (.tuple [d1, d2])) μ1) (f : JSs X ((ρ.set n1 (some (.dat d1))).set n2 (some (.dat d2))) μ1 rest Φ)
    (hN1 : N[n1]? = some x1 := by rfl) (hN2 : N[n2]? = some x2 := by rfl) (hv1 : Loc sc x1 := by first | exact Or.inl rfl | exact Or.inr rfl) (hv2 : Loc sc x2 := by first | exact Or.inl rfl | exact Or.inr rfl)
    (hs : swapsWithSole [Expr.Tuple [.Name x1 p1, .Name x2 p2] kt pt] e pos.line X.env = pure false := by rfl) (hw : swappedStores [Expr.Tuple [.Name x1 p1, .Name x2 p2] kt pt] e X.env = pure none := by rfl) (h1 : (assignEach [Expr.Tuple [.Name x1 p1, .Name x2 p2] kt pt] X.env).map (·.2) = [assign (Expr.Tuple [.Name x1 p1, .Name x2 p2] kt pt) X.env] := by rfl) :
    JSs X ρ μ (.Assign [.Tuple [.Name x1 p1, .Name x2 p2] kt pt] e pos :: rest) Φ := jss_cons (js_asgT2 C n1 n2 h f hN1 hN2 hv1 hv2 hs hw h1)
theorem js_asgT3 (C : Fb .calm X N sc k) (n1 n2 n3 : Nat) {x1 x2 x3 : Str} {p1 p2 p3 pt : Pos} {kt : Nat} {d1 d2 d3 : PyData} (h : JE X ρ μ e (.dat (.tuple [d1, d2, d3])) μ1) (f : Φ (.nx (((ρ.set n1 (some (.dat d1))).set n2 (some (.dat d2))).set n3 (some (.dat d3))) μ1))
    (hN1 : N[n1]? = some x1 := by rfl) (hN2 : N[n2]? = some x2 := by rfl) (hN3 : N[n3]? = some x3 := by rfl) (hv1 : Loc sc x1 := by first | exact Or.inl rfl | exact Or.inr rfl) (hv2 : Loc sc x2 := by first | exact Or.inl rfl | exact Or.inr rfl) (hv3 : Loc sc x3 := by first | exact Or.inl rfl | exact Or.inr rfl)
    (hs : swapsWithSole [Expr.Tuple [.Name x1 p1, .Name x2 p2, .Name x3 p3] kt pt] e pos.line X.env = pure false := by rfl) (hw : swappedStores [Expr.Tuple [.Name x1 p1, .Name x2 p2, .Name x3 p3] kt pt] e X.env = pure none := by rfl) (h1 : (assignEach [Expr.Tuple [.Name x1 p1, .Name x2 p2, .Name x3 p3] kt pt] X.env).map (·.2) = [assign (Expr.Tuple [.Name x1 p1, .Name x2 p2, .Name x3 p3] kt pt) X.env] := by rfl) :
    JS X ρ μ (.Assign [.Tuple [.Name x1 p1, .Name x2 p2, .Name x3 p3] kt pt] e pos) Φ :=
  fun Wx tk => PS.imp (ps_asg h (pg_tup (n := 3) C.toFx.calm (pgs_cons (pg_name (i := n1) (by rw [C.n]; exact C.nd) (by rw [C.n]; exact hN1) (C.wr hv1).1 (C.wr hv1).2) (pgs_cons (pg_name (i := n2) (by rw [C.n]; exact C.nd) (by rw [C.n]; exact hN2) (C.wr hv2).1 (C.wr hv2).2) (pgs_cons (pg_name (i := n3) (by rw [C.n]; exact C.nd) (by rw [C.n]; exact hN3) (C.wr hv3).1 (C.wr hv3).2) pgs_nil)))) hs hw h1) fun D σ H ⟨G, S, Wn⟩ => ⟨G, S, fun v H1 G1 g1 m1 wv => by
    obtain ⟨l, xs, rfl, hsq, hd⟩ := wv_tup wv
    cases hd with
    | cons q1 hd =>
      cases hd with
      | cons q2 hd =>
        cases hd with
        | cons q3 hd =>
          cases hd
          exact ⟨l, _, rfl, seqT g1.gs hsq, rfl, _, _, rfl, _, _, rfl, _, _, rfl, rfl, Wn.nx _ _ _ _ _ f g1 ((((S.go g1 m1).set n1 (w := .dat d1) q1).set n2 (w := .dat d2) q2).set n3 (w := .dat d3) q3)⟩⟩
theorem jss_asgT3 (C : Fb .calm X N sc k) (n1 n2 n3 : Nat) {x1 x2 x3 : Str} {p1 p2 p3 pt : Pos} {kt : Nat} {d1 d2 d3 : PyData} (h : JE X ρ μ e (.dat (.tuple [d1, d2, d3])) μ1) (f : JSs X (((ρ.set n1 (some (.dat d1))).set n2 (some (.dat d2))).set n3 (some (.dat d3))) μ1 rest Φ)
    (hN1 : N[n1]? = some x1 := by rfl) (hN2 : N[n2]? = some x2 := by rfl) (hN3 : N[n3]? = some x3 := by rfl) (hv1 : Loc sc x1 := by first | exact Or.inl rfl | exact Or.inr rfl) (hv2 : Loc sc x2 := by first | exact Or.inl rfl | exact Or.inr rfl) (hv3 : Loc sc x3 := by first | exact Or.inl rfl | exact Or.inr rfl)
    (hs : swapsWithSole [Expr.Tuple [.Name x1 p1, .Name x2 p2, .Name x3 p3] kt pt] e pos.line X.env = pure false := by rfl) (hw : swappedStores [Expr.Tuple [.Name x1 p1, .Name x2 p2, .Name x3 p3] kt pt] e X.env = pure none := by rfl) (h1 : (assignEach [Expr.Tuple [.Name x1 p1, .Name x2 p2, .Name x3 p3] kt pt] X.env).map (·.2) = [assign (Expr.Tuple [.Name x1 p1, .Name x2 p2, .Name x3 p3] kt pt) X.env] := by rfl) :
    JSs X ρ μ (.Assign [.Tuple [.Name x1 p1, .Name x2 p2, .Name x3 p3] kt pt] e pos :: rest) Φ := jss_cons (js_asgT3 C n1 n2 n3 h f hN1 hN2 hN3 hv1 hv2 hv3 hs hw h1)
/-- an owned list, the first, that nobody changes any more -/
theorem je_vF (C : Fx md X N sc k) (n : Nat) {x : Str} {ad : Addr} {ds : List PyData} (h : ρ[n]? = some (some (.loc ad))) (hN : N[n]? = some x := by rfl) (hv : Vis sc x := by first | exact Or.inl rfl | exact Or.inr (Or.inl rfl) | exact Or.inr (Or.inr rfl))
    (hd : (x == ("__debug__" : Str)) = false := by decide) (hcd : (x == ("__classdict__" : Str)) = false := by decide) : JE X ρ ((ad, OD.l ds) :: μ) (.Name x pos) (.dat (.list ds)) μ :=
  PE.imp (pe_var (i := n) (by rw [C.n]; exact hN) (by rw [C.s]; exact hv) hd hcd) fun σ H Q ⟨G, S, q⟩ => by
    obtain ⟨v, e, wv⟩ := S.sv n _ h
    cases (show v = .ref ad from wv)
    obtain ⟨gl, _, hx, xs, rfl, hd⟩ := S.mu.on 0 ad _ rfl
    have gx : Same G (upd G ad (.lst xs)) := fun b o eb => by rw [upd_ne (ne_of_none eb gl)]; exact eb
    have nd := S.mu.nd
    rw [List.map_cons] at nd
    have nm := (List.nodup_cons.mp nd).1
    refine ⟨_, e, q _ H (upd G ad (.lst xs)) ⟨fun _ _ e _ => e, gx, fun b o eb => ?_, fun b o eb => ?_, fun b hb => .inl (List.mem_cons_of_mem _ hb), fun _ e => e⟩ ⟨fun m b es eb => ?_, (List.nodup_cons.mp nd).2⟩ (Dp.lst (SqL.of upd_same) (dpAll_same gx _ _ hd))⟩
    · by_cases hb : b = ad
      · subst hb; rw [upd_same] at eb; cases eb; exact hx
      · rw [upd_ne hb] at eb; exact S.gh _ _ eb
    · by_cases hb : b = ad
      · subst hb; exact .inr (.inr List.mem_cons_self)
      · rw [upd_ne hb] at eb; exact .inl eb
    · obtain ⟨h1, ys, h2, h3⟩ := S.mu.on (m + 1) b es eb
      have hbt : b ≠ ad := fun z => nm (by rw [← z]; exact List.mem_map.mpr ⟨(b, es), List.mem_of_getElem? eb, rfl⟩)
      exact ⟨by rw [upd_ne hbt]; exact h1, ys, h2, OOk.same gx h3⟩
/-- and, where the first is known to hold -/
theorem je_andT {b2 : Bool} {rest : List Expr} (ha : JE X ρ μ a (wb true) μ1) (hb : JE X ρ μ1 (.BoolOp .And (b :: rest) pos) (wb b2) μ2) : JE X ρ μ (.BoolOp .And (a :: b :: rest) pos) (wb b2) μ2 :=
  PE.imp (pe_and ha hb) fun σ H Q ⟨G, S, q⟩ => ⟨G, S, fun x H1 G1 g1 m1 wx => ⟨true, wv_bl wx, by
    rw [if_pos rfl]
    exact ⟨G1, S.go g1 m1, fun v H2 G2 g2 m2 wv => q v H2 G2 (g1.trans g2) m2 wv⟩⟩⟩
end
end RB
namespace RB
open PySem PySem.Spec PyProof.Rows L2
/-! ### what raises -/
def rdX (K : PySem.W.Frag) (Wx : WX) (ρ : Rho) (μ : Mu) (c : Value) (μ' : Mu) : TE := fun σ H _ => ∃ G, StOk K σ H G ρ μ ∧ ∀ H' G', Go H G μ H' G' μ' → MuOk K H' G' μ' → Wx c none σ H'
def JX (X : Cx) (ρ : Rho) (μ : Mu) (e : Expr) (c : Value) (μ' : Mu) : Prop := ∀ Wx, TakesX X Wx → PE X e (rdX X.K Wx ρ μ c μ')
/-- a class of the program over ValueError -/
abbrev veL : List Value := [.type "ValueError", .type "Exception", .type "BaseException", .type "object"]
structure ExF (K : PySem.W.Frag) (mg : Str → Option Value) (x : Str) (CL : Addr) : Prop where
  g : mg x = some (.ref CL)
  xc : PySem.W.excIn K CL veL "ValueError.__new__" = true
  kp : PySem.W.keepIn K (.ref CL) = true
  sb : PySem.W.subIn K (.ref CL) (.type "BaseException") = some true
  ty : PySem.W.typeIn K (.ref CL) = some (.type "type")
  ex : ExcC K CL
section
variable {md : Md} {X : Cx} {N : List Str} {sc : Scope} {k : Nat} {ρ ρ2 : Rho} {μ μ1 μ2 μ3 : Mu} {a b c e : Expr} {es : List Expr} {pos p p2 p3 pos' np : Pos} {b1 : Bool} {w : W} {Φ : Out → Prop} {rest body els suite : List Stmt} {b₀ : Stmt} {i j l : Int} {cv : Value}
theorem jx_call (C : Fx md X N sc k) {kk : Nat} {x : Str} {R : List W → Mu → W → Mu → Prop} {RE : List W → Mu → Value → Mu → Prop} {ws : List W} (F : CalGX md X kk x R RE) (ha : JA X ρ μ (e :: es) ws μ1) (hR : RE ws μ1 cv μ2) (hk : kk ≤ k := by omega) (hg : sc.names.lookup x = some .globalImplicit := by rfl)
    (hdb : (x == ("__debug__" : Str)) = false := by decide) (he : starEach (e :: es) X.env = (false, eval e X.env) :: starEach es X.env := by rfl) (hpl : (backTo pos (starEach es X.env)).any (·.1) = false := by rfl) : JX X ρ μ (.Call (.Name x p) (e :: es) [] pos) cv μ2 := by
  obtain ⟨f, fd, ps, F, hm, kp, b⟩ := F.ex
  exact fun Wx tk => PE.imp (pe_callM C F tk hk (C.gl hg) hm kp b ha hdb he hpl) fun σ H Q ⟨G, S, q⟩ => ⟨G, S, fun vs H1 G1 g1 m1 wvs =>
    .inr ⟨G1, μ1, ws, cv, μ2, g1.gs, m1, wvs, hR, fun H2 G2 g2 m2 => q H2 G2 (g1.trans g2) m2⟩⟩
theorem jss_exprX (h : JX X ρ μ e cv μ1) (f : Φ (.ex cv ρ μ1)) (hd : swapsWith e none pos.line X.env = pure false := by rfl) : JSs X ρ μ (.Expr e pos :: rest) Φ :=
  jss_cons fun Wx tk => PS.imp (ps_expr (h Wx tk) hd) fun D σ H ⟨G, S, Wn⟩ => ⟨G, S, fun H' G' g m => Wn.ex _ _ _ _ _ _ f g (S.go g m)⟩
theorem jss_retX (h : JX X ρ μ e cv μ1) (f : Φ (.ex cv ρ μ1)) : JSs X ρ μ (.Return (some e) pos :: rest) Φ :=
  jss_cons fun Wx tk => PS.imp (ps_ret (h Wx tk)) fun D σ H ⟨G, S, Wn⟩ => ⟨G, S, fun H' G' g m => Wn.ex _ _ _ _ _ _ f g (S.go g m)⟩
theorem jss_asgX (C : Fb md X N sc k) (n : Nat) {x : Str} (h : JX X ρ μ e cv μ1) (f : Φ (.ex cv ρ μ1)) (hN : N[n]? = some x := by rfl) (hv : Loc sc x := by first | exact Or.inl rfl | exact Or.inr rfl)
    (hs : swapsWithSole [Expr.Name x p] e pos.line X.env = pure false := by rfl) (hw : swappedStores [Expr.Name x p] e X.env = pure none := by rfl) (h1 : (assignEach [Expr.Name x p] X.env).map (·.2) = [assign (Expr.Name x p) X.env] := by rfl) :
    JSs X ρ μ (.Assign [.Name x p] e pos :: rest) Φ :=
  jss_cons fun Wx tk => PS.imp (ps_asg (h Wx tk) (pg_name (i := n) (by rw [C.n]; exact C.nd) (by rw [C.n]; exact hN) (C.wr hv).1 (C.wr hv).2) hs hw h1) fun D σ H ⟨G, S, Wn⟩ => ⟨G, S, fun H' G' g m => Wn.ex _ _ _ _ _ _ f g (S.go g m)⟩
/-- an exception is made -/
def JMk (X : Cx) (ρ : Rho) (μ : Mu) (e : Expr) (c : Value) (μ' : Mu) : Prop := L2N.PMk X e fun σ H Q => ∃ G, StOk X.K σ H G ρ μ ∧ ∀ H' G', Go H G μ H' G' μ' → MuOk X.K H' G' μ' → Q c none H'
theorem jmk_own {x : Str} {CL : Addr} (C : Fx md X N sc k) (F : ExF X.K X.mg x CL) (he : JE X ρ μ e w μ1) (hg : sc.names.lookup x = some .globalImplicit := by rfl) (hs : starEach [e] X.env = (false, eval e X.env) :: starEach [] X.env := by rfl) (hdb : (x == ("__debug__" : Str)) = false := by decide) :
    JMk X ρ μ (.Call (.Name x p) [e] [] pos) (.ref CL) μ1 := by
  intro pins s σ H Q I h
  obtain ⟨G, S, q⟩ := h
  refine wpAny_Call_Name_kw (ld_glob I (C.gl hg) F.g ?_ hdb); refine PySem.W.callWith_K (h₀ := X.base) I.ok.mod.kin F.kp ?_ hs (by rfl)
  rw [hs]
  refine (show wpAny _ _ (spliced ((false, eval e X.env) :: backTo pos (starEach [] X.env))) _ _ s from ?_)
  refine Calls.spliced_cons (thn (he.run pins s σ H (fun _ H1 => Q (.ref CL) none H1) I ⟨G, S, fun v H' G' g m wv => q H' G' g m⟩) fun u s1 ⟨v, H1, I1, r1, q1⟩ => Calls.spliced_nil ⟨I1.kIn, ?_⟩)
  obtain ⟨bm, N', nm, qn, bs, hdct, sn, sub, ab, col, dd, k0, k1, k2, k3, k5, mN, hC, hN, hni, T⟩ := exc_obj I1.kIn F.xc; refine wpAny_call_exc_subT PySem.F.excBase_ValueError T hC hN hni (fun h' e hm => ?_) (by show 1 ≤ sizeLine; rw [sizeLine_eq]; omega)
  exact L2N.mk_of I1 hm (raises_own F.sb F.ty) q1 (I1.hok.gone hm.new)
theorem jss_raise {md : Md} (C : Fx md X N sc k) (hmd : md ≠ .cold) (he : JMk X ρ μ e cv μ1) (f : Φ (.ex cv ρ μ1)) : JSs X ρ μ (.Raise (some e) none pos :: rest) Φ :=
  jss_cons fun Wx tk => by
    have go : ∀ D σ H, rdS X.K Wx ρ μ (Kn X rest Φ) D σ H → (∃ G, StOk X.K σ H G ρ μ ∧ ∀ H' G', Go H G μ H' G' μ1 → MuOk X.K H' G' μ1 → Wx cv none σ H') := fun D σ H ⟨G, S, Wn⟩ => ⟨G, S, fun H' G' g m => Wn.ex _ _ _ _ _ _ f g (S.go g m)⟩
    cases md with
    | calm => exact PS.imp (L2N.ps_raise C.calm (tk.1 C.calm) he) go
    | hot => exact PS.imp (L2H.ps_raiseH C.hotC (tk.2 (C.hot rfl).1) he) go
    | cold => exact absurd rfl hmd
/-- f'..{an int}' -/
def fmt2 (x : Str) (i : Int) : Str := (Str.empty ++ x) ++ (toString i)
theorem je_f2 {x : Str} {n : Nat} (hx : JE X ρ μ e (wi i) μ1) (h1 : x.length ≤ 1000) (h2 : i.natAbs.log2 < 1920) : JE X ρ μ (.JoinedStr [.Constant (.str x) n p, .FormattedValue e (-1) none p2] pos) (.dat (.str (fmt2 x i))) μ1 :=
  PE.imp (pe_joined (.cons pe_str (.cons (pe_fmt hx) .nil))) fun σ H Q ⟨G, S, q⟩ => by
    have e1 : (Str.empty ++ x).length ≤ 1000 := by
      rw [Str.length_append, show Str.empty.length = 0 from rfl]
      omega
    refine ⟨_, rfl, Nat.le_trans e1 (by rw [sizeLine_eq]; decide), G, S, fun v H1 G1 g1 m1 wv => .inr ⟨i, wv_int wv, h2, _, rfl, ?_, q _ H1 G1 g1 m1 (Dp.str _)⟩⟩
    have e2 := int_text_length_le (k := 1920) (a := i) (by decide) h2
    rw [Str.length_append, PySem.ofString_length, sizeLine_eq]
    omega
/-- isinstance of the exception in hand -/
theorem je_isE {D CL ad : Addr} {t : Str} (C : Fx md X N sc k) (hI : CallR X (.builtin "isinstance") (rIsE X.K D ad)) (hm : X.mg "isinstance" = none) (ht : X.mg t = some (.ref CL)) (ha : JE X ρ μ a (.loc ad) μ1) (hk : PySem.W.kitOne X.K (.ref D) (.ref CL) = some b1)
    (hg : sc.names.lookup ("isinstance" : Str) = some .globalImplicit := by rfl) (hgt : sc.names.lookup t = some .globalImplicit := by rfl) (hdb : (t == ("__debug__" : Str)) = false := by decide)
    (he : starEach [a, .Name t p3] X.env = (false, eval a X.env) :: starEach [.Name t p3] X.env := by rfl) (hpl : (backTo pos (starEach [.Name t p3] X.env)).any (·.1) = false := by rfl) : JE X ρ μ (.Call (.Name "isinstance" p) [a, .Name t p3] [] pos) (wb b1) μ1 :=
  PE.imp (pe_callB hI (C.gl hg) hm (by decide +kernel) (pa_cons ha (pa_cons (pe_glob (C.gl hgt) ht (show RelV (.ref CL) (.ref CL) from rfl) hdb) pa_nil) he) (he := he) (hpl := hpl)) fun σ H Q ⟨G, S, q⟩ => ⟨G, S, fun v H1 G1 g1 m1 wv =>
    ⟨.ref CL, .ref CL, b1, by rw [show v = .ref ad from wv], fun u r => r, hk, q _ H1 G1 g1 m1 (Dp.bl _)⟩⟩
theorem je_isET {D ad : Addr} {t : Str} {T : String} (C : Fx md X N sc k) (hI : CallR X (.builtin "isinstance") (rIsE X.K D ad)) (hm : X.mg "isinstance" = none) (ht : X.mg t = none) (hT : bootBuiltins t = some (.type T)) (ha : JE X ρ μ a (.loc ad) μ1) (hk : PySem.W.kitOne X.K (.ref D) (.type T) = some b1)
    (hg : sc.names.lookup ("isinstance" : Str) = some .globalImplicit := by rfl) (hgt : sc.names.lookup t = some .globalImplicit := by rfl) (hn : t ≠ "__name__" := by decide) (hdb : (t == ("__debug__" : Str)) = false := by decide)
    (he : starEach [a, .Name t p3] X.env = (false, eval a X.env) :: starEach [.Name t p3] X.env := by rfl) (hpl : (backTo pos (starEach [.Name t p3] X.env)).any (·.1) = false := by rfl) : JE X ρ μ (.Call (.Name "isinstance" p) [a, .Name t p3] [] pos) (wb b1) μ1 :=
  PE.imp (pe_callB hI (C.gl hg) hm (by decide +kernel) (pa_cons ha (pa_cons (pe_bltn (v := .ty T) (C.gl hgt) ht hT (show RelV (.ty T) (.type T) from rfl) hn hdb) pa_nil) he) (he := he) (hpl := hpl)) fun σ H Q ⟨G, S, q⟩ => ⟨G, S, fun v H1 G1 g1 m1 wv =>
    ⟨.ty T, .type T, b1, by rw [show v = .ref ad from wv], fun u r => r, hk, q _ H1 G1 g1 m1 (Dp.bl _)⟩⟩

/-! ### try -/
/-- a try's body: its exceptions of the clause's class go to the suite -/
def TrK (X : Cx) (c : Value) (S : Rho → Mu → Value → Prop) (Φ : Out → Prop) : Out → Prop
  | .ex cls r u => PySem.W.exmOne X.K cls c = some true ∧ S r u cls
  | .nx r u => Φ (.nx r u)
  | .rt w u => Φ (.rt w u)
  | .rl w u => Φ (.rl w u)
  | .bk r u => Φ (.bk r u)
  | .ct r u => Φ (.ct r u)
/-- a suite's ends: without a name, with the name in slot i -/
def SuO (Φ : Out → Prop) : Out → Prop
  | .ex _ _ _ => False
  | .nx r u => Φ (.nx r u)
  | .rt w u => Φ (.rt w u)
  | .rl w u => Φ (.rl w u)
  | .bk r u => Φ (.bk r u)
  | .ct r u => Φ (.ct r u)
def SuI (i : Nat) (Φ : Out → Prop) : Out → Prop
  | .ex _ _ _ => False
  | .nx r u => Φ (.nx (r.set i none) u)
  | .rt w u => Φ (.rt w u)
  | .rl w u => Φ (.rl w u)
  | .bk r u => Φ (.bk (r.set i none) u)
  | .ct r u => Φ (.ct (r.set i none) u)
theorem wants_suO {K : PySem.W.Frag} {H G : Hp} {D : Ends} {Wx Wy : WX} (Wn : Wants K H G μ Φ D Wx) : Wants K H G μ (SuO Φ) D Wy :=
  ⟨fun _ _ _ _ _ φ g s => Wn.nx _ _ _ _ _ φ g s, fun _ _ _ _ _ φ g m v => Wn.rt _ _ _ _ _ φ g m v, fun _ _ _ _ _ _ φ g m h0 h1 h2 h3 h4 => Wn.rl _ _ _ _ _ _ φ g m h0 h1 h2 h3 h4, fun _ _ _ _ _ φ g s => Wn.bk _ _ _ _ _ φ g s, fun _ _ _ _ _ φ g s => Wn.ct _ _ _ _ _ φ g s, fun _ _ _ _ _ _ φ _ _ => φ.elim⟩
theorem wants_suI {K : PySem.W.Frag} {H G : Hp} {D : Ends} {Wx Wy : WX} (n : Nat) (Wn : Wants K H G μ Φ D Wx) : Wants K H G μ (SuI n Φ) { nx := fun σ' H' => D.nx (σ'.set n none) H', rt := D.rt, bk := fun σ' H' => D.bk (σ'.set n none) H', ct := fun σ' H' => D.ct (σ'.set n none) H' } Wy :=
  ⟨fun _ _ _ _ _ φ g s => Wn.nx _ _ _ _ _ φ g (s.unset n), fun _ _ _ _ _ φ g m v => Wn.rt _ _ _ _ _ φ g m v, fun _ _ _ _ _ _ φ g m h0 h1 h2 h3 h4 => Wn.rl _ _ _ _ _ _ φ g m h0 h1 h2 h3 h4, fun _ _ _ _ _ φ g s => Wn.bk _ _ _ _ _ φ g (s.unset n), fun _ _ _ _ _ φ g s => Wn.ct _ _ _ _ _ φ g (s.unset n), fun _ _ _ _ _ _ φ _ _ => φ.elim⟩
abbrev SufO (X : Cx) (N : List Str) (sc : Scope) (k : Nat) (suite : List Stmt) (Φ : Out → Prop) : Rho → Mu → Value → Prop := fun r u _ => ∀ Y : Cx, Fb .hot Y N sc k → SameEnv X Y → JSs Y r u suite (SuO Φ)
abbrev SufI (X : Cx) (N : List Str) (sc : Scope) (k n : Nat) (suite : List Stmt) (Φ : Out → Prop) (ad : Addr) : Rho → Mu → Value → Prop := fun r u cls => ∀ Y : Cx, Fb .cold Y N sc k → SameEnv X Y → (∀ D, cls = .ref D → ExcC X.K D → CallR Y (.builtin "isinstance") (rIsE Y.K D ad)) → JSs Y (r.set n (some (.loc ad))) u suite (SuI n Φ)
/-- try: body, except x: suite, where nothing is handled yet -/
theorem jss_try (C : Fb .calm X N sc k) {x : Str} {cl : Value} (hc : Names X x cl)
    (hb : ∀ Y : Cx, Fb .calm Y N sc k → SameEnv X Y → JSs Y ρ μ body (TrK X cl (SufO X N sc k (b₀ :: suite) (Kn X rest Φ)) (Kn X rest Φ))) :
    JSs X ρ μ (.Try body [.ExceptHandler (some (.Name x np)) none (b₀ :: suite) pos'] [] [] pos :: rest) Φ :=
  jss_cons fun Wx tk => PS.imp (L2N.ps_try_many (tb := fun W D σ H => rdS X.K W ρ μ (TrK X cl (SufO X N sc k (b₀ :: suite) (Kn X rest Φ)) (Kn X rest Φ)) D σ H) (l := [(cl, fun a cls d D σ H => d = none ∧ ∃ r u, SufO X N sc k (b₀ :: suite) (Kn X rest Φ) r u cls ∧ rdS X.K (fun _ _ _ _ => False) r u (SuO (Kn X rest Φ)) D σ H)]) C.sk C.fr (tk.1 C.toFx.calm)
      (fun W pn xe tkW po => hb (X.tr pn xe) ⟨⟨C.n, C.s, C.nd, C.room, fun _ => C.cal rfl, fun z => Md.noConfusion z⟩, C.fn, po, C.sk, C.fr⟩ ⟨rfl, rfl, rfl, rfl, rfl⟩ W ⟨fun _ => tkW, fun z => absurd ((show X.calm = false from z).symm.trans C.toFx.calm) Bool.false_ne_true⟩)
      (.cons hc (fun a oe cls d pn hz hf => ⟨fun pins s σ H D I ⟨hd, r, u, j, q⟩ => (j (X.suite a ((a, oe) :: pn)) ⟨⟨C.n, C.s, C.nd, ⟨C.room.dp, C.room.un⟩, fun z => Md.noConfusion z, fun _ => ⟨rfl, (a, oe), ⟨rfl, hf.elim fun vs e => ⟨vs, e, hz.2.2 vs e⟩⟩, List.mem_cons_self⟩⟩, C.fn, PassesOwn.never, C.sk, C.fr⟩ ⟨rfl, rfl, rfl, rfl, rfl⟩ _ takesX0).run pins s σ H D I q⟩) .nil))
    fun D σ H ⟨G, S, Wn⟩ => ⟨G, S, ⟨fun _ _ _ _ _ φ g s => Wn.nx _ _ _ _ _ φ g s, fun _ _ _ _ _ φ g m v => Wn.rt _ _ _ _ _ φ g m v, fun _ _ _ _ _ _ φ g m h0 h1 h2 h3 h4 => Wn.rl _ _ _ _ _ _ φ g m h0 h1 h2 h3 h4, fun _ _ _ _ _ φ g s => Wn.bk _ _ _ _ _ φ g s, fun _ _ _ _ _ φ g s => Wn.ct _ _ _ _ _ φ g s,
      fun cls r u σ' H' G' φ g s => ⟨true, φ.1, fun _ ad hd => ⟨rfl, r, u, φ.2, G', s, wants_suO (Wn.go g)⟩, fun z => nomatch z⟩⟩⟩
/-- try: body, except x as n: suite, where an exception is handled already -/
theorem jss_tryH (C : Fb .hot X N sc k) (n : Nat) {x y : Str} {cl : Value} (hc : Names X x cl)
    (hb : ∀ Y : Cx, Fb .hot Y N sc k → SameEnv X Y → JSs Y ρ μ body (TrK X cl (fun r u cls => ∀ ad : Addr, SufI X N sc k n (b₀ :: suite) (Kn X rest Φ) ad r u cls) (Kn X rest Φ)))
    (hy : N[n]? = some y := by rfl) (hyl : sc.names.lookup y = some .local := by rfl) :
    JSs X ρ μ (.Try body [.ExceptHandler (some (.Name x np)) (some y) (b₀ :: suite) pos'] [] [] pos :: rest) Φ :=
  jss_cons fun Wx tk => PS.imp (L2H.ps_try_asH (i := n) (tb := fun W D σ H => rdS X.K W ρ μ (TrK X cl (fun r u cls => ∀ ad : Addr, SufI X N sc k n (b₀ :: suite) (Kn X rest Φ) ad r u cls) (Kn X rest Φ)) D σ H) (ts := fun ad cls d D σ H => d = none ∧ ∃ (r : Rho) (u : Mu), SufI X N sc k n (b₀ :: suite) (Kn X rest Φ) ad r u cls ∧ rdS X.K (fun _ _ _ _ => False) (r.set n (some (.loc ad))) u (SuI n (Kn X rest Φ)) D σ H)
      C.sk C.fr (by rw [C.n]; exact C.nd) (by rw [C.n]; exact hy) (by show X.env.scope.names.lookup y = _; rw [C.s]; exact hyl) hc (tk.2 (C.hot rfl).1)
      (fun W pn xe hp tkW po => hb (X.tr pn xe) ⟨⟨C.n, C.s, C.nd, C.room, fun z => Md.noConfusion z, fun _ => ⟨(C.hot rfl).1, C.hotC.elim fun q hq => ⟨q, hq.1, hp q hq.2⟩⟩⟩, C.fn, po, C.sk, C.fr⟩ ⟨rfl, rfl, rfl, rfl, rfl⟩ W ⟨fun z => absurd ((C.hot rfl).1.symm.trans (show X.calm = true from z)) Bool.false_ne_true, fun _ => tkW⟩)
      (fun ad oe cls d pn hz hf => ⟨fun pins s σ H D I ⟨hd, r, u, j, q⟩ => (j (X.suite ad ((ad, oe) :: pn)) ⟨⟨C.n, C.s, C.nd, ⟨C.room.dp, C.room.un⟩, fun z => Md.noConfusion z, fun z => Md.noConfusion z⟩, C.fn, PassesOwn.never, C.sk, C.fr⟩ ⟨rfl, rfl, rfl, rfl, rfl⟩ (fun D' hD eD => call_isE eD (by rw [← hD, ← hd]; exact hz) hf) _ takesX0).run pins s σ H D I q⟩))
    fun D σ H ⟨G, S, Wn⟩ => ⟨G, S, ⟨fun _ _ _ _ _ φ g s => Wn.nx _ _ _ _ _ φ g s, fun _ _ _ _ _ φ g m v => Wn.rt _ _ _ _ _ φ g m v, fun _ _ _ _ _ _ φ g m h0 h1 h2 h3 h4 => Wn.rl _ _ _ _ _ _ φ g m h0 h1 h2 h3 h4, fun _ _ _ _ _ φ g s => Wn.bk _ _ _ _ _ φ g s, fun _ _ _ _ _ φ g s => Wn.ct _ _ _ _ _ φ g s,
      fun cls r u σ' H' G' φ g s => ⟨true, φ.1, fun _ ad hd => ⟨rfl, r, u, φ.2 ad, G', s.set n (show WV X.K G' (.ref ad) (.loc ad) from rfl), wants_suI n (Wn.go g)⟩, fun z => nomatch z⟩⟩⟩
end
end RB
namespace RB
open PySem PySem.Spec PyProof.Rows L2
/-! ### a tuple taken apart while an exception is handled -/
section
variable {prog : Program} {w : World} {A : Around} {E : Value → Shared → Prop} {s : Shared}
theorem tupEndH {it t x1 : Addr} {i : Nat} {items : Array Value} {Q : Option Value → Shared → Prop} (hot : HotX.HotAt A x1 s.heap) (hit : IsTupIter s.heap it t i) (ht : IsTup s.heap t items) (hx : items[i]? = none)
    (hQ : ∀ h', Heap.ExtBut it s.heap h' → Q none { s with heap := h' }) : wpAny (model prog w) A (pyNext (.ref it)) Q E s := by
  obtain ⟨o, ho, hc, hd⟩ := id hit; obtain ⟨ol, hol, _, nl, hdl⟩ := ht; obtain ⟨hh, o1, vs1, g1, d1, c1⟩ := hot
  have nx : x1 ≠ it := fun z => by
    rw [z, ho] at g1; cases g1; rw [hd] at d1; cases d1; exact absurd c1 (by simp)
  unfold pyNext; refine wpAny_bind (wpAny_attempt (wpAny_callSpecial?_slot (name := Str.ofString "__next__") hit.typeIs slot_tupleiter_next (wpAny_call_entry slot_tupleiter_next hit.typeIs entry_tupleiter_next ?_ (args_tupleiter_next _))))
  refine (show wpAny _ _ (field (.ref it) 0 >>= _) _ _ s from wpAny_bind (wpAny_field ho hd (x := .ref t) rfl ?_))
  refine (show wpAny _ _ (if (Value.ref t == Value.none) = true then _ else _) _ _ s from ?_); rw [if_neg (show ¬ ((Value.ref t == Value.none) = true) from Bool.false_ne_true)]
  refine (show wpAny _ _ (field (.ref it) 1 >>= _) _ _ s from wpAny_bind (wpAny_field ho hd (x := .int i 0) rfl ?_))
  refine (show wpAny _ _ (seqItems? (.ref t) >>= _) _ _ s from wpAny_bind (wpAny_seqItems hol hdl ?_)); simp only [Int.toNat_natCast, hx]
  refine wpAny_bind (wpAny_rule (wpAny_bind (wpAny_setField ho hd (by simp) ?_))); refine (show wpAny _ _ (newExc (.type "StopIteration") [] >>= _) _ _ _ from wpAny_bind ?_)
  simp only [newExc, newTuple]; refine wpAny_bind (wpAny_newObj_type ?_ (by size_fits))
  refine wpAny_bind (m := firstArgMember _ _) (wpAny_of_eq (a := Value.none) (by first | rfl | (simp only [firstArgMember]; rfl)) (wpAny_newObj_type ?_ (by size_fits)))
  have g2 : ∀ f : Obj → Obj, (s.heap.update it f).get? x1 = some o1 := fun f => by rw [Heap.get?_update_other _ _ (Ne.symm nx)]; exact g1
  refine HotX.raiseNew_hot ⟨hh, o1, vs1, Heap.get?_push_of_some _ (Heap.get?_push_of_some _ (g2 _)), d1, c1⟩ (Nat.ne_of_lt (Heap.lt_size (Heap.get?_push_of_some _ (g2 _)))) (Heap.get?_push_size _ rfl) rfl (by first | (simp; done) | (simp; omega) | (simp only [Array.size_append]; simp; omega)) ?_
  refine wpAny_bind (wpAny_isInstance (T := "StopIteration") (b := true) ⟨_, Heap.get?_update_self _ (Heap.get?_push_size _ rfl) rfl, rfl⟩ isSubtype_stop (wpAny_pure (hQ _ fun b u hb e => ?_)))
  have e2 : ∀ f : Obj → Obj, (s.heap.update it f).get? b = some u := fun f => by rw [Heap.get?_update_other _ _ (Ne.symm hb)]; exact e
  rw [Heap.get?_update_other _ _ (Nat.ne_of_gt (Heap.lt_size (Heap.get?_push_of_some _ (e2 _))))]
  exact Heap.get?_push_of_some _ (Heap.get?_push_of_some _ (e2 _))
theorem unpackItemsH {t x1 : Addr} {items : Array Value} {Q : List Value → Shared → Prop} (hot : HotX.HotAt A x1 s.heap) (ht : IsTup s.heap t items)
    (hQ : ∀ h', Heap.ExtBut s.heap.objs.size s.heap h' → Q items.toList { s with heap := h' }) : wpAny (model prog w) A (unpackItems (.ref t) items.size none) Q E s := by
  obtain ⟨hh, o1, vs1, g1, d1, c1⟩ := hot
  have hlt : t ≠ s.heap.objs.size := by obtain ⟨o, ho, _⟩ := ht; exact Nat.ne_of_lt (Heap.lt_size ho)
  unfold unpackItems; refine wpAny_bind ?_; unfold notIterableAtAll; refine wpAny_bind (wpAny_specialOf ht.typeIs slot_tuple_iter.lookup ?_)
  refine wpAny_pure ?_; simp only [Bool.false_eq_true, if_false]; refine wpAny_bind (wpAny_holding (iter_tuple ht ?_))
  refine wpAny_bind (wpAny_holding (draw_tuple hlt items.size 0 _ _ ⟨_, Heap.get?_push_size _ rfl, rfl, rfl⟩ (ht.push _) (by omega) fun h1 hit1 hs1 => ?_))
  rw [show List.take items.size (List.drop 0 items.toList) = items.toList from by rw [List.drop_zero]; exact List.take_of_length_le (by simp), if_neg (by simp)]
  refine wpAny_bind (wpAny_holding (tupEndH ⟨hh, o1, vs1, hs1.extBut x1 o1 (Nat.ne_of_lt (Heap.lt_size g1)) (Heap.get?_push_of_some _ g1), d1, c1⟩ hit1 ((ht.push _).extBut hs1.extBut hlt) (by simp) fun h2 he2 => ?_))
  simp only [Option.isSome_none, Bool.false_eq_true, if_false]; exact wpAny_pure (hQ h2 fun b o hb e => he2 b o hb (hs1.extBut b o hb (Heap.get?_push_of_some _ e)))
end
section
variable {X : Cx} {pos : Pos}
theorem pg_tupH {es : List Expr} {k : Nat} {t : TGs} {n : Nat} (hc : L2H.HotC X) (h : PGs X es t) (hn : (assignEach es X.env).length = n := by rfl) (hst : (assignEach es X.env).findIdx? (·.1) = none := by rfl) : PG X (.Tuple es k pos) (gTup X.K n t) := by
  refine ⟨fun pins s σ H v u Q I r ⟨a, xs, e1, hq, hl, hw⟩ => ?_⟩
  subst e1; cases r
  obtain ⟨its, rv, ht, hz⟩ := I.tuple hq; obtain ⟨x1, hot⟩ := hc.at I
  rw [PyProof.Rows.assign_Tuple]; refine wpAny_bind (wpAny_standAt ?_); unfold unpack
  rw [show (assignEach es X.env).length = its.toArray.size from by simp [hn, ← hl, rv.length], hst]
  refine wpAny_bind (wpAny_holding (unpackItemsH hot ht fun h' hx => ?_))
  have I1 : Inv X pins σ H { s with heap := h' } := I.kept (t' := s.toks) fun b o e => hx b o (Nat.ne_of_lt (Heap.lt_size e)) e
  exact h.run pins _ σ H xs _ Q I1 (by simpa using rv) hw
end
section
variable {md : Md} {X : Cx} {N : List Str} {sc : Scope} {k : Nat} {ρ : Rho} {μ μ1 : Mu} {e : Expr} {pos : Pos} {Φ : Out → Prop} {rest : List Stmt}
/-- x, y = a tuple of two, in any mode -/
theorem jss_asgT2M (C : Fb md X N sc k) (hmd : md ≠ .cold) (n1 n2 : Nat) {x1 x2 : Str} {p1 p2 pt : Pos} {kt : Nat} {d1 d2 : PyData} (h : JE X ρ μ e (.dat (.tuple [d1, d2])) μ1) (f : JSs X ((ρ.set n1 (some (.dat d1))).set n2 (some (.dat d2))) μ1 rest Φ)
    (hN1 : N[n1]? = some x1 := by rfl) (hN2 : N[n2]? = some x2 := by rfl) (hv1 : Loc sc x1 := by first | exact Or.inl rfl | exact Or.inr rfl) (hv2 : Loc sc x2 := by first | exact Or.inl rfl | exact Or.inr rfl)
    (hs : swapsWithSole [Expr.Tuple [.Name x1 p1, .Name x2 p2] kt pt] e pos.line X.env = pure false := by rfl) (hw : swappedStores [Expr.Tuple [.Name x1 p1, .Name x2 p2] kt pt] e X.env = pure none := by rfl) (h1 : (assignEach [Expr.Tuple [.Name x1 p1, .Name x2 p2] kt pt] X.env).map (·.2) = [assign (Expr.Tuple [.Name x1 p1, .Name x2 p2] kt pt) X.env] := by rfl) :
    JSs X ρ μ (.Assign [.Tuple [.Name x1 p1, .Name x2 p2] kt pt] e pos :: rest) Φ := by
  cases md with
  | calm => exact jss_asgT2 C n1 n2 h f hN1 hN2 hv1 hv2 hs hw h1
  | cold => exact absurd rfl hmd
  | hot =>
    exact jss_cons fun Wx tk => PS.imp (ps_asg h (pg_tupH (n := 2) C.hotC (pgs_cons (pg_name (i := n1) (by rw [C.n]; exact C.nd) (by rw [C.n]; exact hN1) (C.wr hv1).1 (C.wr hv1).2) (pgs_cons (pg_name (i := n2) (by rw [C.n]; exact C.nd) (by rw [C.n]; exact hN2) (C.wr hv2).1 (C.wr hv2).2) pgs_nil))) hs hw h1) fun D σ H ⟨G, S, Wn⟩ => ⟨G, S, fun v H1 G1 g1 m1 wv => by
      obtain ⟨l, xs, rfl, hsq, hd⟩ := wv_tup wv
      cases hd with
      | cons q1 hd =>
        cases hd with
        | cons q2 hd =>
          cases hd
          exact ⟨l, _, rfl, seqT g1.gs hsq, rfl, _, _, rfl, _, _, rfl, rfl, Wn.nx _ _ _ _ _ f g1 (((S.go g1 m1).set n1 (w := .dat d1) q1).set n2 (w := .dat d2) q2)⟩⟩
/-- a + b of lists that are known -/
theorem op_catSq {X : Cx} : OpR X (binaryOp .Add) (fun x y H Q => ∃ l b xs zs, x = .ref l ∧ y = .ref b ∧ SqL X.K H l xs ∧ SqL X.K H b zs ∧ xs.length + zs.length ≤ sizeLine ∧ ∀ p, H p = none → Q (.ref p) (upd H p (.lst (xs ++ zs)))) := by
  intro pins s σ H x y v u Q I rx ry ⟨l, b, xs, zs, e1, e2, hH, hB, hz, q⟩
  subst e1; subst e2; cases rx; cases ry
  obtain ⟨its, r, pl, z1⟩ := I.list hH; obtain ⟨its2, r2, pl2, z2⟩ := I.list hB
  have l1 := r.length; have l2 := r2.length
  obtain ⟨⟨k1, d1, o1, w1⟩, g1, c1, n1, t1⟩ := pl.isList; obtain ⟨⟨k2, d2, o2, w2⟩, g2, c2, n2, t2⟩ := pl2.isList
  simp only at c1 t1 c2 t2; subst c1 t1 c2 t2
  refine concat_meets ⟨_, g1, rfl⟩ ⟨_, g2, rfl⟩ noFill_list_add seq_list_add F.slot_list_add F.entry_list_add (F.args_list_add_2 _ _) (list_addW l b its.toArray its2.toArray n1 n2 d1 d2 w1 w2 (by rw [List.size_toArray, List.size_toArray]; omega)) ⟨g1, g2, ?_⟩
  rw [show its.toArray ++ its2.toArray = (its ++ its2).toArray from by simp]
  exact ⟨.ref _, _, I.lnew (t' := s.toks) (r.append r2) (by rw [List.length_append]; omega), rfl, q _ I.fresh⟩
theorem jl_catD {a b : Expr} {μ2 : Mu} {ds es : List PyData} (ha : JE X ρ μ a (.dat (.list ds)) μ1) (hb : JE X ρ μ1 b (.dat (.list es)) μ2) (h1 : ds.length + es.length ≤ 100000) : JL X ρ μ (.BinOp a .Add b pos) (ds ++ es) μ2 :=
  PE.imp (pe_op op_catSq ha hb) fun σ H Q ⟨G, S, q⟩ => ⟨G, S, fun x H1 G1 g1 m1 wx => ⟨G1, S.go g1 m1, fun y H2 G2 g2 m2 wy => by
    obtain ⟨l, xs, rfl, hs, hd⟩ := wv_lst wx
    obtain ⟨l2, zs, rfl, hs2, hd2⟩ := wv_lst wy
    refine ⟨l, l2, xs, zs, rfl, rfl, (g2.gx.trans g2.gs).seq hs, g2.gs.seq hs2, by rw [dpAll_len hd, dpAll_len hd2]; exact sz3 h1, fun t ht => ?_⟩
    obtain ⟨g4, m4, gt, tm⟩ := lay_l (o := .lst (xs ++ zs)) g2.gs m2 ht
    have gg := g1.trans g2
    exact q t _ _ G2 (gg.trans g4) m4 (gg.al t ht) gt tm upd_same (dpAll_app (dpAll_same g2.gx _ _ hd) hd2)⟩⟩
/-- not a list -/
theorem je_notL {a : Expr} {ds : List PyData} (ha : JE X ρ μ a (.dat (.list ds)) μ1) : JE X ρ μ (.UnaryOp .Not a pos) (wb ds.isEmpty) μ1 :=
  PE.imp (pe_notT ha) fun σ H Q ⟨G, S, q⟩ => ⟨G, S, fun x H1 G1 g1 m1 wx => by
    obtain ⟨l, xs, rfl, hs, hd⟩ := wv_lst wx
    refine ⟨!ds.isEmpty, .inl ⟨xs, g1.gs.seq hs, by rw [isEmpty_all hd]⟩, ?_⟩
    rw [Bool.not_not]
    exact q _ H1 G1 g1 m1 (Dp.bl _)⟩
end
end RB
namespace RB
open PySem PySem.Spec PyProof.Rows L2
section
variable {md : Md} {X : Cx} {N : List Str} {sc : Scope} {k : Nat} {ρ : Rho} {μ μ1 : Mu} {e : Expr} {pos : Pos} {Φ : Out → Prop} {rest : List Stmt}
/-- x, y, z = a tuple of three, in any mode -/
theorem jss_asgT3M (C : Fb md X N sc k) (hmd : md ≠ .cold) (n1 n2 n3 : Nat) {x1 x2 x3 : Str} {p1 p2 p3 pt : Pos} {kt : Nat} {d1 d2 d3 : PyData} (h : JE X ρ μ e (.dat (.tuple [d1, d2, d3])) μ1) (f : JSs X (((ρ.set n1 (some (.dat d1))).set n2 (some (.dat d2))).set n3 (some (.dat d3))) μ1 rest Φ)
    (hN1 : N[n1]? = some x1 := by rfl) (hN2 : N[n2]? = some x2 := by rfl) (hN3 : N[n3]? = some x3 := by rfl) (hv1 : Loc sc x1 := by first | exact Or.inl rfl | exact Or.inr rfl) (hv2 : Loc sc x2 := by first | exact Or.inl rfl | exact Or.inr rfl) (hv3 : Loc sc x3 := by first | exact Or.inl rfl | exact Or.inr rfl)
    (hs : swapsWithSole [Expr.Tuple [.Name x1 p1, .Name x2 p2, .Name x3 p3] kt pt] e pos.line X.env = pure false := by rfl) (hw : swappedStores [Expr.Tuple [.Name x1 p1, .Name x2 p2, .Name x3 p3] kt pt] e X.env = pure none := by rfl) (h1 : (assignEach [Expr.Tuple [.Name x1 p1, .Name x2 p2, .Name x3 p3] kt pt] X.env).map (·.2) = [assign (Expr.Tuple [.Name x1 p1, .Name x2 p2, .Name x3 p3] kt pt) X.env] := by rfl) :
    JSs X ρ μ (.Assign [.Tuple [.Name x1 p1, .Name x2 p2, .Name x3 p3] kt pt] e pos :: rest) Φ := by
  cases md with
  | calm => exact jss_asgT3 C n1 n2 n3 h f hN1 hN2 hN3 hv1 hv2 hv3 hs hw h1
  | cold => exact absurd rfl hmd
  | hot =>
    exact jss_cons fun Wx tk => PS.imp (ps_asg h (pg_tupH (n := 3) C.hotC (pgs_cons (pg_name (i := n1) (by rw [C.n]; exact C.nd) (by rw [C.n]; exact hN1) (C.wr hv1).1 (C.wr hv1).2) (pgs_cons (pg_name (i := n2) (by rw [C.n]; exact C.nd) (by rw [C.n]; exact hN2) (C.wr hv2).1 (C.wr hv2).2) (pgs_cons (pg_name (i := n3) (by rw [C.n]; exact C.nd) (by rw [C.n]; exact hN3) (C.wr hv3).1 (C.wr hv3).2) pgs_nil)))) hs hw h1) fun D σ H ⟨G, S, Wn⟩ => ⟨G, S, fun v H1 G1 g1 m1 wv => by
      obtain ⟨l, xs, rfl, hsq, hd⟩ := wv_tup wv
      cases hd with
      | cons q1 hd =>
        cases hd with
        | cons q2 hd =>
          cases hd with
          | cons q3 hd =>
            cases hd
            exact ⟨l, _, rfl, seqT g1.gs hsq, rfl, _, _, rfl, _, _, rfl, _, _, rfl, rfl, Wn.nx _ _ _ _ _ f g1 ((((S.go g1 m1).set n1 (w := .dat d1) q1).set n2 (w := .dat d2) q2).set n3 (w := .dat d3) q3)⟩⟩
theorem jt_eqb {a b : Expr} {μ2 : Mu} {b1 b2 : Bool} (ha : JE X ρ μ a (wb b1) μ1) (hb : JE X ρ μ1 b (wb b2) μ2) : JT X ρ μ (.Compare a [.Eq] [b] pos) (decide (b1 = b2)) μ2 :=
  jt_cmp op_eq ha hb (nomark _) fun G H x y Q _ hx hy q => by rw [wv_bl hx, wv_bl hy]; exact ⟨rfl, by rw [V_bl_dec]; exact q⟩
/-- nothing can be asked, in any mode -/
theorem cal_noneM (md : Md) (hmd : md ≠ .cold) {P : Program} {wd : World} {K : PySem.W.Frag} {mg : Str → Option Value} {base : Heap} {x : Str} {st : Stmt} {ps : List Str} {R : List W → Mu → W → Mu → Prop} (A : DefAt K mg x st ps) (h : ∀ ws μ w μ', ¬ R ws μ w μ') : CalG md P wd K mg base 0 x R noX := by
  cases md with
  | calm => exact cal_none A h
  | cold => exact absurd rfl hmd
  | hot =>
    obtain ⟨f, fd, F, hm, b⟩ := A
    have no : ∀ vs H Q E, ¬ SpX K R noX vs H Q E := fun vs H Q E q => by
      rcases q with ⟨_, _, _, _, _, _, _, _, hr, _⟩ | ⟨_, _, _, _, _, _, _, _, hr, _⟩
      · exact h _ _ _ _ hr
      · exact hr.elim
    exact ⟨f, fd, ps, ⟨fun vs H Q E q => absurd q (no vs H Q E), fun A outer s H args us vs Q E p _ _ _ _ _ _ q => absurd q (no vs H Q E)⟩, hm, F.kp, b⟩
end
end RB
namespace RB
open PySem PySem.Spec PyProof.Rows L2
/-! ### new objects of any kind -/
def rdN (K : PySem.W.Frag) (ρ : Rho) (μ : Mu) (o : OD) (μ' : Mu) : TE := fun σ H Q => ∃ G, StOk K σ H G ρ μ ∧ ∀ p h H' G', Go H G μ H' G' μ' → MuOk K H' G' μ' → H p = none → G' p = none → p ∉ μ'.map (·.1) → H' p = some h → OOk K G' h o → Q (.ref p) H'
def JN (X : Cx) (ρ : Rho) (μ : Mu) (e : Expr) (o : OD) (μ' : Mu) : Prop := PE X e (rdN X.K ρ μ o μ')
/-! ### tables of data -/
def valD (kvs : List (Int × PyData)) (k : Int) : Option PyData := (kvs.find? fun kv => decide (kv.1 = k)).map (·.2)
def putD (kvs : List (Int × PyData)) (k : Int) (v : PyData) : List (Int × PyData) :=
  if (kvs.any fun kv => decide (kv.1 = k)) = true then kvs.map (fun kv => if kv.1 = k then (kv.1, v) else kv) else kvs ++ [(k, v)]
def dropD (kvs : List (Int × PyData)) (k : Int) : List (Int × PyData) := kvs.filter fun kv => decide (kv.1 ≠ k)
def mergeD (kvs more : List (Int × PyData)) : List (Int × PyData) := more.foldl (fun acc kv => putD acc kv.1 kv.2) kvs
theorem inl_dec {a b : Int} : decide ((Sum.inl a : Key) = .inl b) = decide (a = b) := by
  by_cases h : a = b
  · subst h; simp
  · rw [decide_eq_false h, decide_eq_false fun q => h (Sum.inl.inj q)]
section
variable {K : PySem.W.Frag} {G : Hp}
theorem kvD_len : ∀ {vs : List (Key × V)} {kvs : List (Int × PyData)}, KvD K G vs kvs → vs.length = kvs.length := fun h => Paired.length h
theorem kvD_any : ∀ {vs : List (Key × V)} {kvs : List (Int × PyData)} (k : Int), KvD K G vs kvs → (vs.any fun kv => decide (kv.1 = .inl k)) = kvs.any fun kv => decide (kv.1 = k)
  | _, _, _, .nil => rfl
  | _, _, k, .cons h t => by rw [List.any_cons, List.any_cons, kvD_any k t, h.1, inl_dec]
theorem kvD_val : ∀ {vs : List (Key × V)} {kvs : List (Int × PyData)} (k : Int), KvD K G vs kvs → (valV vs (.inl k) = none ∧ valD kvs k = none) ∨ ∃ v d, valV vs (.inl k) = some v ∧ valD kvs k = some d ∧ Dp K G v d
  | _, _, _, .nil => .inl ⟨rfl, rfl⟩
  | p :: ps, q :: qs, k, .cons h t => by
    by_cases e : q.1 = k
    · refine .inr ⟨p.2, q.2, valV_pos (by rw [h.1, e]), ?_, h.2⟩
      unfold valD
      rw [List.find?_cons, decide_eq_true e]
      rfl
    · have e1 : ¬ p.1 = .inl k := fun z => e (Sum.inl.inj (h.1.symm.trans z))
      have e2 : valD (q :: qs) k = valD qs k := by
        unfold valD
        rw [List.find?_cons, decide_eq_false e]
      rw [valV_neg e1, e2]
      exact kvD_val k t
theorem kvD_map : ∀ {vs : List (Key × V)} {kvs : List (Int × PyData)} {k : Int} {v : V} {d : PyData}, KvD K G vs kvs → Dp K G v d → KvD K G (vs.map fun kv => if kv.1 = .inl k then (kv.1, v) else kv) (kvs.map fun kv => if kv.1 = k then (kv.1, d) else kv)
  | _, _, _, _, _, .nil, _ => .nil
  | p :: ps, q :: qs, k, v, d, .cons h t, hv => by
    rw [List.map_cons, List.map_cons]
    refine .cons ?_ (kvD_map t hv)
    by_cases e : q.1 = k
    · rw [if_pos e, if_pos (by rw [h.1, e])]
      exact ⟨h.1, hv⟩
    · rw [if_neg e, if_neg (fun z => e (Sum.inl.inj (h.1.symm.trans z)))]
      exact h
theorem kvD_app : ∀ {vs us : List (Key × V)} {kvs ls : List (Int × PyData)}, KvD K G vs kvs → KvD K G us ls → KvD K G (vs ++ us) (kvs ++ ls)
  | _, _, _, _, .nil, h => h
  | _, _, _, _, .cons h t, h2 => .cons h (kvD_app t h2)
theorem kvD_put {vs : List (Key × V)} {kvs : List (Int × PyData)} {k : Int} {v : V} {d : PyData} (h : KvD K G vs kvs) (hv : Dp K G v d) : KvD K G (putK vs (.inl k) v) (putD kvs k d) := by
  unfold putK putD
  rw [kvD_any k h]
  split
  · exact kvD_map h hv
  · exact kvD_app h (.cons ⟨rfl, hv⟩ .nil)
theorem kvD_drop : ∀ {vs : List (Key × V)} {kvs : List (Int × PyData)} {k : Int}, KvD K G vs kvs → KvD K G (dropK vs (.inl k)) (dropD kvs k)
  | _, _, _, .nil => .nil
  | p :: ps, q :: qs, k, .cons h t => by
    have ih := kvD_drop (k := k) t
    unfold dropK dropD at ih ⊢
    rw [List.filter_cons, List.filter_cons]
    by_cases e : q.1 = k
    · rw [if_neg (by simp [h.1, e]), if_neg (by simp [e])]
      exact ih
    · have e1 : ¬ p.1 = .inl k := fun z => e (Sum.inl.inj (h.1.symm.trans z))
      rw [if_pos (by simp [e1]), if_pos (by simp [e])]
      exact .cons h ih
theorem kvD_merge : ∀ {us : List (Key × V)} {ls : List (Int × PyData)} {vs : List (Key × V)} {kvs : List (Int × PyData)}, KvD K G us ls → KvD K G vs kvs → KvD K G (mergeK vs us) (mergeD kvs ls)
  | _, _, _, _, .nil, h => h
  | p :: us, q :: ls, vs, kvs, .cons h t, h2 => by
    show KvD K G (mergeK (putK vs p.1 p.2) us) (mergeD (putD kvs q.1 q.2) ls)
    rw [h.1]
    exact kvD_merge t (kvD_put h2 h.2)
end
theorem length_putD (kvs : List (Int × PyData)) (k : Int) (v : PyData) : (putD kvs k v).length ≤ kvs.length + 1 := by
  unfold putD
  split
  · rw [List.length_map]; omega
  · rw [List.length_append, List.length_cons, List.length_nil]; omega
theorem valD_cons {p : Int × PyData} {r : List (Int × PyData)} {k : Int} : valD (p :: r) k = if p.1 = k then some p.2 else valD r k := by
  unfold valD
  rw [List.find?_cons]
  by_cases e : p.1 = k
  · rw [decide_eq_true e, if_pos e]; rfl
  · rw [decide_eq_false e, if_neg e]
theorem valD_none {k : Int} : ∀ {kvs : List (Int × PyData)}, valD kvs k = none ↔ ∀ q ∈ kvs, q.1 ≠ k
  | [] => ⟨fun _ q hq => absurd hq (by simp), fun _ => rfl⟩
  | p :: r => by
    rw [valD_cons]
    by_cases e : p.1 = k
    · rw [if_pos e]
      exact ⟨fun h => (Option.some_ne_none _ h).elim, fun h => absurd e (h p List.mem_cons_self)⟩
    · rw [if_neg e, valD_none]
      exact ⟨fun h q hq => (List.mem_cons.mp hq).elim (fun z => by rw [z]; exact e) (h q), fun h q hq => h q (List.mem_cons_of_mem _ hq)⟩
theorem valD_mem {k : Int} {d : PyData} : ∀ {kvs : List (Int × PyData)}, valD kvs k = some d → (k, d) ∈ kvs
  | [], h => absurd h (by simp [valD])
  | p :: r, h => by
    rw [valD_cons] at h
    by_cases e : p.1 = k
    · rw [if_pos e] at h
      cases h
      rw [← e]
      exact List.mem_cons_self
    · rw [if_neg e] at h
      exact List.mem_cons_of_mem _ (valD_mem h)
theorem any_valD {k : Int} : ∀ {kvs : List (Int × PyData)}, (kvs.any fun kv => decide (kv.1 = k)) = (valD kvs k).isSome
  | [] => rfl
  | p :: r => by
    rw [List.any_cons, valD_cons, any_valD]
    by_cases e : p.1 = k
    · rw [decide_eq_true e, if_pos e, Bool.true_or]; rfl
    · rw [decide_eq_false e, if_neg e, Bool.false_or]
theorem valD_app {k : Int} : ∀ {kvs ls : List (Int × PyData)}, valD (kvs ++ ls) k = (valD kvs k).orElse fun _ => valD ls k
  | [], ls => by rw [List.nil_append]; rfl
  | p :: r, ls => by
    rw [List.cons_append, valD_cons, valD_cons, valD_app]
    by_cases e : p.1 = k
    · rw [if_pos e, if_pos e]; rfl
    · rw [if_neg e, if_neg e]
theorem valD_map {k j : Int} {d : PyData} : ∀ {kvs : List (Int × PyData)}, valD (kvs.map fun kv => if kv.1 = k then (kv.1, d) else kv) j = if j = k then (valD kvs j).map fun _ => d else valD kvs j
  | [] => by
    show none = if j = k then none else none
    split <;> rfl
  | p :: r => by
    rw [List.map_cons, valD_cons, valD_cons, valD_map]
    by_cases e : p.1 = k
    · rw [if_pos e]
      by_cases e2 : p.1 = j
      · rw [if_pos e2, if_pos e2, if_pos (by omega)]; rfl
      · rw [if_neg e2, if_neg e2, if_neg (by omega)]
    · rw [if_neg e]
      by_cases e2 : p.1 = j
      · rw [if_pos e2, if_neg (by omega), if_pos e2]
      · rw [if_neg e2, if_neg e2]
theorem valD_put {kvs : List (Int × PyData)} {k j : Int} {d : PyData} : valD (putD kvs k d) j = if j = k then some d else valD kvs j := by
  unfold putD
  rw [any_valD]
  cases e : valD kvs k with
  | some x =>
    show valD (kvs.map fun kv => if kv.1 = k then (kv.1, d) else kv) j = _
    rw [valD_map]
    by_cases c : j = k
    · rw [if_pos c, if_pos c, c, e]; rfl
    · rw [if_neg c, if_neg c]
  | none =>
    show valD (kvs ++ [(k, d)]) j = _
    rw [valD_app, valD_cons]
    by_cases c : j = k
    · rw [if_pos c, c, e, if_pos rfl]; rfl
    · rw [if_neg c, if_neg (fun z => c z.symm)]
      cases valD kvs j <;> rfl
/-- the keys rise apart: the list itself -/
theorem merge_new : ∀ (L kvs : List (Int × PyData)), (L.map (·.1)).Nodup → (∀ q ∈ L, valD kvs q.1 = none) → mergeD kvs L = kvs ++ L
  | [], kvs, _, _ => by rw [List.append_nil]; rfl
  | p :: r, kvs, hn, h => by
    rw [List.map_cons, List.nodup_cons] at hn
    have e : putD kvs p.1 p.2 = kvs ++ [p] := by
      unfold putD
      rw [any_valD, h p List.mem_cons_self, if_neg (by decide)]
    show mergeD (putD kvs p.1 p.2) r = _
    rw [e, merge_new r _ hn.2 fun q hq => ?_, List.append_assoc]
    · rfl
    · rw [valD_app, h q (List.mem_cons_of_mem _ hq), valD_cons, if_neg fun z => hn.1 (by rw [z]; exact List.mem_map.mpr ⟨q, hq, rfl⟩)]
      rfl
/-! ### items by steps -/
def stepL {α : Type} (xs : List α) (a s : Nat) : List α := (List.range ((xs.length - a + s - 1) / s)).filterMap fun k => xs[a + k * s]?
theorem step_cnt (n a s : Nat) (hs : 0 < s) : (n - a + s - 1) / s ≤ n := by
  cases n with
  | zero => rw [Nat.zero_sub, Nat.zero_add, Nat.div_eq_of_lt (by omega)]; exact Nat.le_refl _
  | succ m =>
    refine Nat.div_le_of_le_mul ?_
    obtain ⟨t, rfl⟩ : ∃ t, s = t + 1 := ⟨s - 1, by omega⟩
    have : (t + 1) * (m + 1) = t * m + t + m + 1 := by rw [Nat.mul_succ, Nat.succ_mul]; omega
    rw [this]
    omega
theorem dpAll_pick {K : PySem.W.Frag} {G : Hp} {xs : List V} {ds : List PyData} (h : DpAll K G xs ds) (f : Nat → Nat) : ∀ is : List Nat, DpAll K G (is.filterMap fun k => xs[f k]?) (is.filterMap fun k => ds[f k]?)
  | [] => .nil
  | i :: is => by
    rw [List.filterMap_cons, List.filterMap_cons]
    have ih := dpAll_pick h f is
    cases e : ds[f i]? with
    | none =>
      have : xs[f i]? = none := by
        rw [List.getElem?_eq_none_iff] at e ⊢
        rw [dpAll_len h]
        exact e
      rw [this]
      exact ih
    | some d =>
      obtain ⟨v, h1, h2⟩ := dpAll_get h e
      rw [h1]
      exact .cons h2 ih
theorem dpAll_step {K : PySem.W.Frag} {G : Hp} {xs : List V} {ds : List PyData} (h : DpAll K G xs ds) (a s : Nat) : DpAll K G (stepL xs a s) (stepL ds a s) := by
  unfold stepL
  rw [dpAll_len h]
  exact dpAll_pick h _ _
theorem paired_imp {α β : Type} {R R' : α → β → Prop} (h : ∀ a b, R a b → R' a b) : ∀ {xs : List α} {us : List β}, Paired R xs us → Paired R' xs us
  | _, _, .nil => .nil
  | _, _, .cons a t => .cons (h _ _ a) (paired_imp h t)
theorem paired_get {α β : Type} {R : α → β → Prop} : ∀ {xs : List α} {us : List β} {i : Nat} {v : α} {u : β}, Paired R xs us → xs[i]? = some v → us[i]? = some u → R v u
  | _, _, _, _, _, .nil, e, _ => by simp at e
  | _, _, 0, _, _, .cons h _, e1, e2 => by simp at e1 e2; subst e1 e2; exact h
  | _, _, i + 1, _, _, .cons _ t, e1, e2 => paired_get (i := i) t (by simpa using e1) (by simpa using e2)
theorem vals_pick {xs : List V} {us : List Value} (r : Vals xs us) (f : Nat → Nat) : ∀ is : List Nat, Vals (is.filterMap fun k => xs[f k]?) (is.filterMap fun k => us[f k]?)
  | [] => .nil
  | i :: is => by
    rw [List.filterMap_cons, List.filterMap_cons]
    have ih := vals_pick r f is
    have hl := r.length
    cases e : us[f i]? with
    | none =>
      have : xs[f i]? = none := by
        rw [List.getElem?_eq_none_iff] at e ⊢
        rw [hl]
        exact e
      rw [this]
      exact ih
    | some d =>
      have e2 : ∃ v, xs[f i]? = some v := by
        cases e3 : xs[f i]? with
        | none =>
          rw [List.getElem?_eq_none_iff, hl] at e3
          rw [List.getElem?_eq_none e3] at e
          cases e
        | some v => exact ⟨v, rfl⟩
      obtain ⟨v, e2⟩ := e2
      rw [e2]
      exact .cons (paired_get r e2 e) ih
theorem slicePick_step (items : Array Value) (a s : Nat) (hs : 0 < s) : slicePick items (some (a : Int)) none (some (s : Int)) = (stepL items.toList a s).toArray := by
  unfold slicePick stepL
  congr 1
  have e1 : (sliceBounds (some (a : Int)) none (some (s : Int)) items.size) = (((min a items.size : Nat) : Int), (items.size : Int), (s : Int)) := by
    simp only [sliceBounds, Option.getD_some, show (s : Int) > 0 from by omega, if_true]
    refine Prod.ext ?_ (Prod.ext ?_ rfl)
    · dsimp only
      rw [if_neg (by omega)]
      omega
    · rfl
  rw [e1]
  dsimp only
  unfold sliceRange
  rw [if_pos (show (s : Int) > 0 from by omega)]
  rw [List.filterMap_map, Array.length_toList]
  by_cases h : a < items.size
  · have e2 : (if ((min a items.size : Nat) : Int) < (items.size : Int) then ((items.size : Int) - ((min a items.size : Nat) : Int) + (s : Int) - 1) / (s : Int) else 0) = (((items.size - a + s - 1) / s : Nat) : Int) := by
      rw [if_pos (by omega), Int.natCast_ediv]
      congr 1
      omega
    rw [e2, Int.toNat_natCast]
    refine congrArg (fun f => List.filterMap f _) (funext fun k => ?_)
    show items[_]? = items.toList[_]?
    rw [Array.getElem?_toList, Nat.min_eq_left (Nat.le_of_lt h)]
    congr 1
    show ((a : Int) + (s : Int) * (k : Int)).toNat = a + k * s
    rw [Int.mul_comm]
    have : (a : Int) + (k : Int) * (s : Int) = ((a + k * s : Nat) : Int) := by rw [Int.natCast_add, Int.natCast_mul]
    rw [this, Int.toNat_natCast]
  · rw [if_neg (by omega)]
    have e3 : (items.size - a + s - 1) / s = 0 := Nat.div_eq_of_lt (by omega)
    rw [e3]
    rfl

section
variable {md : Md} {X : Cx} {N : List Str} {sc : Scope} {k : Nat} {ρ : Rho} {μ μ1 μ2 μ3 : Mu} {a b c e : Expr} {pos p p2 p3 ap cp : Pos} {w : W} {ds : List PyData} {d : PyData} {i j : Int} {Φ : Out → Prop} {rest : List Stmt} {o : OD} {kvs : List (Int × PyData)}
theorem JL.jn (h : JL X ρ μ e ds μ1) : JN X ρ μ e (.l ds) μ1 := PE.imp h fun σ H Q ⟨G, S, q⟩ => ⟨G, S, fun p xs H' G' g m h0 h1 h2 h3 h4 => q p _ H' G' g m h0 h1 h2 h3 ⟨xs, rfl, h4⟩⟩
/-- x = a new object, owned -/
theorem js_asgN (C : Fb md X N sc k) (n : Nat) {x : Str} (h : JN X ρ μ e o μ1) (f : ∀ l, Φ (.nx (ρ.set n (some (.loc l))) ((l, o) :: μ1))) (hN : N[n]? = some x := by rfl) (hv : Loc sc x := by first | exact Or.inl rfl | exact Or.inr rfl)
    (hs : swapsWithSole [Expr.Name x p] e pos.line X.env = pure false := by rfl) (hw : swappedStores [Expr.Name x p] e X.env = pure none := by rfl) (h1 : (assignEach [Expr.Name x p] X.env).map (·.2) = [assign (Expr.Name x p) X.env] := by rfl) :
    JS X ρ μ (.Assign [.Name x p] e pos) Φ :=
  fun Wx tk => PS.imp (ps_asg h (pg_name (i := n) (by rw [C.n]; exact C.nd) (by rw [C.n]; exact hN) (C.wr hv).1 (C.wr hv).2) hs hw h1) fun D σ H ⟨G, S, Wn⟩ =>
    ⟨G, S, fun l ho H1 G1 g1 m1 h0 gl lm hl hd => by
      have m2 : MuOk X.K H1 G1 ((l, o) :: μ1) := ⟨fun n a es e => by
        cases n with
        | zero => cases e; exact ⟨gl, ho, hl, hd⟩
        | succ n => exact m1.on n a es e, by
        rw [List.map_cons]
        exact List.nodup_cons.mpr ⟨lm, m1.nd⟩⟩
      have g2 : Go H G μ H1 G1 ((l, o) :: μ1) := ⟨g1.fr, g1.gx, g1.gs, g1.nw, fun a h => by
        rw [List.map_cons] at h
        rcases List.mem_cons.mp h with h | h
        · rw [h]; exact .inr h0
        · exact g1.dm a h, g1.al⟩
      exact Wn.nx _ _ _ _ _ (f l) g2 ((S.go g2 m2).set n (show WV X.K G1 (.ref l) (.loc l) from rfl))⟩
theorem jss_asgN (C : Fb md X N sc k) (n : Nat) {x : Str} (h : JN X ρ μ e o μ1) (f : ∀ l, JSs X (ρ.set n (some (.loc l))) ((l, o) :: μ1) rest Φ) (hN : N[n]? = some x := by rfl) (hv : Loc sc x := by first | exact Or.inl rfl | exact Or.inr rfl)
    (hs : swapsWithSole [Expr.Name x p] e pos.line X.env = pure false := by rfl) (hw : swappedStores [Expr.Name x p] e X.env = pure none := by rfl) (h1 : (assignEach [Expr.Name x p] X.env).map (·.2) = [assign (Expr.Name x p) X.env] := by rfl) :
    JSs X ρ μ (.Assign [.Name x p] e pos :: rest) Φ := jss_cons (js_asgN C n h f hN hv hs hw h1)
theorem JL.cast {es : List PyData} (h : JL X ρ μ e ds μ1) (q : ds = es) : JL X ρ μ e es μ1 := q ▸ h
/-! ### slices with a step -/
theorem jl_step {lo st : Expr} {a0 s0 : Int} (ha : JE X ρ μ a (.dat (.list ds)) μ1) (h1 : JE X ρ μ1 lo (wi a0) μ2) (h2 : JE X ρ μ2 st (wi s0) μ3) (p0 : 0 ≤ a0) (p1 : 0 < s0) : JL X ρ μ (.Subscript a (.Slice (some lo) none (some st) p2) pos) (stepL ds a0.toNat s0.toNat) μ3 := by
  refine ⟨fun pins s σ H Q I ⟨G, S, q⟩ => ?_⟩
  refine Subscript_ (thn (ha.run pins s σ H (fun v H1 => ∃ G1, Go H G μ H1 G1 μ1 ∧ MuOk X.K H1 G1 μ1 ∧ WV X.K G1 v (.dat (.list ds))) I ⟨G, S, fun v H1 G1 g m wv => ⟨G1, g, m, wv⟩⟩) fun v s1 ⟨x, H1, I1, r1, G1, g1, m1, wv⟩ => ?_)
  obtain ⟨l, xs, rfl, hs, hd⟩ := wv_lst wv
  cases r1
  refine wpAny_Slice (thn ((po_some h1).run pins s1 σ H1 (fun ov H2 => ∃ G2, ov = some a0 ∧ Go H1 G1 μ1 H2 G2 μ2 ∧ MuOk X.K H2 G2 μ2) I1 ⟨G1, S.go g1 m1, fun v H2 G2 g m wv => ⟨a0, wv_int wv, G2, rfl, g, m⟩⟩) fun vl s2 ⟨ol, H2, I2, pl, G2, e2, g2, m2⟩ => ?_)
  subst e2
  refine thn (po_none.run pins s2 σ H2 (fun ov H3 => ov = none ∧ H3 = H2) I2 ⟨rfl, rfl⟩) fun vu s3 ⟨u, H3, I3, pu, eu, e3⟩ => ?_
  subst eu e3
  refine thn ((po_some h2).run pins s3 σ H3 (fun ov H4 => ∃ G4, ov = some s0 ∧ Go H3 G2 μ2 H4 G4 μ3 ∧ MuOk X.K H4 G4 μ3) I3 ⟨G2, (S.go g1 m1).go g2 m2, fun v H4 G4 g m wv => ⟨s0, wv_int wv, G4, rfl, g, m⟩⟩) fun vs s4 ⟨os, H4, I4, ps, G4, e4, g4, m4⟩ => ?_
  subst e4
  have I5 : Inv X pins σ H4 { s4 with heap := s4.heap.push { cls := .type "slice", data := .fields #[vl, vu, vs] } } := I4.kept (t' := s4.toks) fun b ob q => Heap.get?_push_of_some _ q
  have gg := (g1.trans g2).trans g4
  obtain ⟨its, r, ht, hz⟩ := I5.list (((g2.trans g4).gx.trans g4.gs).seq hs)
  have hlen := r.length
  show wpAny (model X.prog X.w) X.A (subscriptTail a (.Slice (some lo) none (some st) p2) (.ref l) (.ref s4.heap.objs.size)) (EP X pins σ Q) X.xe { s4 with heap := s4.heap.push { cls := .type "slice", data := .fields #[vl, vu, vs] } }
  refine tail_any (ops := [.ref l, .ref s4.heap.objs.size]) ht.isList.typeIs (PySem.slot_list_getitem.lookup) ?_ (by with_unfolding_all rfl)
  refine wpAny_getItem_list_slice ht.isList (Heap.IsSliceOf.new _ vl vu vs) pl pu ps (fun z => by have := Option.some.inj z; omega) ?_ (by rw [List.size_toArray]; omega)
  have ea : a0 = (a0.toNat : Int) := by omega
  have es : s0 = (s0.toNat : Int) := by omega
  rw [show slicePick its.toArray (some a0) none (some s0) = (stepL its a0.toNat s0.toNat).toArray from by
    have := slicePick_step its.toArray a0.toNat s0.toNat (by omega)
    rw [← ea, ← es] at this
    exact this]
  have hsv : Vals (stepL xs a0.toNat s0.toNat) (stepL its a0.toNat s0.toNat) := by
    unfold stepL
    rw [hlen]
    exact vals_pick r _ _
  have hln : (stepL xs a0.toNat s0.toNat).length ≤ sizeLine := by
    refine Nat.le_trans (List.length_filterMap_le _ _) ?_
    rw [List.length_range]
    refine Nat.le_trans (step_cnt _ _ _ (by omega)) hz
  refine ⟨.ref _, _, I5.laid (t' := s4.toks) (o := .lst (stepL xs a0.toNat s0.toNat)) (fun b ob q => Heap.get?_push_of_some _ q) (Nat.le_refl _) ?_, rfl, ?_⟩
  · exact ⟨hln, _, 0, hsv, Heap.get?_push_size _ rfl⟩
  · have ht := I5.hok.fresh (Nat.le_refl _)
    obtain ⟨g5, m5, gt, tm⟩ := lay_l (o := .lst (stepL xs a0.toNat s0.toNat)) g4.gs m4 ht
    exact q _ _ _ G4 (gg.trans g5) m5 (gg.al _ ht) gt tm upd_same (dpAll_same (g2.trans g4).gx _ _ (dpAll_step hd _ _))
/-! ### dicts -/
theorem hu1 (C : Fx md X N sc k) : X.A.units + 1 < cLine := Nat.lt_of_le_of_lt (by omega) (hu64 C)
theorem jn_dict0 : JN X ρ μ (.Dict [] [] pos) (.d []) μ :=
  PE.imp pe_dnewK fun σ H Q ⟨G, S, q⟩ t ht => by
    obtain ⟨g, m, gt, tm⟩ := lay_l (o := .dK []) S.gh S.mu ht
    exact q _ _ _ G g m ht gt tm upd_same ⟨[], rfl, .nil⟩
/-- pairs as data -/
abbrev pdI (q : Int × PyData) : PyData := .tuple [.int q.1, q.2]
theorem pairs_kv {K : PySem.W.Frag} {G : Hp} : ∀ {L : List (Int × PyData)} {xs : List V}, DpAll K G xs (L.map pdI) → ∃ (ps : List Addr) (kvs : List (Key × V)), xs = ps.map V.ref ∧ Paired (fun p kv => SqT K G p [kV kv.1, kv.2]) ps kvs ∧ KvD K G kvs L
  | [], _, h => by cases h; exact ⟨[], [], rfl, .nil, .nil⟩
  | q :: L, _, h => by
    cases h with
    | cons h t =>
      obtain ⟨ps, kvs, e, h1, h2⟩ := pairs_kv t
      cases h with
      | tup hs ha =>
        cases ha with
        | cons a1 ha =>
          cases a1
          cases ha with
          | cons a2 ha =>
            cases ha
            exact ⟨_ :: ps, (.inl q.1, _) :: kvs, by rw [e]; rfl, .cons hs h1, .cons ⟨rfl, a2⟩ h2⟩
theorem jn_dictL (C : Fx .calm X N sc k) {L : List (Int × PyData)} (hm : X.mg "dict" = none) (ha : JE X ρ μ a (.dat (.list (L.map pdI))) μ1) (hg : sc.names.lookup ("dict" : Str) = some .globalImplicit := by rfl)
    (he : starEach [a] X.env = (false, eval a X.env) :: starEach [] X.env := by rfl) (hpl : (backTo pos (starEach [] X.env)).any (·.1) = false := by rfl) : JN X ρ μ (.Call (.Name "dict" p) [a] [] pos) (.d (mergeD [] L)) μ1 :=
  PE.imp (pe_callTy (call_dictP C.calm) (C.gl hg) hm PyProof.Rows.boot_dict (ja_cons ha ja_nil he) (he := he) (hpl := hpl)) fun σ H Q ⟨G, S, q⟩ => ⟨G, S, fun vs H1 G1 g1 m1 wvs => by
    cases wvs with
    | cons h t =>
      cases t
      obtain ⟨l, xs, rfl, hs, hd⟩ := wv_lst h
      obtain ⟨ps, kvs, rfl, h1, h2⟩ := pairs_kv hd
      refine ⟨l, ps, kvs, rfl, g1.gs.seq hs, ?_, fun t ht => ?_⟩
      · exact paired_imp (fun p kv z => seqT g1.gs z) h1
      · obtain ⟨g2, m2, gt, tm⟩ := lay_l (o := .dK (mergeK [] kvs)) g1.gs m1 ht
        exact q _ _ _ G1 (g1.trans g2) m2 (g1.al _ ht) gt tm upd_same ⟨_, rfl, kvD_merge h2 .nil⟩⟩
theorem jt_inD (C : Fx md X N sc k) {l : Addr} {n : Nat} (ha : JE X ρ μ a (wi i) μ1) (hb : JE X ρ μ1 b (.loc l) μ2) (hl : μ2[n]? = some (l, .d kvs)) (hmk : behindInMarks .In b = false := by first | exact nobehind _ (by decide) (by decide) | rfl) : JT X ρ μ (.Compare a [.In] [b] pos) (valD kvs i).isSome μ2 :=
  PT.imp (L2.pt_cmp (pc_din (hu1 C) ha hb) hmk) fun σ H Q ⟨G, S, q⟩ => ⟨G, S, fun x H1 G1 g1 m1 wx => ⟨G1, S.go g1 m1, fun y H2 G2 g2 m2 wy => by
    cases (show y = .ref l from wy)
    obtain ⟨_, _, hx, vs, rfl, hd⟩ := m2.on n l _ hl
    refine ⟨l, valV vs (.inl i), rfl, by rw [wv_int wx]; exact DGet.k (k := Sum.inl i) hx, _, rfl, ?_⟩
    have e : (valV vs (Sum.inl i : Key)).isSome = (valD kvs i).isSome := by rw [← valV_any, kvD_any i hd, any_valD]
    rw [e]
    exact q H2 G2 (g1.trans g2) m2⟩⟩
theorem jt_notInD (C : Fx md X N sc k) {l : Addr} {n : Nat} (ha : JE X ρ μ a (wi i) μ1) (hb : JE X ρ μ1 b (.loc l) μ2) (hl : μ2[n]? = some (l, .d kvs)) (hmk : behindInMarks .NotIn b = false := by first | exact nobehind _ (by decide) (by decide) | rfl) : JT X ρ μ (.Compare a [.NotIn] [b] pos) (!(valD kvs i).isSome) μ2 :=
  PT.imp (L2.pt_cmp (pc_dnotin (hu1 C) ha hb) hmk) fun σ H Q ⟨G, S, q⟩ => ⟨G, S, fun x H1 G1 g1 m1 wx => ⟨G1, S.go g1 m1, fun y H2 G2 g2 m2 wy => by
    cases (show y = .ref l from wy)
    obtain ⟨_, _, hx, vs, rfl, hd⟩ := m2.on n l _ hl
    refine ⟨l, valV vs (.inl i), rfl, by rw [wv_int wx]; exact DGet.k (k := Sum.inl i) hx, _, rfl, ?_⟩
    have e : (valV vs (Sum.inl i : Key)).isSome = (valD kvs i).isSome := by rw [← valV_any, kvD_any i hd, any_valD]
    rw [e]
    exact q H2 G2 (g1.trans g2) m2⟩⟩
theorem je_inD (C : Fx md X N sc k) {l : Addr} {n : Nat} (ha : JE X ρ μ a (wi i) μ1) (hb : JE X ρ μ1 b (.loc l) μ2) (hl : μ2[n]? = some (l, .d kvs)) (hmk : behindInMarks .In b = false := by first | exact nobehind _ (by decide) (by decide) | rfl) : JE X ρ μ (.Compare a [.In] [b] pos) (wb (valD kvs i).isSome) μ2 :=
  PE.imp (L2.pe_cmp (pc_din (hu1 C) ha hb) hmk) fun σ H Q ⟨G, S, q⟩ => ⟨G, S, fun x H1 G1 g1 m1 wx => ⟨G1, S.go g1 m1, fun y H2 G2 g2 m2 wy => by
    cases (show y = .ref l from wy)
    obtain ⟨_, _, hx, vs, rfl, hd⟩ := m2.on n l _ hl
    refine ⟨l, valV vs (.inl i), rfl, by rw [wv_int wx]; exact DGet.k (k := Sum.inl i) hx, ?_⟩
    have e : (valV vs (Sum.inl i : Key)).isSome = (valD kvs i).isSome := by rw [← valV_any, kvD_any i hd, any_valD]
    rw [e]
    exact q _ H2 G2 (g1.trans g2) m2 (Dp.bl _)⟩⟩
theorem je_getD (C : Fx md X N sc k) {l : Addr} {n : Nat} (hx : NoSl b) (ha : JE X ρ μ a (.loc l) μ1) (hb : JE X ρ μ1 b (wi i) μ2) (hl : μ2[n]? = some (l, .d kvs)) (e : valD kvs i = some d) : JE X ρ μ (.Subscript a b pos) (.dat d) μ2 :=
  PE.imp (pe_dget (hu1 C) ha hb hx) fun σ H Q ⟨G, S, q⟩ => ⟨G, S, fun x H1 G1 g1 m1 wx => ⟨G1, S.go g1 m1, fun y H2 G2 g2 m2 wy => by
    cases (show x = .ref l from wx)
    obtain ⟨_, _, hx, vs, rfl, hd⟩ := m2.on n l _ hl
    rcases kvD_val i hd with ⟨_, e2⟩ | ⟨v, d', e1, e2, hv⟩
    · rw [e] at e2; cases e2
    · rw [e] at e2
      cases e2
      refine ⟨l, v, rfl, ?_, q v H2 G2 (g1.trans g2) m2 hv⟩
      rw [wv_int wy, ← e1]
      exact DGet.k (k := Sum.inl i) hx⟩⟩
/-- an owned object is changed -/
theorem mu_putO {K : PySem.W.Frag} {H G : Hp} {l : Addr} {n : Nat} {h : HO} {o1 o2 : OD} (gh : Same G H) (m : MuOk K H G μ) (hl : μ[n]? = some (l, o1)) (hd : OOk K G h o2) : Go H G μ (upd H l h) G (μ.set n (l, o2)) ∧ MuOk K (upd H l h) G (μ.set n (l, o2)) := by
  obtain ⟨gl, ys, hy, _⟩ := m.on n l _ hl
  have hn : n < μ.length := (List.getElem?_eq_some_iff.mp hl).1
  have hmap : (μ.set n (l, o2)).map (·.1) = μ.map (·.1) := by
    rw [List.map_set]
    refine List.ext_getElem? fun i => ?_
    by_cases hi : n = i
    · subst hi
      rw [List.getElem?_set_self (by rw [List.length_map]; exact hn), List.getElem?_map, hl]
      rfl
    · rw [List.getElem?_set_ne hi]
  have hmem : l ∈ μ.map (·.1) := List.mem_map.mpr ⟨(l, o1), List.mem_of_getElem? hl, rfl⟩
  refine ⟨⟨fun b o e nm => ?_, fun _ _ e => e, fun b o e => ?_, fun _ _ e => .inl e, fun b h => .inl (by rw [hmap] at h; exact h), fun b e => ?_⟩, fun i b fs e => ?_, by rw [hmap]; exact m.nd⟩
  · rw [upd_ne (fun z => nm (by rw [z]; exact hmem))]; exact e
  · rw [upd_ne (ne_of_none e gl)]; exact gh _ _ e
  · by_cases hb : b = l
    · subst hb; rw [upd_same] at e; cases e
    · rw [upd_ne hb] at e; exact e
  · by_cases hi : n = i
    · subst hi
      rw [List.getElem?_set_self hn] at e
      cases e
      exact ⟨gl, _, upd_same, hd⟩
    · rw [List.getElem?_set_ne hi] at e
      obtain ⟨h1, zs, h2, h3⟩ := m.on i b fs e
      have hbl : b ≠ l := fun z => by
        subst z
        have q1 : (μ.map (·.1))[n]? = some b := by rw [List.getElem?_map, hl]; rfl
        have q2 : (μ.map (·.1))[i]? = some b := by rw [List.getElem?_map, e]; rfl
        exact hi ((List.getElem?_inj (by rw [List.length_map]; exact hn) m.nd).mp (q1.trans q2.symm))
      exact ⟨h1, zs, by rw [upd_ne hbl]; exact h2, h3⟩
/-- d[k] = v -/
theorem js_putD (C : Fx md X N sc k) {l : Addr} {n : Nat} {p' : Pos} (hv : JE X ρ μ e (.dat d) μ1) (ha : JE X ρ μ1 a (.loc l) μ2) (hb : JE X ρ μ2 b (wi i) μ3) (hl : μ3[n]? = some (l, .d kvs)) (hz : kvs.length < 100000) (f : Φ (.nx ρ (μ3.set n (l, .d (putD kvs i d)))))
    (hs : swapsWith e (some (.Subscript a b p')) pos.line X.env = pure false := by rfl) : JS X ρ μ (.Assign [.Subscript a b p'] e pos) Φ :=
  fun Wx tk => PS.imp (ps_dput (hu1 C) ha hb hv hs) fun D σ H ⟨G, S, Wn⟩ => ⟨G, S, fun v H1 G1 g1 m1 wv => ⟨G1, S.go g1 m1, fun x H2 G2 g2 m2 wx => ⟨G2, (S.go g1 m1).go g2 m2, fun y H3 G3 g3 m3 wy => by
    cases (show x = .ref l from wx)
    obtain ⟨_, _, hx, vs, rfl, hd⟩ := m3.on n l _ hl
    have hv' : Dp X.K G3 v d := dp_same (g2.gx.trans g3.gx) _ _ wv
    obtain ⟨g4, m4⟩ := mu_putO (o2 := .d (putD kvs i d)) g3.gs m3 hl ⟨_, rfl, kvD_put (k := i) hd hv'⟩
    have gg := (g1.trans g2).trans g3
    refine ⟨l, _, rfl, ?_, Wn.nx _ _ σ _ G3 f (gg.trans g4) (S.go (gg.trans g4) m4)⟩
    rw [wv_int wy]
    exact DPut.k (k := Sum.inl i) hx (by rw [kvD_len hd]; exact sz3l hz)⟩⟩⟩
theorem jss_putD (C : Fx md X N sc k) {l : Addr} {n : Nat} {p' : Pos} (hv : JE X ρ μ e (.dat d) μ1) (ha : JE X ρ μ1 a (.loc l) μ2) (hb : JE X ρ μ2 b (wi i) μ3) (hl : μ3[n]? = some (l, .d kvs)) (hz : kvs.length < 100000) (f : JSs X ρ (μ3.set n (l, .d (putD kvs i d))) rest Φ)
    (hs : swapsWith e (some (.Subscript a b p')) pos.line X.env = pure false := by rfl) : JSs X ρ μ (.Assign [.Subscript a b p'] e pos :: rest) Φ := jss_cons (js_putD C hv ha hb hl hz f hs)
end
end RB
namespace RB
open PySem PySem.Spec PyProof.Rows L2
/-! ### range(a, b) while an exception is handled -/
theorem pi_range2H {X : Cx} {tg a b : Expr} {ta : TA} {p pos : Pos} (hg : Gl X "range") (hm : X.mg "range" = none) (ha : PA X [a, b] ta) (hs : starEach [a, b] X.env = [(false, eval a X.env), (false, eval b X.env)] := by rfl) (hs2 : starEach [b] X.env = [(false, eval b X.env)] := by rfl) : L2H.PIH X tg (.Call (.Name "range" p) [a, b] [] pos) (iRng2 ta) := by
  refine ⟨fun pins s σ H R I h => Call_ (ld_blt I hg hm boot_range (PyProof.Rows.callWith_type1 (thn (ha.run pos pins s σ H _ I h) fun us s1 ⟨vs, H1, I1, r1, q1⟩ => ?_) (by rw [hs, hs2]) (by rw [hs2]; rfl)))⟩
  obtain ⟨i, j, e, ⟨q1, q2, q3, q4⟩, q⟩ := q1; subst e
  cases r1 with
  | cons r rr =>
    cases rr with
    | cons r' rr =>
      cases rr; obtain ⟨t, rfl⟩ := r; obtain ⟨t', rfl⟩ := r'; exact call_range_2 (L2H.range_itH I1 q1 q2 q3 q4 q)
section
variable {md : Md} {X : Cx} {N : List Str} {sc : Scope} {k : Nat} {ρ ρ1 : Rho} {μ μ1 μ2 μ3 μ' : Mu} {w : W} {a b c e elt : Expr} {es ifs : List Expr} {pos p p2 p3 ap cp : Pos} {d : PyData} {ds : List PyData} {i j : Int} {Φ : Out → Prop} {rest body : List Stmt} {scope : Scope}
theorem js_forR2M (C : Fb md X N sc k) (hmd : md ≠ .cold) (n : Nat) {x : Str} (hm : X.mg "range" = none) (ha : JE X ρ μ a (wi i) μ1) (hb : JE X ρ μ1 b (wi j) μ2) (b0 : -(2 ^ 62) ≤ i) (b1 : i < 2 ^ 62) (b2 : -(2 ^ 62) ≤ j) (b3 : j < 2 ^ 62) (Inv : Nat → Rho → Mu → Prop) (hi : Inv 0 ρ μ2)
    (hs : ∀ m ρ' μ', m < (j - i).toNat → Inv m ρ' μ' → JSs X (ρ'.set n (some (wi (i + (m : Int))))) μ' body (LpR (Inv (m + 1)) Φ)) (hd : ∀ ρ' μ', Inv (j - i).toNat ρ' μ' → Φ (.nx ρ' μ'))
    (hN : N[n]? = some x := by rfl) (hv : Loc sc x := by first | exact Or.inl rfl | exact Or.inr rfl) (hg : sc.names.lookup ("range" : Str) = some .globalImplicit := by rfl) (hst : starEach [a, b] X.env = (false, eval a X.env) :: starEach [b] X.env := by rfl) (hst2 : starEach [b] X.env = (false, eval b X.env) :: starEach [] X.env := by rfl) :
    JS X ρ μ (.For (.Name x p) (.Call (.Name "range" p3) [a, b] [] p2) body [] pos) Φ := by
  have hl : Loc X.env.scope x := by rw [C.s]; exact hv
  intro Wx tk
  have bd : PSs X body (fun D σ H => ∃ m ρ' μ', m < (j - i).toNat ∧ Inv m ρ' μ' ∧ rdS X.K Wx (ρ'.set n (some (wi (i + (m : Int))))) μ' (LpR (Inv (m + 1)) Φ) D σ H) := ⟨fun pins s σ H D I ⟨m, ρ', μ', l, v, q⟩ => (hs m ρ' μ' l v Wx tk).run pins s σ H D I q⟩
  have e1 : starEach [a, b] X.env = [(false, eval a X.env), (false, eval b X.env)] := by rw [hst, hst2]; rfl
  have e2 : starEach [b] X.env = [(false, eval b X.env)] := by rw [hst2]; rfl
  have go : ∀ D σ H, rdS X.K Wx ρ μ Φ D σ H → tFor (iRng2 (rdA X.K ρ μ [wi i, wi j] μ2)) (gName n) (fun D σ H => ∃ m ρ' μ', m < (j - i).toNat ∧ Inv m ρ' μ' ∧ rdS X.K Wx (ρ'.set n (some (wi (i + (m : Int))))) μ' (LpR (Inv (m + 1)) Φ) D σ H) D σ H := fun D σ H ⟨G, S, Wn⟩ => ⟨G, S, fun vs H1 G1 g1 m1 wvs => by
    cases wvs with
    | cons hx ht =>
      cases ht with
      | cons hy ht =>
        cases ht
        refine ⟨i, j, by rw [wv_int hx, wv_int hy], ⟨b0, b1, b2, b3⟩, for_range (lo := i) (n := (j - i).toNat) (g := gName n) (tb := fun D σ H => ∃ m ρ' μ', m < (j - i).toNat ∧ Inv m ρ' μ' ∧ rdS X.K Wx (ρ'.set n (some (wi (i + (m : Int))))) μ' (LpR (Inv (m + 1)) Φ) D σ H) (fun m σ H => ∃ ρ' μ' G', Inv m ρ' μ' ∧ StOk X.K σ H G' ρ' μ' ∧ Wants X.K H G' μ' Φ D Wx) ⟨ρ, μ2, G1, hi, S.go g1 m1, Wn.go g1⟩ ?_ fun σ' H' ⟨ρ', μ', G', v, s, wn'⟩ => wn'.nx _ _ _ _ _ (hd ρ' μ' v) (Go.refl s.gh) s⟩
        rintro m σ' H' l ⟨ρ', μ', G', v, s, wn'⟩
        exact ⟨m, ρ', μ', l, v, G', s.set n (show WV X.K G' (.int (i + (m : Int))) (wi (i + (m : Int))) from Dp.int _), wants_lp wn' fun r u σ2 H2 G2 φ g s2 => ⟨r, u, G2, φ, s2, wn'.go g⟩⟩⟩
  have pg := pg_name (X := X) (i := n) (pos := p) (x := x) (by rw [C.n]; exact C.nd) (by rw [C.n]; exact hN) hl (.inl (C.fn x))
  have ja : JA X ρ μ [a, b] [wi i, wi j] μ2 := ja_cons ha (ja_cons hb ja_nil hst2) hst
  cases md with
  | calm => exact PS.imp (ps_for C.po C.toFx.calm (pi_range2 (C.gl hg) hm ja e1 e2) pg bd) go
  | hot => exact PS.imp (L2H.ps_forH C.po C.hotC (pi_range2H (C.gl hg) hm ja e1 e2) pg bd) go
  | cold => exact absurd rfl hmd
theorem jss_forR2M (C : Fb md X N sc k) (hmd : md ≠ .cold) (n : Nat) {x : Str} (hm : X.mg "range" = none) (ha : JE X ρ μ a (wi i) μ1) (hb : JE X ρ μ1 b (wi j) μ2) (b0 : -(2 ^ 62) ≤ i) (b1 : i < 2 ^ 62) (b2 : -(2 ^ 62) ≤ j) (b3 : j < 2 ^ 62) (Inv : Nat → Rho → Mu → Prop) (hi : Inv 0 ρ μ2)
    (hs : ∀ m ρ' μ', m < (j - i).toNat → Inv m ρ' μ' → JSs X (ρ'.set n (some (wi (i + (m : Int))))) μ' body (LpR (Inv (m + 1)) (Kn X rest Φ))) (hd : ∀ ρ' μ', Inv (j - i).toNat ρ' μ' → JSs X ρ' μ' rest Φ)
    (hN : N[n]? = some x := by rfl) (hv : Loc sc x := by first | exact Or.inl rfl | exact Or.inr rfl) (hg : sc.names.lookup ("range" : Str) = some .globalImplicit := by rfl) (hst : starEach [a, b] X.env = (false, eval a X.env) :: starEach [b] X.env := by rfl) (hst2 : starEach [b] X.env = (false, eval b X.env) :: starEach [] X.env := by rfl) :
    JSs X ρ μ (.For (.Name x p) (.Call (.Name "range" p3) [a, b] [] p2) body [] pos :: rest) Φ := jss_cons (js_forR2M C hmd n hm ha hb b0 b1 b2 b3 Inv hi hs hd hN hv hg hst hst2)
abbrev tR2 (X : Cx) (ρ : Rho) (μ1 : Mu) (q : Nat) (lo : Int) (f : Nat → Bool) (n : Nat) : TT := fun σ H Q => ∃ m, m < n ∧ rdT X.K ((ρ.set q none).set q (some (wi (lo + (m : Int))))) μ1 (f m) μ1 σ H Q
abbrev eR2 (X : Cx) (ρ : Rho) (μ1 : Mu) (q : Nat) (lo : Int) (f : Nat → Bool) (v : Nat → PyData) (n : Nat) : TE := fun σ H Q => ∃ m, m < n ∧ f m = true ∧ rdE X.K ((ρ.set q none).set q (some (wi (lo + (m : Int))))) μ1 (.dat (v m)) μ1 σ H Q
/-- [elt for x in range(a, b) if ..] -/
theorem jl_compR2 (C : Fx .calm X N sc k) (q : Nat) {x : Str} (f : Nat → Bool) (v : Nat → PyData) (hm : X.mg "range" = none) (ha : JE X ρ μ a (wi i) μ1) (hb : JE X ρ μ1 b (wi j) μ2) (b0 : -100000 ≤ i) (b1 : i ≤ 100000) (b2 : -100000 ≤ j) (b3 : j ≤ 100000) (b4 : (j - i).toNat ≤ 100000)
    (hbk : blkC N sc scope [(x, q)] = true) (hN : N[q]? = some x) (hx : (relab scope sc).names.lookup x = some .local)
    (ht : ∀ (Y : Cx) (n : Nat), Fx .calm Y N (relab scope sc) k → SameEnv X Y → n < (j - i).toNat → JTs Y ((ρ.set q none).set q (some (wi (i + (n : Int))))) μ2 ifs (f n) μ2)
    (he : ∀ (Y : Cx) (n : Nat), Fx .calm Y N (relab scope sc) k → SameEnv X Y → n < (j - i).toNat → f n = true → JE Y ((ρ.set q none).set q (some (wi (i + (n : Int))))) μ2 elt (.dat (v n)) μ2)
    (hg : sc.names.lookup ("range" : Str) = some .globalImplicit := by rfl) (hst : starEach [a, b] X.env = (false, eval a X.env) :: starEach [b] X.env := by rfl) (hst2 : starEach [b] X.env = (false, eval b X.env) :: starEach [] X.env := by rfl) :
    JL X ρ μ (.ListComp elt [⟨.Name x p, .Call (.Name "range" p3) [a, b] [] p2, ifs, 0⟩] scope pos) (gv f v (j - i).toNat) μ2 := by
  have e1 : starEach [a, b] X.env = [(false, eval a X.env), (false, eval b X.env)] := by rw [hst, hst2]; rfl
  have e2 : starEach [b] X.env = [(false, eval b X.env)] := by rw [hst2]; rfl
  refine PE.imp (pe_lc (own := [(x, q)]) (g := gName q) (tt := tR2 X ρ μ2 q i f (j - i).toNat) (te := eR2 X ρ μ2 q i f v (j - i).toNat)
    C.calm (by rw [C.n]; exact C.nd) (pi_range2 (C.gl hg) hm (ja_cons ha (ja_cons hb ja_nil hst2) hst) e1 e2) (by rw [C.n, C.s]; exact blkOk_by hbk)
    (fun s H Cc cl fp => pg_name (i := q) (by rw [(blk_fx C s H Cc cl fp).1.n]; exact C.nd) (by rw [(blk_fx C s H Cc cl fp).1.n]; exact hN) (by rw [(blk_fx C s H Cc cl fp).1.s]; exact .inl hx) (.inr (by rw [(blk_fx C s H Cc cl fp).1.s]; exact hx)))
    (fun s H Cc cl fp => ⟨fun pins s' σ H' Q I ⟨n, hn, q⟩ => (ht _ n (blk_fx C s H Cc cl fp).1 (blk_fx C s H Cc cl fp).2 hn).run pins s' σ H' Q I q⟩)
    (fun s H Cc cl fp => ⟨fun pins s' σ H' Q I ⟨n, hn, hf, q⟩ => (he _ n (blk_fx C s H Cc cl fp).1 (blk_fx C s H Cc cl fp).2 hn hf).run pins s' σ H' Q I q⟩)) fun σ H Q ⟨G, S, qq⟩ => ⟨G, S, fun vs H1 G1 g1 m1 wvs => ?_⟩
  cases wvs with
  | cons hx' htl =>
    cases htl with
    | cons hy' htl =>
      cases htl
      have S1 := S.go g1 m1
      refine ⟨i, j, by rw [wv_int hx', wv_int hy'], ⟨by omega, by omega, by omega, by omega⟩, fun D hD => lc_range (lo := i) (n := (j - i).toNat) (g := gName q) (vs := [q]) (σ := σ) (Qd := fun H => Q (V.ref D) H) (tt := tR2 X ρ μ2 q i f (j - i).toNat) (te := eR2 X ρ μ2 q i f v (j - i).toNat) (fun n H => Blk X.K σ ρ μ2 q (gv f v n) D H1 G1 H) (blk_start S1 hD) (fun n H' hn B => ?_) fun H' B => ?_⟩
      · exact ⟨wipe1 _, blk_turn (tt := tR2 X ρ μ2 q i f (j - i).toNat) (te := eR2 X ρ μ2 q i f v (j - i).toNat) B (by omega) (Dp.int _) (fun σ H Q q => ⟨n, hn, q⟩) (fun hf σ H Q q => ⟨n, hn, hf, q⟩)⟩
      · obtain ⟨G, xs, S2, g, h0', hG, hD', hx2, hd⟩ := B.ex
        exact qq D xs H' G (g1.trans g) S2.mu (g1.al D h0') hG hD' hx2 hd
/-- x.bit_length() -/
theorem je_bits (ha : JE X ρ μ a (wi i) μ1) (hbase : attributeBase a "bit_length" X.env (eval a X.env) = eval a X.env := by rfl) (hline : (ap.endLine == cp.line) = true := by rfl) : JE X ρ μ (.Call (.Attribute a "bit_length" ap) [] [] cp) (wi (Builtin.Int.intBits i : Nat)) μ1 :=
  PE.imp (pe_bits ha hbase hline) fun σ H Q ⟨G, S, q⟩ => ⟨G, S, fun v H1 G1 g1 m1 wv => ⟨i, wv_int wv, q _ H1 G1 g1 m1 (Dp.int _)⟩⟩
/-- list(a list), a new one -/
theorem jl_listL (C : Fx md X N sc k) (hm : X.mg "list" = none) (ha : JE X ρ μ a (.dat (.list ds)) μ1) (hg : sc.names.lookup ("list" : Str) = some .globalImplicit := by rfl)
    (he : starEach [a] X.env = (false, eval a X.env) :: starEach [] X.env := by rfl) (hpl : (backTo pos (starEach [] X.env)).any (·.1) = false := by rfl) : JL X ρ μ (.Call (.Name "list" p) [a] [] pos) ds μ1 :=
  PE.imp (pe_callTy call_list_of (C.gl hg) hm boot_list (ja_cons ha ja_nil he) (he := he) (hpl := hpl)) fun σ H Q ⟨G, S, q⟩ => ⟨G, S, fun vs H1 G1 g1 m1 wvs => by
    cases wvs with
    | cons h t =>
      cases t
      obtain ⟨l, ys, rfl, hs, hd⟩ := wv_lst h
      refine ⟨l, ys, rfl, .inl (g1.gs.seq hs), fun t ht => ?_⟩
      obtain ⟨g2, m2, gt, tm⟩ := lay_l (o := .lst ys) g1.gs m1 ht
      exact q t ys _ G1 (g1.trans g2) m2 (g1.al _ ht) gt tm upd_same hd⟩
/-- max, min of two ints -/
theorem je_max2 (C : Fx .calm X N sc k) (hm : X.mg "max" = none) (ha : JE X ρ μ a (wi i) μ1) (hb : JE X ρ μ1 b (wi j) μ2) (hg : sc.names.lookup ("max" : Str) = some .globalImplicit := by rfl)
    (he : starEach [a, b] X.env = (false, eval a X.env) :: starEach [b] X.env := by rfl) (he2 : starEach [b] X.env = (false, eval b X.env) :: starEach [] X.env := by rfl) (hpl : (backTo pos (starEach [b] X.env)).any (·.1) = false := by rfl) : JE X ρ μ (.Call (.Name "max" p) [a, b] [] pos) (wi (max i j)) μ2 :=
  je_cb C (call_max2 C.calm) hm (ja_cons ha (ja_cons hb ja_nil he2) he) PyProof.Rows.boot_max (fun G H xs Q gs m ws q => by
    cases ws with
    | cons h t =>
      cases t with
      | cons h2 t =>
        cases t
        refine ⟨i, j, by rw [wv_int h, wv_int h2], ?_⟩
        have e : (if j > i then j else i) = max i j := by split <;> omega
        rw [e]
        exact q _ (Dp.int _)) hg (by decide) (by decide) he hpl
theorem je_min2 (C : Fx .calm X N sc k) (hm : X.mg "min" = none) (ha : JE X ρ μ a (wi i) μ1) (hb : JE X ρ μ1 b (wi j) μ2) (hg : sc.names.lookup ("min" : Str) = some .globalImplicit := by rfl)
    (he : starEach [a, b] X.env = (false, eval a X.env) :: starEach [b] X.env := by rfl) (he2 : starEach [b] X.env = (false, eval b X.env) :: starEach [] X.env := by rfl) (hpl : (backTo pos (starEach [b] X.env)).any (·.1) = false := by rfl) : JE X ρ μ (.Call (.Name "min" p) [a, b] [] pos) (wi (min i j)) μ2 :=
  je_cb C (call_min2 C.calm) hm (ja_cons ha (ja_cons hb ja_nil he2) he) PyProof.Rows.boot_min (fun G H xs Q gs m ws q => by
    cases ws with
    | cons h t =>
      cases t with
      | cons h2 t =>
        cases t
        refine ⟨i, j, by rw [wv_int h, wv_int h2], ?_⟩
        have e : (if j < i then j else i) = min i j := by split <;> omega
        rw [e]
        exact q _ (Dp.int _)) hg (by decide) (by decide) he hpl
theorem dpAll_set {K : PySem.W.Frag} {G : Hp} : ∀ {xs : List V} {ds : List PyData} (n : Nat) {v : V} {d : PyData}, DpAll K G xs ds → Dp K G v d → DpAll K G (xs.set n v) (ds.set n d)
  | _, _, _, _, _, .nil, _ => .nil
  | _, _, 0, _, _, .cons _ t, h => .cons h t
  | _, _, n + 1, _, _, .cons a t, h => .cons a (dpAll_set n t h)
/-- xs[i] = v, an owned list -/
theorem js_setI (C : Fx md X N sc k) {l : Addr} {n m : Nat} {p' : Pos} (hv : JE X ρ μ e (.dat d) μ1) (ha : JE X ρ μ1 a (.loc l) μ2) (hb : JE X ρ μ2 b (wi i) μ3) (hl : μ3[n]? = some (l, .l ds)) (hi : ixN ds.length i = some m) (f : Φ (.nx ρ (μ3.set n (l, .l (ds.set m d)))))
    (hsub : ∀ v, assign (.Subscript a b p') X.env v = (do let ov ← holding [v] (eval a X.env); let iv ← holding [v, ov] (eval b X.env); standAt p'; holding [v, ov, iv] (setItem ov iv v); release [v, ov, iv] []) := by intro _; rfl)
    (hs : swapsWithSole [Expr.Subscript a b p'] e pos.line X.env = pure false := by rfl) (hw : swappedStores [Expr.Subscript a b p'] e X.env = pure none := by rfl) (h1 : (assignEach [Expr.Subscript a b p'] X.env).map (·.2) = [assign (Expr.Subscript a b p') X.env] := by rfl) : JS X ρ μ (.Assign [.Subscript a b p'] e pos) Φ :=
  fun Wx tk => PS.imp (ps_asg hv (pg_sub ha hb set_list hsub) hs hw h1) fun D σ H ⟨G, S, Wn⟩ => ⟨G, S, fun v H1 G1 g1 m1 wv => ⟨G1, S.go g1 m1, fun x H2 G2 g2 m2 wx => ⟨G2, (S.go g1 m1).go g2 m2, fun y H3 G3 g3 m3 wy => by
    cases (show x = .ref l from wx)
    obtain ⟨_, _, hx, vs, rfl, hd⟩ := m3.on n l _ hl
    have hv' : Dp X.K G3 v d := dp_same (g2.gx.trans g3.gx) _ _ wv
    obtain ⟨g4, m4⟩ := mu_putO (o2 := .l (ds.set m d)) g3.gs m3 hl ⟨_, rfl, dpAll_set m hd hv'⟩
    have gg := (g1.trans g2).trans g3
    exact ⟨l, vs, i, m, rfl, wv_int wy, hx, by rw [dpAll_len hd]; exact hi, Wn.nx _ _ σ _ G3 f (gg.trans g4) (S.go (gg.trans g4) m4)⟩⟩⟩⟩
theorem jss_setI (C : Fx md X N sc k) {l : Addr} {n m : Nat} {p' : Pos} (hv : JE X ρ μ e (.dat d) μ1) (ha : JE X ρ μ1 a (.loc l) μ2) (hb : JE X ρ μ2 b (wi i) μ3) (hl : μ3[n]? = some (l, .l ds)) (hi : ixN ds.length i = some m) (f : JSs X ρ (μ3.set n (l, .l (ds.set m d))) rest Φ)
    (hsub : ∀ v, assign (.Subscript a b p') X.env v = (do let ov ← holding [v] (eval a X.env); let iv ← holding [v, ov] (eval b X.env); standAt p'; holding [v, ov, iv] (setItem ov iv v); release [v, ov, iv] []) := by intro _; rfl)
    (hs : swapsWithSole [Expr.Subscript a b p'] e pos.line X.env = pure false := by rfl) (hw : swappedStores [Expr.Subscript a b p'] e X.env = pure none := by rfl) (h1 : (assignEach [Expr.Subscript a b p'] X.env).map (·.2) = [assign (Expr.Subscript a b p') X.env] := by rfl) : JSs X ρ μ (.Assign [.Subscript a b p'] e pos :: rest) Φ := jss_cons (js_setI C hv ha hb hl hi f hsub hs hw h1)
end
end RB
namespace RB
open PySem PySem.Spec PyProof.Rows L2
section
variable {X : Cx} {ρ : Rho} {μ μ1 : Mu} {e : Expr} {pos p p2 p3 : Pos} {i : Int}
/-- f'..{an int}..' -/
def fmt3 (x : Str) (i : Int) (y : Str) : Str := fmt2 x i ++ y
theorem je_f3 {x y : Str} {n n2 : Nat} (hx : JE X ρ μ e (wi i) μ1) (h1 : x.length ≤ 1000) (h3 : y.length ≤ 1000) (h2 : i.natAbs.log2 < 1920) : JE X ρ μ (.JoinedStr [.Constant (.str x) n p, .FormattedValue e (-1) none p2, .Constant (.str y) n2 p3] pos) (.dat (.str (fmt3 x i y))) μ1 :=
  PE.imp (pe_joined (.cons pe_str (.cons (pe_fmt hx) (.cons pe_str .nil)))) fun σ H Q ⟨G, S, q⟩ => by
    have e1 : (Str.empty ++ x).length ≤ 1000 := by
      rw [Str.length_append, show Str.empty.length = 0 from rfl]
      omega
    have e2 := int_text_length_le (k := 1920) (a := i) (by decide) h2
    have e3 : (fmt2 x i).length ≤ 3000 := by
      unfold fmt2
      rw [Str.length_append, PySem.ofString_length]
      omega
    refine ⟨_, rfl, Nat.le_trans e1 (by rw [sizeLine_eq]; decide), G, S, fun v H1 G1 g1 m1 wv => .inr ⟨i, wv_int wv, h2, _, rfl, Nat.le_trans e3 (by rw [sizeLine_eq]; decide), _, rfl, ?_, q _ H1 G1 g1 m1 (Dp.str _)⟩⟩
    show (fmt2 x i ++ y).length ≤ sizeLine
    rw [Str.length_append, sizeLine_eq]
    omega
end
end RB
namespace RB
open PySem PySem.Spec PyProof.Rows L2
/-! ### several clauses with a name, an exception handled already -/
def wAsM (K : PySem.W.Frag) (i : Nat) (Wout : WX) (D : Ends) : List (Value × (Addr → Value → Option Addr → TS)) → WX
  | [] => Wout
  | q :: r => wAs K q.1 i q.2 (wAsM K i Wout D r) D
inductive HdsAs (X : Cx) (n : Str) : List ExceptHandler → List (Value × (Addr → Value → Option Addr → TS)) → Prop
  | nil : HdsAs X n [] []
  | cons {x : Str} {c : Value} {ts : Addr → Value → Option Addr → TS} {b₀ : Stmt} {suite : List Stmt} {np pos' : Pos} {hds : List ExceptHandler} {l : List (Value × (Addr → Value → Option Addr → TS))} (hc : Names X x c)
      (hsu : ∀ (a : Addr) (oe : Obj) (cls : Value) (d : Option Addr) (pn : List (Addr × Obj)), Zc cls d oe → (∃ vs, oe.data = .fields vs) → PSs (X.suite a ((a, oe) :: pn)) (b₀ :: suite) (ts a cls d)) (r : HdsAs X n hds l) : HdsAs X n (.ExceptHandler (some (.Name x np)) (some n) (b₀ :: suite) pos' :: hds) ((c, ts) :: l)
section
variable {X : Cx} {n : Str} {i : Nat} {body : List Stmt} {h₀ : ExceptHandler} {hds : List ExceptHandler} {l : List (Value × (Addr → Value → Option Addr → TS))} {pos : Pos} {tb : WX → TS} {Wout : WX}
theorem ps_try_asM (hs : X.stack = X.env :: X.outer) (hf : X.env.frame = some X.env.locals) (hN : X.N.Nodup) (hi : X.N[i]? = some n) (hln : X.env.kindOf n = some .local) (tk : L2.Takes X Wout)
    (hb : ∀ (W : WX) (pn : List (Addr × Obj)) (xe : Value → Shared → Prop), (∀ q ∈ X.pn, q ∈ pn) → L2.Takes (X.tr pn xe) W → PassesOwn (model X.prog X.w) X.A X.env xe → PSs (X.tr pn xe) body (tb W)) (hh : HdsAs X n (h₀ :: hds) l) :
    PS X (.Try body (h₀ :: hds) [] [] pos) (fun D σ H => tb (wAsM X.K i Wout D l) D σ H) := by
  refine ⟨fun pins s σ H D I h => ?_⟩
  have ok := I.ok; have hfr : X.A.frames = some (X.env :: X.outer) := by rw [ok.frames, hs]
  have hloc : Loc X.env.scope n := .inl hln; refine wpAny_Try_except ?_
  refine wpAny_mono ((hb (wAsM X.K i Wout D l) (X.pn ++ pins) (fun e s₁ => wpAny (model X.prog X.w) X.A (noteFrame e X.env) (fun _ s₂ => wpAny (model X.prog X.w) X.A (setFlight e none) (fun _ s₃ => wpAny (model X.prog X.w) X.A (handleBy e X.env (h₀ :: hds)) (SP X pins D) X.xe s₃) X.xe s₂) X.xe s₁) (fun q hq => List.mem_append_left _ hq) (fun u s' xx => ?_) PassesOwn.looking).run [] s σ H D (I.toTry _) h) (fun f s1 hsp => ?_) (fun e s1 he => he)
  · obtain ⟨a, B, sI, pins', σ', H', cls, d, rfl, J', nb, up, sky, na, os, ag, w⟩ := xx; have J : Inv X pins σ' H' sI := J'.ofTry ok
    have sky' : Sky B (X.env :: X.outer) a (Zc cls d) X.env.locals s'.heap := by rw [← hs]; exact sky
    show wpAny (model X.prog X.w) X.A (noteFrame (.ref a) X.env) _ _ _; refine Sky.land Zc.steady hfr hf sky' fun h3 fl3 up3 => ?_
    have J3 : Inv X pins σ' H' { s' with heap := h3 } := J.landed nb fl3.1 (up.trans up3) os ag; obtain ⟨oe3, vs3, he3, hz3, hd3⟩ := fl3.there
    have notFr : ∀ {h : Heap} {o : Obj} {vs : Array Value}, h.FunFrames B (X.env :: X.outer) → h.get? a = some o → o.data = .fields vs → a ∉ frs (X.env :: X.outer) := fun {h o vs} ff e dd hm => by obtain ⟨_, o', e', hnf⟩ := ff.mem hm; rw [e] at e'; cases e'; exact hnf _ dd
    have nfr := notFr fl3.2.2.1 he3 hd3; have nL : a ≠ X.env.locals := fun z => nfr (List.mem_filterMap.mpr ⟨X.env, List.mem_cons_self, by rw [hf, z]⟩)
    have nF : a ∉ X.fs := fun hm => by obtain ⟨e, he, q⟩ := List.mem_filterMap.mp hm; exact nfr (List.mem_filterMap.mpr ⟨e, List.mem_cons_of_mem _ he, q⟩)
    have S3 := J3.suite he3 hd3 na nL nF
    have go : ∀ {hds' : List ExceptHandler} {l' : List (Value × (Addr → Value → Option Addr → TS))}, HdsAs X n hds' l' → wAsM X.K i Wout D l' cls d σ' H' → wpAny (model X.prog X.w) X.A (handleBy (.ref a) X.env hds') (SP X pins D) X.xe { s' with heap := h3 } := by
      intro hds' l' hk; induction hk with
      | nil =>
        intro w; refine wpAny_handleBy_nil ?_; obtain ⟨k1, k2, k3, oe, vs, T, oT, ts', he, hz, hd, h1, hr⟩ := id fl3
        unfold PySem.passOn; refine wpAny_bind (wpAny_field he hd h1 ?_); rw [if_neg (show ¬ ((Value.ref T == Value.none) = true) from by simp)]
        have fin : wpAny (model X.prog X.w) X.A (setFlight (.ref a) X.env.frame) (fun _ s4 => wpAny (model X.prog X.w) X.A (throw (.ref a) : Sem Flow) (SP X pins D) X.xe s4) X.xe { s' with heap := h3 } := by rw [hf]; exact HandSPX.setFlight_upZ fl3 fun h4 hh4 up4 => wpAny_throw (tk _ _ ⟨a, B, sI, pins, σ', H', cls, d, rfl, J, nb, (up.trans up3).trans up4, .inr (.inr (by rw [hs]; exact hh4)), na, os, ag, w⟩)
        first | exact wpAny_bind (wpAny_pure (wpAny_bind fin)) | exact wpAny_bind fin
      | @cons x c ts b₀ suite np pos' hds2 l2 hc hsu r ih =>
        intro w; obtain ⟨b, hb1, hyes, hno⟩ := w; refine wpAny_handleBy_cons (codeAny_handlers_test ?_) (by intro q; cases q)
        have LT : PySem.W.Looks (model X.prog X.w) h3 (typeOf (.ref a)) cls := fun A Q E s k q => wpAny_typeOf_ref (k _ _ he3) (by rw [hz3.1]; exact q); have LM := PySem.W.exm_one (M := model X.prog X.w) (J3.kIn) LT hb1
        have test : ∀ {Q : Value → Shared → Prop} {E : Value → Shared → Prop}, Q c { s' with heap := h3 } → wpAny (model X.prog X.w) (X.A.mark (some (.ref a))) (eval (.Name x np) X.env) Q E { s' with heap := h3 } := fun {Q E} q => by
          obtain ⟨hg, hdbg, hm | ⟨hm, hv, hnn⟩⟩ := hc; exact ld_glob (X := X.suite a ((a, oe3) :: (X.pn ++ pins))) S3 hg hm q hdbg; exact ld_blt (X := X.suite a ((a, oe3) :: (X.pn ++ pins))) S3 hg hm hv q hnn hdbg
        refine test (LM.here ?_); cases b with
        | true =>
          refine codeAny_handlers_suite_as ?_; refine HandSPX.lands_againZ fl3 fun h4 fl4 up4 => ?_; have J4 : Inv X pins σ' H' { s' with heap := h4 } := J.landed nb fl4.1 ((up.trans up3).trans up4) os ag
          obtain ⟨oe4, vs4, he4, hz4, hd4⟩ := fl4.there; have S4 := J4.suite he4 hd4 na nL nF
          refine store_ok (X := X.suite a ((a, oe4) :: (X.pn ++ pins))) (v := .ref a) S4 hN hi hloc rfl (fun s5 S5 => ?_) (.inr hln); refine wpAny_mono ((hsu a oe4 cls d (X.pn ++ pins) hz4 ⟨_, hd4⟩).run [] s5 _ H' _ S5 (hyes rfl a na)) (fun f s6 hsp => ?_) (fun _ _ z => False.elim z)
          have end_ : ∀ {σ6 : L2.St} {H6 : Hp} {Q : Shared → Prop}, Inv (X.suite a ((a, oe4) :: (X.pn ++ pins))) [] σ6 H6 s6 → (∀ s7, Inv X pins (σ6.set i none) H6 s7 → Q s7) → wpAny (model X.prog X.w) X.A (do bindName X.env n .none; unbindBehindTheSuite X.env n pos') (fun _ s7 => Q s7) X.xe s6 := fun {σ6 H6 Q} S6 hq => gone_ok (S6.unsuite ok) hN hi hln hq
          cases f with
          | next => obtain ⟨σ6, H6, S6, q6⟩ := hsp; exact end_ S6 fun s7 J7 => ⟨_, _, J7, q6⟩
          | brk => obtain ⟨σ6, H6, S6, q6⟩ := hsp; exact end_ S6 fun s7 J7 => ⟨_, _, J7, q6⟩
          | cont => obtain ⟨σ6, H6, S6, q6⟩ := hsp; exact end_ S6 fun s7 J7 => ⟨_, _, J7, q6⟩
          | ret u => obtain ⟨v6, σ6, H6, S6, r6, q6⟩ := hsp; exact end_ S6 fun s7 J7 => ⟨_, _, _, J7, r6, q6⟩
        | false => show wpAny _ X.A (handleBy (.ref a) X.env hds2) _ _ _; exact ih (hno rfl)
    exact go hh w
  · cases f with
    | next => obtain ⟨σ', H', J', q⟩ := hsp; exact wpAny_execs_nil ⟨σ', H', J'.ofTry ok, q⟩
    | brk => obtain ⟨σ', H', J', q⟩ := hsp; exact ⟨σ', H', J'.ofTry ok, q⟩
    | cont => obtain ⟨σ', H', J', q⟩ := hsp; exact ⟨σ', H', J'.ofTry ok, q⟩
    | ret u => obtain ⟨v, σ', H', J', r, q⟩ := hsp; exact ⟨v, σ', H', J'.ofTry ok, r, q⟩
end
/-! ### defs called within such a suite: nothing is raised there -/
/-- the exception that the suite holds, of the class cls, at ad -/
def HeldP (ad : Addr) (cls : Value) (p : Addr × Obj) : Prop := p.1 = ad ∧ Zc cls none p.2 ∧ ∃ vs, p.2.data = .fields vs
structure FnC (Pp : Addr × Obj → Prop) (P : Program) (w : World) (K : PySem.W.Frag) (mg : Str → Option Value) (base : Heap) (CX : CXT) (k : Nat) (f : Addr) (fd : FuncData) (ps : List Str) (sp : Sp) : Prop where
  len : ∀ vs H Q E, sp vs H Q E → vs.length = ps.length
  run : ∀ (A : Around) (outer : List Env) (s : Shared) (H : Hp) (args : Args) (us : List Value) (vs : List V) (Q : VK) (E : XK) (p : Addr × Obj), L2H.RoomH k A → Pp p → L2H.PinOk outer H s p → Env0 P w K mg base A outer s H → BindsTo s fd args (ps.zip us) → Vals vs us → sp vs H Q E → codeAny (model P w) A (.call (.ref f) args) (L2.CR CX outer P w H s Q E) s
theorem fn_ofC {Pp : Addr × Obj → Prop} {CX : CXT} {P : Program} {w : World} {K : PySem.W.Frag} {mg : Str → Option Value} {base : Heap} {k : Nat} {f : Addr} {name qual : Str} {params : Arguments} {body : List Stmt} {scope : Scope} {dV kV doc pm cdv ct oc : Value} {an od : Option Addr} {osl : Array (Option Value)} {N ps : List Str} {sp : Sp}
    (lk : K.lookup f = some ⟨oc, od, .func (PySem.W.fnOf name qual params body scope dV kV doc pm an cdv ct), osl⟩) (hcd : PySem.W.codeIn K cdv qual = true) (S : FnScope N ps scope) (len : ∀ vs H Q E, sp vs H Q E → vs.length = ps.length)
    (hbody : ∀ (A : Around) (outer : List Env) (s : Shared) (H : Hp) (vs : List V) (Q : VK) (E : XK) (p : Addr × Obj), Pp p → L2H.RoomH k (A.deeper (envOfC qual scope s.heap.objs.size f cdv)) → sp vs H Q E → ∃ t, PSs (L2H.cxH CX P w K mg base N qual scope f cdv A outer s H E p) body t ∧ t { nx := fun _ H' => Q .non H', rt := Q } (L2.start N vs) H) :
    FnC Pp P w K mg base CX (k + 1) f (PySem.W.fnOf name qual params body scope dV kV doc pm an cdv ct) ps sp := by
  refine ⟨len, fun A outer s H args us vs Q E p hr hot hpin e0 hb r hsp => ?_⟩
  have hl := len _ _ _ _ hsp; have KX : K.In s.heap := e0.mod.kin.keeps fun b o e => (e0.bs b o e).1; have lim : s.heap.NoLimit := e0.mod.nolimit.keeps fun b o e => (e0.bs b o e).1
  have hkind : ∀ y ∈ ps.zip us, scope.names.lookup y.1 = some .local ∨ (scope.names.lookup y.1 = some .cell ∧ ((cellsFrom (s.heap.objs.size + 1) scope.names []).lookup y.1).isSome = true) := fun ⟨n, v⟩ hy => (S.par n (List.of_mem_zip hy).1).elim .inl fun q => .inr ⟨q, PySem.W.cellsFrom_some _ _ _ (.inl q)⟩
  refine codeAny_call_function hr.depth (KX _ _ lk) rfl S.co S.gen rfl (PySem.W.codeRec_of KX hcd) (hb _ _ _ _ (wpAny_newFunctionEnv_cells S.kind hkind fun env he s1 x => ?_))
  subst he; refine ⟨lim.keeps x.toInCall.keep, codeAny_func ?_⟩; obtain ⟨t, ht, hq⟩ := hbody A outer s H vs Q E p hot (hr.deeper _) hsp
  have I : Inv (L2H.cxH CX P w K mg base N qual scope f cdv A outer s H E p) [] (L2.start N vs) H s1 := L2H.inv_startH S hpin e0 hl r x; refine wpAny_mono (ht.run [] s1 (L2.start N vs) H _ I hq) (fun fl s' hs => ?_) fun e s' hs => hs
  have fin : ∀ {σ' : L2.St} {H' : Hp} {v : V} {u : Value}, Inv (L2H.cxH CX P w K mg base N qual scope f cdv A outer s H E p) [] σ' H' s' → RelV v u → Q v H' → L2.CE outer P w H s Q u s' := fun {σ' H' v u} J rv q => ⟨v, H', J.os, J.bare, J.base, J.hok, rv, q⟩
  cases fl with
  | ret u => obtain ⟨v, σ', H', J, rv, q⟩ := hs; exact fin J rv q
  | next => obtain ⟨σ', H', J, q⟩ := hs; exact fin (v := V.non) (u := Value.none) J rfl q
  | brk => obtain ⟨_, _, _, q⟩ := hs; exact False.elim q
  | cont => obtain ⟨_, _, _, q⟩ := hs; exact False.elim q
section
variable {Pp : Addr × Obj → Prop} {X : Cx} {CX : CXT} {k : Nat} {f : Addr} {fd : FuncData} {ps : List Str} {sp : Sp} {E : L2.St → XK} {x : Str} {q pos : Pos} {e : Expr} {es : List Expr} {t : TA}
theorem pe_callC (F : FnC Pp X.prog X.w X.K X.mg X.base CX k f fd ps sp) (hr : L2H.RoomH k X.A) (hp : ∃ p, Pp p ∧ p ∈ X.pn) (hg : Gl X x) (hm : X.mg x = some (.ref f)) (hk : PySem.W.keepIn X.K (.ref f) = true) (hb : Binds X.K fd ps []) (hx : ∀ σ, PassesAt CX X σ (E σ))
    (ha : PA X (e :: es) t) (hdb : (x == ("__debug__" : Str)) = false) (he : starEach (e :: es) X.env = (false, eval e X.env) :: starEach es X.env) (hpl : (backTo pos (starEach es X.env)).any (·.1) = false) : PE X (.Call (.Name x q) (e :: es) [] pos) (tCallS sp E t) := by
  refine ⟨fun pins s σ H Q I h => wpAny_Call_Name_kw (ld_glob I hg hm ?_ hdb)⟩
  refine PySem.W.callWith_K (h₀ := X.base) I.ok.mod.kin hk (thn (ha.run pos pins s σ H _ I h) fun us s1 ⟨vs, H1, I1, r, h⟩ => ⟨I1.kIn, ?_⟩) he hpl
  obtain ⟨p, hot, hp⟩ := hp; have hl : us.length = ps.length := by rw [← r.length]; exact F.len _ _ _ _ h
  have b := hb s1 us I1.kIn (by rw [List.append_nil]; exact hl); rw [List.append_nil] at b; have P1 := I1.pin p (List.mem_append_left _ hp)
  have hpin : L2H.PinOk X.stack H1 s1 p := ⟨P1.1, P1.2.1, fun hm => (List.mem_cons.mp (I1.stkSub p.1 hm)).elim P1.2.2.1 P1.2.2.2.1, P1.2.2.2.2⟩
  refine wpAny_call (codeAny_mono (F.run X.A X.stack s1 H1 ⟨us, []⟩ us vs Q (E σ) p hr hot hpin I1.env0 b r h) fun r s' hq => ?_)
  cases r with
  | error e => exact hx σ pins H1 s1 e s' I1 hq
  | ok fl => cases fl with
    | ret u => exact I1.after hq
    | next => exact False.elim hq
    | brk => exact False.elim hq
    | cont => exact False.elim hq
/-- isinstance of the exception that is held, anywhere -/
theorem call_isH {Y : Cx} {a D : Addr} (C : ExcC Y.K D) (hp : ∃ p, HeldP a (.ref D) p ∧ p ∈ Y.pn) : CallR Y (.builtin "isinstance") (rIsE Y.K D a) := by
  intro pins s σ H xs us Q I r h
  obtain ⟨c, cv, b, rfl, hcv, e, q⟩ := h; obtain ⟨⟨a', oe⟩, ⟨rfl, hz, vs, hv⟩, hpn⟩ := hp
  cases r with
  | cons rx rr =>
    cases rr with
    | cons rt rr =>
      cases rr; cases rx; have ec := hcv _ rt; subst ec; obtain ⟨hget, _⟩ := I.pin (a', oe) (List.mem_append.mpr (.inl hpn))
      have J : PySem.W.InstAt s.heap a' oe D none := by
        obtain ⟨oc, od, oda, osl⟩ := oe; obtain ⟨h1, h2⟩ := hz; dsimp only at h1 h2 hv; subst h1 h2 hv; exact ⟨hget, rfl, rfl, trivial⟩
      exact PySem.W.kia_one (PySem.W.handS_kitx_exc C.hg C.hk C.hs C.hd C.ha C.hn C.ht C.hm) I.kIn J e (fun z => nomatch z) fun tk => ⟨.bl b, H, I.kept (t' := tk) fun _ _ z => z, rfl, q⟩
end
/-! ### over the layer -/
structure CalC (Pp : Addr × Obj → Prop) (P : Program) (w : World) (K : PySem.W.Frag) (mg : Str → Option Value) (base : Heap) (k : Nat) (x : Str) (R : List W → Mu → W → Mu → Prop) : Prop where
  ex : ∃ (f : Addr) (fd : FuncData) (ps : List Str), FnC Pp P w K mg base (L2.CX P w) k f fd ps (SpX K R noX) ∧ mg x = some (.ref f) ∧ PySem.W.keepIn K (.ref f) = true ∧ Binds K fd ps []
section
variable {Pp : Addr × Obj → Prop} {X : Cx} {N : List Str} {sc : Scope} {k : Nat} {ρ : Rho} {μ μ1 μ2 : Mu} {w : W} {e : Expr} {es : List Expr} {pos p : Pos}
theorem je_callC (C : Fx .cold X N sc k) {kk : Nat} {x : Str} {R : List W → Mu → W → Mu → Prop} {ws : List W} {P : Program} {wd : World} {K : PySem.W.Frag} {mg : Str → Option Value} {base : Heap} (F : CalC Pp P wd K mg base kk x R) (E : IsEnv X P wd K mg base) (hp : ∃ p, Pp p ∧ p ∈ X.pn) (ha : JA X ρ μ (e :: es) ws μ1) (hR : R ws μ1 w μ2) (hk : kk ≤ k := by omega) (hg : sc.names.lookup x = some .globalImplicit := by rfl)
    (hdb : (x == ("__debug__" : Str)) = false := by decide) (he : starEach (e :: es) X.env = (false, eval e X.env) :: starEach es X.env := by rfl) (hpl : (backTo pos (starEach es X.env)).any (·.1) = false := by rfl) : JE X ρ μ (.Call (.Name x p) (e :: es) [] pos) w μ2 := by
  have e1 := E.p; have e2 := E.w; have e3 := E.K; have e4 := E.m; have e5 := E.b
  subst e1 e2 e3 e4 e5
  obtain ⟨f, fd, ps, F, hm, kp, b⟩ := F.ex
  exact PE.imp (pe_callC F (C.room.mono hk) hp (C.gl hg) hm kp b (fun σ => pass00 σ) ha hdb he hpl) fun σ H Q ⟨G, S, q⟩ => ⟨G, S, fun vs H1 G1 g1 m1 wvs => .inl ⟨G1, μ1, ws, w, μ2, g1.gs, m1, wvs, hR, fun v H2 G2 g2 m2 wv => q v H2 G2 (g1.trans g2) m2 wv⟩⟩
theorem cal_atC {P : Program} {wd : World} {K : PySem.W.Frag} {mg : Str → Option Value} {base : Heap} {x : Str} {st : Stmt} {N ps : List Str} {k : Nat} {R : List W → Mu → W → Mu → Prop} (A : DefAt K mg x st ps) (S : FnScope N ps (defScope st)) (hl : ∀ ws μ w μ', R ws μ w μ' → ws.length = ps.length)
    (body : ∀ X : Cx, IsEnv X P wd K mg base → Fb .cold X N (defScope st) k → (∃ p, Pp p ∧ p ∈ X.pn) → ∀ ws μ w μ', R ws μ w μ' → JSs X (ws.map some ++ List.replicate (N.length - ws.length) none) μ (defBody st) fun o => o = .rt w μ' ∨ (w = wn ∧ ∃ ρ', o = .nx ρ' μ')) : CalC Pp P wd K mg base (k + 1) x R := by
  obtain ⟨f, fd, F, hm, b⟩ := A
  refine ⟨f, fd, ps, ?_, hm, F.kp, b⟩
  obtain ⟨oc, od, kV, doc, pm, an, cdv, ct, osl, rfl, lk, hcd⟩ := F.ex
  refine fn_ofC lk hcd S (fun vs H Q E h => ?_) fun A outer s H vs Q E p hp hr hsp => ?_
  · rcases h with ⟨G, μ, ws, w, μ', _, _, wvs, hR, _⟩ | ⟨G, μ, ws, c, μ', _, _, wvs, hR, _⟩
    · rw [wvs_len wvs]; exact hl _ _ _ _ hR
    · exact hR.elim
  · rcases hsp with ⟨G, μ, ws, w, μ', gh, m, wvs, hR, q⟩ | ⟨G, μ, ws, c, μ', gh, m, wvs, hR, q⟩
    · exact ⟨_, body (L2H.cxH (L2.CX P wd) P wd K mg base N x (defScope st) f cdv A outer s H E p) ⟨rfl, rfl, rfl, rfl, rfl⟩ ⟨⟨rfl, rfl, S.nd, hr, fun z => Md.noConfusion z, fun z => Md.noConfusion z⟩, fun _ => rfl, L2.passes_of rfl, rfl, rfl⟩ ⟨p, hp, List.mem_cons_self⟩ ws μ w μ' hR (fun cls d _ H => E cls d H) ⟨fun z => Bool.noConfusion (show false = true from z), fun _ => L2.takes_of rfl rfl rfl rfl⟩, G, st_start gh m wvs, wants_end q⟩
    · exact hR.elim
/-- a try's body, two clauses -/
def TrK2 (X : Cx) (c1 c2 : Value) (S1 S2 : Rho → Mu → Value → Prop) (Φ : Out → Prop) : Out → Prop
  | .ex cls r u => (PySem.W.exmOne X.K cls c1 = some true ∧ S1 r u cls) ∨ (PySem.W.exmOne X.K cls c1 = some false ∧ PySem.W.exmOne X.K cls c2 = some true ∧ S2 r u cls)
  | .nx r u => Φ (.nx r u)
  | .rt w u => Φ (.rt w u)
  | .rl w u => Φ (.rl w u)
  | .bk r u => Φ (.bk r u)
  | .ct r u => Φ (.ct r u)
abbrev SufP (X : Cx) (N : List Str) (sc : Scope) (k n : Nat) (suite : List Stmt) (Φ : Out → Prop) (ad : Addr) : Rho → Mu → Value → Prop := fun r u cls => ∀ Y : Cx, Fb .cold Y N sc k → SameEnv X Y → (∃ p, HeldP ad cls p ∧ p ∈ Y.pn) → JSs Y (r.set n (some (.loc ad))) u suite (SuI n Φ)
theorem jss_tryH2 (C : Fb .hot X N sc k) (n : Nat) {x1 x2 y : Str} {c1 c2 : Value} {np1 np2 pos1 pos2 : Pos} {body s1 s2 rest : List Stmt} {b1 b2 : Stmt} {Φ : Out → Prop} (h1 : Names X x1 c1) (h2 : Names X x2 c2)
    (hb : ∀ Y : Cx, Fb .hot Y N sc k → SameEnv X Y → JSs Y ρ μ body (TrK2 X c1 c2 (fun r u cls => ∀ ad : Addr, SufP X N sc k n (b1 :: s1) (Kn X rest Φ) ad r u cls) (fun r u cls => ∀ ad : Addr, SufP X N sc k n (b2 :: s2) (Kn X rest Φ) ad r u cls) (Kn X rest Φ)))
    (hy : N[n]? = some y := by rfl) (hyl : sc.names.lookup y = some .local := by rfl) :
    JSs X ρ μ (.Try body [.ExceptHandler (some (.Name x1 np1)) (some y) (b1 :: s1) pos1, .ExceptHandler (some (.Name x2 np2)) (some y) (b2 :: s2) pos2] [] [] pos :: rest) Φ := by
  have su : ∀ (b : Stmt) (s : List Stmt) (ad : Addr) (oe : Obj) (cls : Value) (d : Option Addr) (pn : List (Addr × Obj)), Zc cls d oe → (∃ vs, oe.data = .fields vs) → PSs (X.suite ad ((ad, oe) :: pn)) (b :: s) (fun D σ H => d = none ∧ ∃ (r : Rho) (u : Mu), SufP X N sc k n (b :: s) (Kn X rest Φ) ad r u cls ∧ rdS X.K (fun _ _ _ _ => False) (r.set n (some (.loc ad))) u (SuI n (Kn X rest Φ)) D σ H) := fun b s ad oe cls d pn hz hf =>
    ⟨fun pins s' σ H D I ⟨hd, r, u, j, q⟩ => (j (X.suite ad ((ad, oe) :: pn)) ⟨⟨C.n, C.s, C.nd, ⟨C.room.dp, C.room.un⟩, fun z => Md.noConfusion z, fun z => Md.noConfusion z⟩, C.fn, PassesOwn.never, C.sk, C.fr⟩ ⟨rfl, rfl, rfl, rfl, rfl⟩ ⟨(ad, oe), ⟨rfl, by rw [← hd]; exact hz, hf⟩, List.mem_cons_self⟩ _ takesX0).run pins s' σ H D I q⟩
  refine jss_cons fun Wx tk => PS.imp (ps_try_asM (i := n) (tb := fun W D σ H => rdS X.K W ρ μ (TrK2 X c1 c2 (fun r u cls => ∀ ad : Addr, SufP X N sc k n (b1 :: s1) (Kn X rest Φ) ad r u cls) (fun r u cls => ∀ ad : Addr, SufP X N sc k n (b2 :: s2) (Kn X rest Φ) ad r u cls) (Kn X rest Φ)) D σ H)
      C.sk C.fr (by rw [C.n]; exact C.nd) (by rw [C.n]; exact hy) (by show X.env.scope.names.lookup y = _; rw [C.s]; exact hyl) (tk.2 (C.hot rfl).1)
      (fun W pn xe hp tkW po => hb (X.tr pn xe) ⟨⟨C.n, C.s, C.nd, C.room, fun z => Md.noConfusion z, fun _ => ⟨(C.hot rfl).1, C.hotC.elim fun q hq => ⟨q, hq.1, hp q hq.2⟩⟩⟩, C.fn, po, C.sk, C.fr⟩ ⟨rfl, rfl, rfl, rfl, rfl⟩ W ⟨fun z => absurd ((C.hot rfl).1.symm.trans (show X.calm = true from z)) Bool.false_ne_true, fun _ => tkW⟩)
      (.cons h1 (su b1 s1) (.cons h2 (su b2 s2) .nil)))
    fun D σ H ⟨G, S, Wn⟩ => ⟨G, S, ⟨fun _ _ _ _ _ φ g s => Wn.nx _ _ _ _ _ φ g s, fun _ _ _ _ _ φ g m v => Wn.rt _ _ _ _ _ φ g m v, fun _ _ _ _ _ _ φ g m h0 h1 h2 h3 h4 => Wn.rl _ _ _ _ _ _ φ g m h0 h1 h2 h3 h4, fun _ _ _ _ _ φ g s => Wn.bk _ _ _ _ _ φ g s, fun _ _ _ _ _ φ g s => Wn.ct _ _ _ _ _ φ g s,
      fun cls r u σ' H' G' φ g s => ?_⟩⟩
  rcases φ with ⟨φ1, φ2⟩ | ⟨φ1, φ2, φ3⟩
  · exact ⟨true, φ1, fun _ ad hd => ⟨rfl, r, u, φ2 ad, G', s.set n (show WV X.K G' (.ref ad) (.loc ad) from rfl), wants_suI n (Wn.go g)⟩, fun z => nomatch z⟩
  · exact ⟨false, φ1, fun z => absurd z Bool.false_ne_true, fun _ => ⟨true, φ2, fun _ ad hd => ⟨rfl, r, u, φ3 ad, G', s.set n (show WV X.K G' (.ref ad) (.loc ad) from rfl), wants_suI n (Wn.go g)⟩, fun z => nomatch z⟩⟩
end
end RB
namespace RB
open PySem PySem.Spec PyProof.Rows L2
section
variable {md : Md} {X : Cx} {N : List Str} {sc : Scope} {k : Nat} {ρ : Rho} {μ μ1 μ2 μ3 : Mu} {a b c e : Expr} {pos p p2 p3 ap cp : Pos} {w : W} {ds : List PyData} {d : PyData} {i j : Int} {Φ : Out → Prop} {rest : List Stmt}
/-- a new list is handed back, own objects are left behind -/
theorem jss_retLD (n : Nat) (h : JL X ρ μ e ds μ1) (f : Φ (.rl ds (μ1.drop n))) : JSs X ρ μ (.Return (some e) pos :: rest) Φ :=
  jss_cons fun Wx tk => PS.imp (ps_ret h) fun D σ H ⟨G, S, Wn⟩ => ⟨G, S, fun p xs H' G' g m h0 h1 h2 h3 h4 => Wn.rl _ _ p xs H' G' f (go_drop g n) (mu_drop m n) (.inl h0) h1 (fun z => h2 (by rw [List.map_drop] at z; exact List.mem_of_mem_drop z)) h3 h4⟩
theorem ints_V {K : PySem.W.Frag} {G : Hp} : ∀ {ns : List Int} {xs : List V}, DpAll K G xs (ns.map .int) → xs = ns.map V.int
  | [], _, h => by cases h; rfl
  | n :: ns, _, h => by
    cases h with
    | cons h t => cases h; rw [ints_V t]; rfl
theorem V_ints {K : PySem.W.Frag} {G : Hp} : ∀ ns : List Int, DpAll K G (ns.map V.int) (ns.map .int)
  | [] => .nil
  | n :: ns => .cons (Dp.int n) (V_ints ns)
/-- sorted(a list of ints), any number of them -/
theorem jl_sorted (C : Fx md X N sc k) {ns es : List Int} (hm : X.mg "sorted" = none) (ha : JE X ρ μ a (.dat (.list (ns.map .int))) μ1) (hu : ∀ ns' : List Int, ns'.Perm ns → ns'.Pairwise (· ≤ ·) → ns' = es) (hg : sc.names.lookup ("sorted" : Str) = some .globalImplicit := by rfl)
    (he : starEach [a] X.env = (false, eval a X.env) :: starEach [] X.env := by rfl) (hpl : (backTo pos (starEach [] X.env)).any (·.1) = false := by rfl) : JL X ρ μ (.Call (.Name "sorted" p) [a] [] pos) (es.map .int) μ1 :=
  PE.imp (pe_callB cr_sortedI (C.gl hg) hm PyProof.Rows.boot_sorted (ja_cons ha ja_nil he) (by decide) (by decide) he hpl) fun σ H Q ⟨G, S, q⟩ => ⟨G, S, fun vs H1 G1 g1 m1 wvs => by
    cases wvs with
    | cons h t =>
      cases t
      obtain ⟨l, ys, rfl, hs, hd⟩ := wv_lst h
      obtain rfl := ints_V hd
      refine ⟨l, ns, rfl, g1.gs.seq hs, fun ns' t hp hsr ht => ?_⟩
      obtain rfl := hu ns' hp hsr
      obtain ⟨g2, m2, gt, tm⟩ := lay_l (o := .lst (ns'.map V.int)) g1.gs m1 ht
      exact q t _ _ G1 (g1.trans g2) m2 (g1.al _ ht) gt tm upd_same (V_ints ns')⟩
/-- an owned list, the first, is known from now on -/
theorem jss_frz (n : Nat) {ad : Addr} {body : List Stmt} (h : ρ[n]? = some (some (.loc ad))) (hj : JSs X (ρ.set n (some (.dat (.list ds)))) μ body Φ) : JSs X ρ ((ad, OD.l ds) :: μ) body Φ :=
  fun Wx tk => PSs.imp (hj Wx tk) fun D σ H ⟨G, S, Wn⟩ => by
    obtain ⟨v, e, wv⟩ := S.sv n _ h
    cases (show v = .ref ad from wv)
    obtain ⟨gl, _, hx, xs, rfl, hd⟩ := S.mu.on 0 ad _ rfl
    have gx : Same G (upd G ad (.lst xs)) := fun b o eb => by rw [upd_ne (ne_of_none eb gl)]; exact eb
    have nd := S.mu.nd
    rw [List.map_cons] at nd
    have nm := (List.nodup_cons.mp nd).1
    have gh : Same (upd G ad (.lst xs)) H := fun b o eb => by
      by_cases hb : b = ad
      · subst hb; rw [upd_same] at eb; cases eb; exact hx
      · rw [upd_ne hb] at eb; exact S.gh _ _ eb
    have m2 : MuOk X.K H (upd G ad (.lst xs)) μ := ⟨fun m b es eb => by
      obtain ⟨h1, ys, h2, h3⟩ := S.mu.on (m + 1) b es eb
      have hbt : b ≠ ad := fun z => nm (by rw [← z]; exact List.mem_map.mpr ⟨(b, es), List.mem_of_getElem? eb, rfl⟩)
      exact ⟨by rw [upd_ne hbt]; exact h1, ys, h2, OOk.same gx h3⟩, (List.nodup_cons.mp nd).2⟩
    have g : Go H G ((ad, OD.l ds) :: μ) H (upd G ad (.lst xs)) μ := ⟨fun _ _ e _ => e, gx, gh, fun b o eb => by
      by_cases hb : b = ad
      · subst hb; exact .inr (.inr List.mem_cons_self)
      · rw [upd_ne hb] at eb; exact .inl eb, fun b hb => .inl (List.mem_cons_of_mem _ hb), fun _ e => e⟩
    refine ⟨_, ⟨gh, fun i w hw => ?_, by rw [List.length_set]; exact S.ln, m2⟩, Wn.go g⟩
    by_cases hi : n = i
    · subst hi
      rw [List.getElem?_set_self (List.getElem?_eq_some_iff.mp h).1] at hw
      cases hw
      exact ⟨_, e, Dp.lst (SqL.of upd_same) (dpAll_same gx _ _ hd)⟩
    · rw [List.getElem?_set_ne hi] at hw
      obtain ⟨v', h1, h2⟩ := S.sv i w hw
      exact ⟨v', h1, h2.same gx⟩
end
end RB
namespace RB
open PySem PySem.Spec PyProof.Rows L2
/-! ### list comprehensions over a range while an exception is handled -/
abbrev blkH (X : Cx) (p : Addr × Obj) (s : Shared) (H : Hp) (scope : Scope) (ce : Env) (fp : List Addr) : Cx := { X.blk s H scope ce fp with pn := [p] }
theorem inv_blkH {X : Cx} {p : Addr × Obj} {s0 : Shared} {H0 : Hp} {scope : Scope} {ce : Env} {fp : List Addr} {σ : L2.St} {H : Hp} {s : Shared} (I : Inv (X.blk s0 H0 scope ce fp) [] σ H s) (hp : s.heap.get? p.1 = some p.2 ∧ H p.1 = none ∧ p.1 ≠ ce.locals ∧ p.1 ∉ frs X.stack ∧ ∀ v, p.2.data ≠ .cell v) : Inv (blkH X p s0 H0 scope ce fp) [] σ H s := by
  have o := I.ok
  exact ⟨⟨o.mod, o.kind, o.glob, o.blt, o.above, o.inj, o.has, o.cab, o.hd, o.frames, o.stk, o.exf, o.bs, o.bsz, o.noex, o.exfs, o.funs, o.frf⟩, I.os, I.bare, I.base, I.loc, I.cell, I.free, I.freeC, fun q hq => by
    have e : q = p := by simpa using (show q ∈ [p] ++ ([] : List (Addr × Obj)) from hq)
    rw [e]
    exact hp, I.hok, I.len⟩
section
variable {X : Cx}
theorem lc_coreH {pins : List (Addr × Obj)} {s : Shared} {σ : L2.St} {H : Hp} {Q : VK} {elt tg iter : Expr} {ifs : List Expr} {scope : Scope} {own : List (Str × Nat)} {pos pos' : Pos} {wi : TI} {g : TG} {tt : TT} {te : TE} {use : Option (Value → Sem Unit)} {Qf : Value → Shared → Prop} {p : Addr × Obj}
    (hot : L2H.Hot1 X.A p) (hp : p ∈ X.pn) (hN : X.N.Nodup) (I : Inv X pins σ H s) (hi : L2H.PIH X tg iter wi) (ok : BlkOk X.N X.env.scope scope own) (hg : ∀ (s : Shared) (H : Hp) (C : Addr) (cl : List (Str × Addr)) (fp : List Addr), PG (blkH X p s H scope (compEnvC scope cl C X.env) fp) tg g)
    (ht : ∀ (s : Shared) (H : Hp) (C : Addr) (cl : List (Str × Addr)) (fp : List Addr), PTs (blkH X p s H scope (compEnvC scope cl C X.env) fp) ifs tt) (he : ∀ (s : Shared) (H : Hp) (C : Addr) (cl : List (Str × Addr)) (fp : List Addr), PE (blkH X p s H scope (compEnvC scope cl C X.env) fp) elt te) (hs : ∀ x, foldedSetIterable iter X.env x = pure x) (h : tLc wi g tt te (own.map (·.2)) σ H Q)
    (hRR : ∀ D C s' m H', Inv X pins σ H' s' → Q (.ref D) H' → s'.heap.Ns C m → FpOk X pins H' C → compPost (model X.prog X.w) X.A X.xe use Qf (.ref D) C (.ok .next) s') : wpAny (model X.prog X.w) X.A (comprehension (.ListComp elt [⟨tg, iter, ifs, 0⟩] scope pos) scope X.env pos' (newList []) false (eval iter X.env) use) Qf X.xe s := by
  have hfree : ∀ y ∈ scope.names, y.2 = .free → ∃ c, X.env.cells.lookup y.1 = some c := fun y hy e => (ok.free y hy e).elim (fun k => I.ok.has _ (.inl k)) fun k => I.ok.has _ (.inr k)
  refine wpAny_comprehension_free (use := use) rfl hs (closure_ok hfree) ok.kind (fun y hy e => by rw [ok.uniq y hy, e]) (thn (hi.run pins s σ H _ I h) fun xv s1 hx => thn hx fun itv s2 h2 => ?_)
  obtain ⟨it, fp, tn, J, H2, e, I2, T, st2, f2, q⟩ := h2; subst e; refine wpAny_newObj_type (newEnv_comp ?_) (by show 0 ≤ sizeLine; decide)
  generalize hD : s2.heap.objs.size = D; have hDn : H2 D = none := I2.hok.fresh (Nat.le_of_eq hD); obtain ⟨W, ⟨m0, w0⟩, turn⟩ := q D hDn
  generalize hs3 : ({ s2 with heap := s2.heap.push { cls := .type "list", data := .seq ([] : List Value).toArray } } : Shared) = s3
  have I3 : Inv X pins σ (upd H2 D (.lst [])) s3 := by rw [← hs3]; exact I2.laid (t' := s2.toks) (fun b o e => Heap.get?_push_of_some _ e) (Nat.le_of_eq hD) ⟨Nat.zero_le _, [], 0, .nil, by rw [← hD]; exact Heap.get?_push_size _ rfl⟩
  have h3 : s3.heap = s2.heap.push { cls := .type "list", data := .seq ([] : List Value).toArray } := by rw [← hs3]
  have sz : ∀ b ∈ fp, b < s2.heap.objs.size := fun b hb => by obtain ⟨o, e, _⟩ := T.obj _ _ st2 b hb; exact Heap.lt_size e
  have f3 : ∀ b ∈ fp, FpOk X pins (upd H2 D (.lst [])) b ∧ b < s3.heap.objs.size := fun b hb => by
    have hlt := sz b hb; refine ⟨⟨?_, (f2 b hb).2⟩, by rw [h3, Heap.size_push]; exact Nat.lt_succ_of_lt hlt⟩; rw [upd_ne (by rw [← hD]; exact Nat.ne_of_lt hlt)]; exact (f2 b hb).1
  have st3 : tn 0 s3.heap := T.keep _ _ _ st2 fun b _ o e => by rw [h3]; exact Heap.get?_push_of_some _ e
  have I4' := block_start I3 ok hN f3; have pn3 := I3.pin p (List.mem_append_left _ hp)
  have pg := hg s3 (upd H2 D (.lst [])) s3.heap.objs.size (cellsFrom (s3.heap.objs.size + 1) scope.names (cloFrom X.env.cells scope.names [])) fp; have pt := ht s3 (upd H2 D (.lst [])) s3.heap.objs.size (cellsFrom (s3.heap.objs.size + 1) scope.names (cloFrom X.env.cells scope.names [])) fp
  have pe := he s3 (upd H2 D (.lst [])) s3.heap.objs.size (cellsFrom (s3.heap.objs.size + 1) scope.names (cloFrom X.env.cells scope.names [])) fp
  show codeAny _ _ (.compStart (.ListComp elt [⟨tg, iter, ifs, 0⟩] scope pos) 0 (.ref it) (.ref D) (compEnvC scope (cellsFrom (s3.heap.objs.size + 1) scope.names (cloFrom X.env.cells scope.names [])) s3.heap.objs.size X.env)) (compPost (model X.prog X.w) X.A X.xe use Qf (.ref D) s3.heap.objs.size) { s3 with heap := pushCells (s3.heap.push { cls := .type "dict", data := .dict #[] }) scope.names }
  have nfp : ∀ b ∈ fp, (upd H2 D (.lst [])) b = none := fun b hb => (f3 b hb).1.1
  have plt : p.1 < s3.heap.objs.size := Heap.lt_size pn3.1
  generalize hce : compEnvC scope (cellsFrom (s3.heap.objs.size + 1) scope.names (cloFrom X.env.cells scope.names [])) s3.heap.objs.size X.env = ce at I4' pg pt pe ⊢
  have cL : ce.locals = s3.heap.objs.size := by subst hce; rfl
  have pst : p.1 ∉ frs X.stack := fun hm => (List.mem_cons.mp (I3.stkSub p.1 hm)).elim pn3.2.2.1 pn3.2.2.2.1
  have I4 := inv_blkH (p := p) I4' ⟨pushCells_keeps _ _ _ _ (Heap.get?_push_of_some _ pn3.1), pn3.2.1, by rw [cL]; exact Nat.ne_of_lt plt, pst, pn3.2.2.2.2⟩
  clear I4'
  generalize hH3 : upd H2 D (.lst []) = H3 at I3 I4 pg pt pe w0 nfp f3 pn3
  generalize hs4 : ({ s3 with heap := pushCells (s3.heap.push { cls := .type "dict", data := .dict #[] }) scope.names } : Shared) = s4 at I4 ⊢
  have st4 : tn 0 s4.heap := T.keep _ _ _ st3 fun b _ o e => by rw [← hs4]; exact pushCells_keeps _ _ _ _ (Heap.get?_push_of_some _ e)
  have hotB : L2H.HotC (blkH X p s3 H3 scope ce fp) := ⟨p, hot, List.mem_cons_self⟩
  have stat : ∀ {σ' : L2.St} {H' : Hp} {s' : Shared}, Inv (blkH X p s3 H3 scope ce fp) [] σ' H' s' → (∀ b ∈ fp, H' b = none) → ∀ b ∈ fp, FpOk (blkH X p s3 H3 scope ce fp) [] H' b := fun {σ' H' s'} I' hn b hb => ⟨hn b hb, (I'.ok.exf b hb).1, I'.ok.exfs b hb, .inl hb, fun x c e => (I'.ok.exf b hb).2 x c e, fun q hq => by
    have e : q = p := by simpa using (show q ∈ [p] ++ ([] : List (Addr × Obj)) from hq)
    rw [e]; exact (f2 b hb).2.2.2.2.2 p (List.mem_append_left _ hp)⟩
  have loop : codeAny (model X.prog X.w) X.A (.compLoop (.ListComp elt [⟨tg, iter, ifs, 0⟩] scope pos) 0 (.ref it) (.ref D) ce) (compPost (model X.prog X.w) X.A X.xe use Qf (.ref D) s3.heap.objs.size) s4 := by
    refine compLoop_any (fun n s' => ∃ i H', Inv (blkH X p s3 H3 scope ce fp) [] (wipe σ (own.map (·.2))) H' s' ∧ tn i s'.heap ∧ (∀ b ∈ fp, H' b = none) ∧ W i n H') ?_ m0 ⟨0, H3, I4, st4, nfp, w0⟩
    rintro n s5 ⟨i, H5, I5, st5, n5, w5⟩; rcases turn i n H5 w5 with ⟨stop, qq⟩ | ⟨go, Nx, hNx, step⟩
    · refine thnF (T.done (blkH X p s3 H3 scope ce fp) rfl rfl rfl hotB i [] s5 _ H5 (fun _ _ => False) I5 (stat I5 n5) st5 stop) fun r s6 ⟨hr, I6⟩ => ?_
      subst hr; have I7 : Inv X pins σ H5 s6 := I3.call' (ch := fp) I6.os I6.base I6.hok I6.bare fun b hb => ⟨(f3 b hb).1.2.2.2.1, (f3 b hb).1.2.1, (f3 b hb).1.2.2.2.2.1, (f3 b hb).1.2.2.2.2.2⟩
      have nC : H5 s3.heap.objs.size = none := by have z : H5 ce.locals = none := I6.free; rw [cL] at z; exact z
      obtain ⟨m, hn, _⟩ := I6.loc; have hn : s6.heap.Ns ce.locals m := hn; rw [cL] at hn; exact hRR D s3.heap.objs.size s6 m H5 I7 qq hn (I3.fpOk (Nat.le_refl _) nC)
    · refine thnF (T.item (blkH X p s3 H3 scope ce fp) rfl rfl rfl hotB i [] s5 _ H5 (fun _ _ => False) I5 (stat I5 n5) st5 go) fun r s6 ⟨u, hr, h6⟩ => ?_
      subst hr; refine thnF h6 fun _ s7 ⟨x, H7, I7, r7, y7, st7, n7⟩ => ?_; have I7' := I7.pinned (stat I7 n7) (T.obj _ _ st7)
      refine thnF (pg.run _ s7 _ H7 x u _ I7' r7 (step x H7 y7)) fun _ s8 ⟨σ8, H8, I8, hw8, q8⟩ => ?_; refine thnF (pt.run _ s8 σ8 H8 _ I8 q8) fun b s9 ⟨H9, I9, q9⟩ => ?_
      have fin : ∀ {s' : Shared} {H' : Hp}, Inv (blkH X p s3 H3 scope ce fp) ([] ++ pinsAt fp s7.heap) σ8 H' s' → Nx H' → ∃ m, m < n ∧ ∃ i H', Inv (blkH X p s3 H3 scope ce fp) [] (wipe σ (own.map (·.2))) H' s' ∧ tn i s'.heap ∧ (∀ b ∈ fp, H' b = none) ∧ W i m H' := fun {s' H'} I' nx => by
        obtain ⟨m', hm, w'⟩ := hNx H' nx; have pin' : ∀ b ∈ fp, ∀ o, s7.heap.get? b = some o → s'.heap.get? b = some o ∧ H' b = none := fun b hb o e => let z := I'.pin (b, o) (List.mem_append_right _ (List.mem_append_right _ (mem_pinsAt hb e))); ⟨z.1, z.2.1⟩
        have hl : (wipe σ (own.map (·.2))).length = σ8.length := by rw [← hw8, wipe_length]
        refine ⟨m', hm, i + 1, H', (I'.unpinned (pins := [])).weak hl (fun j v e => by rw [← hw8] at e; exact (wipe_some e).1), T.keep _ _ _ st7 fun b hb o e => (pin' b hb o e).1, fun b hb => ?_, w'⟩
        obtain ⟨o, e, _⟩ := T.obj _ _ st7 b hb; exact (pin' b hb o e).2
      cases b with
      | false => simp only [Bool.false_eq_true, if_false] at q9 ⊢; exact fin I9 q9
      | true => simp only [if_true] at q9 ⊢; refine thnF (pe.run _ s9 σ8 H9 _ I9 q9) fun z s10 ⟨yv, H10, I10, r10, acc, hD10, hz10, nx⟩ => ?_; exact app_ok (X := blkH X p s3 H3 scope ce fp) I10 hD10 hz10 r10 fun s11 I11 => fin I11 nx
  exact codeAny_compStart_list loop (T.self X.A 0 _ _ _ st4 loop)
theorem pe_lcH {elt tg iter : Expr} {ifs : List Expr} {scope : Scope} {own : List (Str × Nat)} {pos : Pos} {wi : TI} {g : TG} {tt : TT} {te : TE} {p : Addr × Obj} (hot : L2H.Hot1 X.A p) (hp : p ∈ X.pn) (hN : X.N.Nodup) (hi : L2H.PIH X tg iter wi) (ok : BlkOk X.N X.env.scope scope own)
    (hg : ∀ (s : Shared) (H : Hp) (C : Addr) (cl : List (Str × Addr)) (fp : List Addr), PG (blkH X p s H scope (compEnvC scope cl C X.env) fp) tg g) (ht : ∀ (s : Shared) (H : Hp) (C : Addr) (cl : List (Str × Addr)) (fp : List Addr), PTs (blkH X p s H scope (compEnvC scope cl C X.env) fp) ifs tt)
    (he : ∀ (s : Shared) (H : Hp) (C : Addr) (cl : List (Str × Addr)) (fp : List Addr), PE (blkH X p s H scope (compEnvC scope cl C X.env) fp) elt te) (hs : ∀ x, foldedSetIterable iter X.env x = pure x := by intro _; rfl) : PE X (.ListComp elt [⟨tg, iter, ifs, 0⟩] scope pos) (tLc wi g tt te (own.map (·.2))) := by
  refine ⟨fun pins s σ H Q I h => ?_⟩
  rw [eval_ListComp]; refine lc_coreH hot hp hN I hi ok hg ht he hs h fun D C s' m H' I' q hn f => ⟨m, hn, fun h'' sb => ?_⟩
  obtain ⟨f0, f1, f2, f3, f4, f5⟩ := f; exact ⟨.ref D, H', I'.turned (t' := s'.toks) (fun b o hb e => (sb.2 b hb).trans e) f0 f1 f3 f4 f5, rfl, q⟩
end
section
variable {md : Md} {X : Cx} {N : List Str} {sc : Scope} {k : Nat} {ρ : Rho} {μ μ1 μ2 : Mu} {a b elt : Expr} {ifs : List Expr} {pos p p2 p3 : Pos} {i j : Int} {scope : Scope}
theorem blk_fxH (C : Fx .hot X N sc k) {q : Addr × Obj} (hot : L2H.Hot1 X.A q) (s : Shared) (H : Hp) (Cc : Addr) (cl : List (Str × Addr)) (fp : List Addr) : Fx .hot (blkH X q s H scope (compEnvC scope cl Cc X.env) fp) N (relab scope sc) k ∧ SameEnv X (blkH X q s H scope (compEnvC scope cl Cc X.env) fp) :=
  ⟨⟨C.n, by rw [← C.s]; rfl, C.nd, C.room, fun z => Md.noConfusion z, fun _ => ⟨(C.hot rfl).1, q, hot, List.mem_cons_self⟩⟩, ⟨rfl, rfl, rfl, rfl, rfl⟩⟩
theorem jl_compRM (C : Fx md X N sc k) (hmd : md ≠ .cold) (q : Nat) {x : Str} (f : Nat → Bool) (v : Nat → PyData) (hm : X.mg "range" = none) (ha : JE X ρ μ a (wi i) μ1) (h0 : 0 ≤ i) (h1 : i ≤ 100000)
    (hb : blkC N sc scope [(x, q)] = true) (hN : N[q]? = some x) (hx : (relab scope sc).names.lookup x = some .local)
    (ht : ∀ (Y : Cx) (n : Nat), Fx md Y N (relab scope sc) k → SameEnv X Y → n < i.toNat → JTs Y ((ρ.set q none).set q (some (wi n))) μ1 ifs (f n) μ1)
    (he : ∀ (Y : Cx) (n : Nat), Fx md Y N (relab scope sc) k → SameEnv X Y → n < i.toNat → f n = true → JE Y ((ρ.set q none).set q (some (wi n))) μ1 elt (.dat (v n)) μ1)
    (hg : sc.names.lookup ("range" : Str) = some .globalImplicit := by rfl) (hst : starEach [a] X.env = (false, eval a X.env) :: starEach [] X.env := by rfl) :
    JL X ρ μ (.ListComp elt [⟨.Name x p, .Call (.Name "range" p3) [a] [] p2, ifs, 0⟩] scope pos) (gv f v i.toNat) μ1 := by
  cases md with
  | calm => exact jl_compR C q f v hm ha h0 h1 hb hN hx ht he hg hst
  | cold => exact absurd rfl hmd
  | hot =>
    obtain ⟨ex, hot, hp⟩ := C.hotC
    exact PE.imp (pe_lcH (own := [(x, q)]) (g := gName q) (tt := tR X ρ μ1 q f i.toNat) (te := eR X ρ μ1 q f v i.toNat) hot hp (by rw [C.n]; exact C.nd) (L2H.pi_range1H (C.gl hg) hm (ja_cons ha ja_nil hst) hst) (by rw [C.n, C.s]; exact blkOk_by hb)
      (fun s H Cc cl fp => pg_name (i := q) (by rw [(blk_fxH C hot s H Cc cl fp).1.n]; exact C.nd) (by rw [(blk_fxH C hot s H Cc cl fp).1.n]; exact hN) (by rw [(blk_fxH C hot s H Cc cl fp).1.s]; exact .inl hx) (.inr (by rw [(blk_fxH C hot s H Cc cl fp).1.s]; exact hx)))
      (fun s H Cc cl fp => ⟨fun pins s' σ H' Q I ⟨n, hn, q⟩ => (ht _ n (blk_fxH C hot s H Cc cl fp).1 (blk_fxH C hot s H Cc cl fp).2 hn).run pins s' σ H' Q I q⟩)
      (fun s H Cc cl fp => ⟨fun pins s' σ H' Q I ⟨n, hn, hf, q⟩ => (he _ n (blk_fxH C hot s H Cc cl fp).1 (blk_fxH C hot s H Cc cl fp).2 hn hf).run pins s' σ H' Q I q⟩)) fun σ H Q h => rd_compR h0 h1 σ H Q h
theorem jl_compR2M (C : Fx md X N sc k) (hmd : md ≠ .cold) (q : Nat) {x : Str} (f : Nat → Bool) (v : Nat → PyData) (hm : X.mg "range" = none) (ha : JE X ρ μ a (wi i) μ1) (hb : JE X ρ μ1 b (wi j) μ2) (b0 : -100000 ≤ i) (b1 : i ≤ 100000) (b2 : -100000 ≤ j) (b3 : j ≤ 100000) (b4 : (j - i).toNat ≤ 100000)
    (hbk : blkC N sc scope [(x, q)] = true) (hN : N[q]? = some x) (hx : (relab scope sc).names.lookup x = some .local)
    (ht : ∀ (Y : Cx) (n : Nat), Fx md Y N (relab scope sc) k → SameEnv X Y → n < (j - i).toNat → JTs Y ((ρ.set q none).set q (some (wi (i + (n : Int))))) μ2 ifs (f n) μ2)
    (he : ∀ (Y : Cx) (n : Nat), Fx md Y N (relab scope sc) k → SameEnv X Y → n < (j - i).toNat → f n = true → JE Y ((ρ.set q none).set q (some (wi (i + (n : Int))))) μ2 elt (.dat (v n)) μ2)
    (hg : sc.names.lookup ("range" : Str) = some .globalImplicit := by rfl) (hst : starEach [a, b] X.env = (false, eval a X.env) :: starEach [b] X.env := by rfl) (hst2 : starEach [b] X.env = (false, eval b X.env) :: starEach [] X.env := by rfl) :
    JL X ρ μ (.ListComp elt [⟨.Name x p, .Call (.Name "range" p3) [a, b] [] p2, ifs, 0⟩] scope pos) (gv f v (j - i).toNat) μ2 := by
  cases md with
  | calm => exact jl_compR2 C q f v hm ha hb b0 b1 b2 b3 b4 hbk hN hx ht he hg hst hst2
  | cold => exact absurd rfl hmd
  | hot =>
    obtain ⟨ex, hot, hp⟩ := C.hotC
    have e1 : starEach [a, b] X.env = [(false, eval a X.env), (false, eval b X.env)] := by rw [hst, hst2]; rfl
    have e2 : starEach [b] X.env = [(false, eval b X.env)] := by rw [hst2]; rfl
    refine PE.imp (pe_lcH (own := [(x, q)]) (g := gName q) (tt := tR2 X ρ μ2 q i f (j - i).toNat) (te := eR2 X ρ μ2 q i f v (j - i).toNat) hot hp (by rw [C.n]; exact C.nd) (pi_range2H (C.gl hg) hm (ja_cons ha (ja_cons hb ja_nil hst2) hst) e1 e2) (by rw [C.n, C.s]; exact blkOk_by hbk)
      (fun s H Cc cl fp => pg_name (i := q) (by rw [(blk_fxH C hot s H Cc cl fp).1.n]; exact C.nd) (by rw [(blk_fxH C hot s H Cc cl fp).1.n]; exact hN) (by rw [(blk_fxH C hot s H Cc cl fp).1.s]; exact .inl hx) (.inr (by rw [(blk_fxH C hot s H Cc cl fp).1.s]; exact hx)))
      (fun s H Cc cl fp => ⟨fun pins s' σ H' Q I ⟨n, hn, q⟩ => (ht _ n (blk_fxH C hot s H Cc cl fp).1 (blk_fxH C hot s H Cc cl fp).2 hn).run pins s' σ H' Q I q⟩)
      (fun s H Cc cl fp => ⟨fun pins s' σ H' Q I ⟨n, hn, hf, q⟩ => (he _ n (blk_fxH C hot s H Cc cl fp).1 (blk_fxH C hot s H Cc cl fp).2 hn hf).run pins s' σ H' Q I q⟩)) fun σ H Q ⟨G, S, qq⟩ => ⟨G, S, fun vs H1 G1 g1 m1 wvs => ?_⟩
    cases wvs with
    | cons hx' htl =>
      cases htl with
      | cons hy' htl =>
        cases htl
        have S1 := S.go g1 m1
        refine ⟨i, j, by rw [wv_int hx', wv_int hy'], ⟨by omega, by omega, by omega, by omega⟩, fun D hD => lc_range (lo := i) (n := (j - i).toNat) (g := gName q) (vs := [q]) (σ := σ) (Qd := fun H => Q (V.ref D) H) (tt := tR2 X ρ μ2 q i f (j - i).toNat) (te := eR2 X ρ μ2 q i f v (j - i).toNat) (fun n H => Blk X.K σ ρ μ2 q (gv f v n) D H1 G1 H) (blk_start S1 hD) (fun n H' hn B => ?_) fun H' B => ?_⟩
        · exact ⟨wipe1 _, blk_turn (tt := tR2 X ρ μ2 q i f (j - i).toNat) (te := eR2 X ρ μ2 q i f v (j - i).toNat) B (by omega) (Dp.int _) (fun σ H Q q => ⟨n, hn, q⟩) (fun hf σ H Q q => ⟨n, hn, hf, q⟩)⟩
        · obtain ⟨G, xs, S2, g, h0', hG, hD', hx2, hd⟩ := B.ex
          exact qq D xs H' G (g1.trans g) S2.mu (g1.al D h0') hG hD' hx2 hd
end
end RB
namespace RB
open PySem PySem.Spec PyProof.Rows L2
/-! ### d.update(e); sorted(d), any number of keys; d.pop(k, None); len(set(xs)) -/
def tDUpd (td ty : TE) : TE := fun σ H Q => td σ H fun x H1 => ∃ a, x = .ref a ∧ IsD H1 a ∧ ty σ H1 fun y H2 => ∃ b kvs more, y = .ref b ∧ a ≠ b ∧ H2 a = some (.dK kvs) ∧ Rd H2 b (.dK more) ∧ kvs.length + more.length ≤ sizeLine ∧ Q .non (upd H2 a (.dK (mergeK kvs more)))
theorem mergeK_len (more kvs : List (Key × V)) : (mergeK kvs more).length ≤ kvs.length + more.length := by
  induction more generalizing kvs with
  | nil => exact Nat.le_refl _
  | cons p L ih =>
    have h1 := ih (putK kvs p.1 p.2)
    have h2 : (putK kvs p.1 p.2).length ≤ kvs.length + 1 := by
      unfold putK
      split
      · rw [List.length_map]; omega
      · rw [List.length_append]; exact Nat.le_refl _
    show (mergeK (putK kvs p.1 p.2) L).length ≤ _
    rw [List.length_cons]
    omega
section
variable {X : Cx} {o e : Expr} {apos cpos : Pos} {td ty : TE}
theorem pe_dupd (ho : PE X o td) (he : PE X e ty) (m : M1 X o "update" apos e cpos) : PE X (.Call (.Attribute o "update" apos) [e] [] cpos) (tDUpd td ty) := by
  refine ⟨fun pins s σ H Q I h => ?_⟩
  refine wpAny_Call_method m.base m.few m.line PySem.F.plainAttrs_dict PySem.F.slot_dict_update PySem.F.type_dict_update (thn (ho.run pins s σ H _ I h) fun u s1 ⟨x, H1, I1, rx, a, ex, d, q1⟩ => ?_)
  subst ex
  obtain rfl : u = Value.ref a := rx
  obtain ⟨t1, t2, _⟩ := isD_at I1 d
  refine ⟨t1, t2, ?_⟩
  rw [m.trees]
  refine Calls.callWith_builtin rfl (Calls.evalArgs_plain (Calls.spliced_cons (thn (he.run pins s1 σ H1 _ I1 q1) fun iv s2 ⟨y, H2, I2, ry, b, kvs, more, ey, hab, ea, eb, hz, q2⟩ => Calls.spliced_nil ?_)))
  subst ey
  obtain rfl : iv = Value.ref b := ry
  obtain ⟨z, hd, vs, rel, dd⟩ := dk_of I2.hok ea
  obtain ⟨z2, hd2, vs2, rel2, dd2⟩ := dk_rd I2.hok eb
  refine call_meetsIn PySem.F.slot_dict_update dd.typeIs PySem.F.entry_dict_update (PySem.F.args_dict_update_2 _ _) (meets_dict_update (mixKind X.prog X.w) a b hab hd2)
    ⟨vs, vs2, dd, dd2, by rw [← rel.length, ← rel2.length]; exact hz, fun h' dd' _ hs => ?_⟩
  have he : ∃ q, h'.get? a = some q := let ⟨q, _, _, hq, _⟩ := dd'; ⟨q, hq⟩
  exact ⟨.non, _, d_write (t' := s2.toks) I2 (by rw [ea]; exact True.intro) hs he (dk_new (Nat.le_trans (mergeK_len more kvs) hz) hd (rel2.merge rel) dd'), rfl, q2⟩
end
theorem acc_ints : ∀ {tab : List (Key × Value)} {us : List Value} {ns : List Int}, tab.map (·.1) = ns.map Sum.inl → us.length = tab.length → (∀ (n : Nat) (u : Value), us[n]? = some u → ∃ q y, tab[n]? = some (q, y) ∧ keyIs q u = true) → IntsAre us ns
  | [], [], [], _, _, _ => .nil
  | p :: tab, u :: us, n :: ns, hk, hl, h => by
    injection hk with h1 h2
    obtain ⟨q, y, hq, hi⟩ := h 0 u rfl
    cases hq
    cases (show q = Sum.inl n from h1)
    obtain ⟨_, t, e1, rfl⟩ | ⟨_, _, e1, _⟩ := keyIs_shape hi
    · cases e1
      exact .cons _ _ (acc_ints h2 (Nat.succ.inj hl) fun j v hj => h (j + 1) v hj)
    · cases e1
  | [], u :: us, _, _, hl, _ => by simp at hl
  | _ :: _, [], _, _, hl, _ => by simp at hl
  | [], [], _ :: _, hk, _, _ => by simp at hk
  | _ :: _, _ :: _, [], hk, _, _ => by simp at hk
/-- sorted(d): d has int keys, any number of them -/
def rSortD : List V → Hp → VK → Prop := fun as H Q => ∃ (b : Addr) (tab : List (Key × V)) (ns : List Int), as = [.ref b] ∧ Rd H b (.dK tab) ∧ tab.map (·.1) = ns.map Sum.inl ∧ ∀ (os : List Int) (t : Addr), os.Perm ns → os.Pairwise (· ≤ ·) → H t = none → Q (.ref t) (upd H t (.lst (os.map V.int)))
theorem call_sortedDO {X : Cx} (cal : X.calm = true) : CallR X (.builtin "sorted") rSortD := by
  rintro pins s σ H _ us Q I r ⟨b, tab, ns, rfl, hb, hns, q⟩
  rw [Vals.ref1 r]
  obtain ⟨hz, lo, raw, rel, own⟩ := dk_rd I.hok hb
  obtain ⟨ep, at_⟩ := own.dictAt
  have hr : raw.map (·.1) = ns.map Sum.inl := by rw [← hns]; exact rel.keys.symm
  have hm : raw.length ≤ sizeLine := by have := rel.length; omega
  refine Calls.call_function_entry kind_sorted plain_sorted entry_sorted (args_sorted1 _) ?_; unfold Builtin.«sorted»
  refine wpAny_bind (m := checkCount "sorted" 1 1 _) (wpAny_pure (wpAny_bind ?_))
  refine PySem.W.kdu_collect (A := X.A.in1) (PySem.W.kdl_dict (knd := mixKind X.prog X.w) (ep := ep) lo) (I.ok.hd cal) at_ hm fun g tk acc keep got => ?_
  have ln : acc.toList.length = raw.length := by rw [Array.length_toList]; exact got.1
  have are : IntsAre acc.toList ns := acc_ints hr ln fun n u e => got.2 n u (by rw [← e, Array.getElem?_toList])
  have small : acc.toList.length ≤ sizeLine := ln ▸ hm
  have J : Inv X pins σ H { s with heap := g, toks := tk } := I.kept keep
  let s2 : Shared := { s with heap := g.push (seqObj "list" acc.toList.toArray 0), toks := tk }
  have new : s2.heap.get? g.objs.size = some (seqObj "list" acc.toList.toArray 0) := Heap.get?_push_size _ rfl
  refine wpAny_bind (wpAny_newList (s := { s with heap := g, toks := tk }) ?_ small); show wpAny _ _ _ _ _ s2
  refine wpAny_bind (wpAny_holding (wpAny_call_entry slot_list_sort ⟨_, new, rfl⟩ entry_list_sort (SrtO.list_sort_ord (s := s2) SrtO.swo_int new small (fun two => SrtO.ints_sortable are two) fun out u1 u2 => ⟨_, rfl, ?_⟩) (args_list_sort _)))
  obtain ⟨w1, w2, w3⟩ := SrtO.ints_out are u1 u2; obtain ⟨e9, at9⟩ := sortedHeap_at (vs := acc.toList) (out := out.toArray) new
  have fin : ((out.map SrtO.iv).map V.int).length ≤ sizeLine := by rw [List.length_map, w2.length_eq, ← are.length]; exact small
  have fresh : ∀ c o, g.get? c = some o → (sortedHeap s2.heap g.objs.size acc.toList out.toArray).get? c = some o := fun c o e => by
    have lt := Heap.lt_size e; rw [sortedHeap_old (Nat.ne_of_lt lt) (by show c < (g.push _).objs.size; rw [size_push']; exact Nat.lt_succ_of_lt lt)]
    exact Heap.get?_push_of_some _ e
  exact wpAny_pure ⟨_, rfl, .ref g.objs.size, _, J.laid (o := .lst ((out.map SrtO.iv).map V.int)) (t' := tk) fresh (Nat.le_refl _) ⟨fin, out, e9, vals_of_ints w1, at9⟩, rfl, q _ _ w2 w3 (J.hok.fresh (Nat.le_refl _))⟩
section
variable {md : Md} {X : Cx} {N : List Str} {sc : Scope} {k : Nat} {ρ : Rho} {μ μ1 μ2 μ3 : Mu} {a b c e : Expr} {pos p p2 p3 ap cp q : Pos} {w : W} {ds : List PyData} {d : PyData} {i j : Int} {Φ : Out → Prop} {rest : List Stmt}
theorem kvD_keys {K : PySem.W.Frag} {G : Hp} : ∀ {vs : List (Key × V)} {kvs : List (Int × PyData)}, KvD K G vs kvs → vs.map (·.1) = (kvs.map (·.1)).map Sum.inl
  | [], _, h => by cases h; rfl
  | v :: vs, _, h => by
    cases h with
    | cons h t =>
      rw [List.map_cons, kvD_keys t, h.1]
      rfl
theorem jl_sortedD (C : Fx .calm X N sc k) {l : Addr} {n : Nat} {kvs : List (Int × PyData)} {es : List Int} (hm : X.mg "sorted" = none) (ha : JE X ρ μ a (.loc l) μ1) (hl : μ1[n]? = some (l, .d kvs)) (hu : ∀ ns' : List Int, ns'.Perm (kvs.map (·.1)) → ns'.Pairwise (· ≤ ·) → ns' = es) (hg : sc.names.lookup ("sorted" : Str) = some .globalImplicit := by rfl)
    (he : starEach [a] X.env = (false, eval a X.env) :: starEach [] X.env := by rfl) (hpl : (backTo pos (starEach [] X.env)).any (·.1) = false := by rfl) : JL X ρ μ (.Call (.Name "sorted" p) [a] [] pos) (es.map .int) μ1 :=
  PE.imp (pe_callB (call_sortedDO C.calm) (C.gl hg) hm PyProof.Rows.boot_sorted (ja_cons ha ja_nil he) (by decide) (by decide) he hpl) fun σ H Q ⟨G, S, q⟩ => ⟨G, S, fun vs H1 G1 g1 m1 wvs => by
    cases wvs with
    | cons h t =>
      cases t
      cases (show _ = V.ref l from h)
      obtain ⟨_, _, hx, vs, rfl, hd⟩ := m1.on n l _ hl
      refine ⟨l, vs, kvs.map (·.1), rfl, .inl hx, kvD_keys hd, fun ns' t hp hsr ht => ?_⟩
      obtain rfl := hu ns' hp hsr
      obtain ⟨g2, m2, gt, tm⟩ := lay_l (o := .lst (ns'.map V.int)) g1.gs m1 ht
      exact q t _ _ G1 (g1.trans g2) m2 (g1.al _ ht) gt tm upd_same (V_ints ns')⟩
theorem je_update {l : Addr} {n n1 : Nat} {kvs k1 es : List (Int × PyData)} (ha : JE X ρ μ a (.loc l) μ1) (hl1 : μ1[n1]? = some (l, .d k1)) (hb : JN X ρ μ1 b (.d es) μ2) (hl : μ2[n]? = some (l, .d kvs)) (hz : kvs.length + es.length < 100000) (hbase : attributeBase a "update" X.env (eval a X.env) = eval a X.env := by rfl) (hline : (ap.endLine == cp.line) = true := by rfl)
    (hfew : ((backTo cp (starEach [b] X.env)).all (fun x => !x.1) && (backToKw cp (keywordEach [] X.env)).all (fun x => x.1.isSome) && decide (([b] : List Expr).length + ([] : List Keyword).length + (if ([] : List Keyword).isEmpty then 0 else 1) < 30)) = true := by rfl) (ht : backTo cp (starEach [b] X.env) = [(false, eval b X.env)] := by rfl) :
    JE X ρ μ (.Call (.Attribute a "update" ap) [b] [] cp) wn (μ2.set n (l, .d (mergeD kvs es))) :=
  PE.imp (pe_dupd ha hb ⟨hbase, hfew, hline, ht⟩) fun σ H Q ⟨G, S, q⟩ => ⟨G, S, fun x H1 G1 g1 m1 wx => by
    cases (show x = .ref l from wx)
    obtain ⟨_, _, hx1, vs1, rfl, _⟩ := m1.on n1 l _ hl1
    refine ⟨l, rfl, .inl ⟨_, .inl hx1⟩, G1, S.go g1 m1, fun p h H2 G2 g2 m2 hp hp2 hnm hpo ho => ?_⟩
    obtain ⟨_, _, hx, vs, rfl, hd⟩ := m2.on n l _ hl
    obtain ⟨us, rfl, hd2⟩ := ho
    obtain ⟨g4, m4⟩ := mu_putO (o2 := .d (mergeD kvs es)) g2.gs m2 hl ⟨_, rfl, kvD_merge hd2 hd⟩
    refine ⟨p, vs, us, rfl, fun z => hnm (by rw [← z]; exact List.mem_map.mpr ⟨(l, .d kvs), List.mem_of_getElem? hl, rfl⟩), hx, .inl hpo, by rw [kvD_len hd, kvD_len hd2]; exact sz3 (Nat.le_of_lt hz), ?_⟩
    exact q .non _ G2 ((g1.trans g2).trans g4) m4 Dp.non⟩
theorem dropD_none {kvs : List (Int × PyData)} {i : Int} (h : valD kvs i = none) : dropD kvs i = kvs := by
  unfold dropD
  rw [valD_none] at h
  exact List.filter_eq_self.mpr fun q hq => decide_eq_true (h q hq)
theorem je_popN {l : Addr} {n : Nat} {kvs : List (Int × PyData)} (ha : JE X ρ μ a (.loc l) μ) (hb : JE X ρ μ b (wi i) μ) (hc : JE X ρ μ c wn μ) (hl : μ[n]? = some (l, .d kvs)) (hbase : attributeBase a "pop" X.env (eval a X.env) = eval a X.env := by rfl) (hline : (ap.endLine == cp.line) = true := by rfl)
    (hfew : ((backTo cp (starEach [b, c] X.env)).all (fun x => !x.1) && (backToKw cp (keywordEach [] X.env)).all (fun x => x.1.isSome) && decide (([b, c] : List Expr).length + ([] : List Keyword).length + (if ([] : List Keyword).isEmpty then 0 else 1) < 30)) = true := by rfl) (ht : backTo cp (starEach [b, c] X.env) = [(false, eval b X.env), (false, eval c X.env)] := by rfl) :
    JE X ρ μ (.Call (.Attribute a "pop" ap) [b, c] [] cp) (.dat ((valD kvs i).getD .none)) (μ.set n (l, .d (dropD kvs i))) :=
  PE.imp (pe_dpop2 ha hb hc ⟨hbase, hfew, hline, ht⟩) fun σ H Q ⟨G, S, q⟩ => ⟨G, S, fun x H1 G1 g1 m1 wx => by
    cases (show x = .ref l from wx)
    obtain ⟨_, _, hx1, vs1, rfl, _⟩ := m1.on n l _ hl
    refine ⟨l, rfl, .inl ⟨_, .inl hx1⟩, G1, S.go g1 m1, fun y H2 G2 g2 m2 wy => ⟨G2, (S.go g1 m1).go g2 m2, fun z H3 G3 g3 m3 wz => ?_⟩⟩
    obtain ⟨_, _, hx, vs, rfl, hd⟩ := m3.on n l _ hl
    have gg := (g1.trans g2).trans g3
    refine ⟨vs, .inl i, hx, wv_int wy, fun v hv => ?_, fun hv => ?_⟩
    · obtain ⟨g4, m4⟩ := mu_putO (o2 := .d (dropD kvs i)) g3.gs m3 hl ⟨_, rfl, kvD_drop (k := i) hd⟩
      rcases kvD_val i hd with ⟨e1, _⟩ | ⟨v', d', e1, e2, hv'⟩
      · rw [e1] at hv; cases hv
      · rw [e1] at hv
        cases hv
        rw [e2] at q
        exact q v _ G3 (gg.trans g4) m4 hv'
    · rcases kvD_val i hd with ⟨_, e2⟩ | ⟨v', d', e1, e2, hv'⟩
      · rw [dropD_none e2, e2] at q
        rw [show μ.set n (l, OD.d kvs) = μ from List.ext_getElem? fun m => by
          by_cases hm : n = m
          · subst hm; rw [List.getElem?_set_self (List.getElem?_eq_some_iff.mp hl).1, hl]
          · rw [List.getElem?_set_ne hm]] at q
        exact q z H3 G3 gg m3 wz
      · rw [e1] at hv; cases hv⟩
/-- len(set(xs)), distinct ints -/
theorem je_lenSet (C : Fx .calm X N sc k) {ns : List Int} (hm : X.mg "len" = none) (hm2 : X.mg "set" = none) (ha : JE X ρ μ a (.dat (.list (ns.map .int))) μ1) (hn : ns.Nodup) (hz : ns.length ≤ 4000) (hg : sc.names.lookup ("len" : Str) = some .globalImplicit := by rfl) (hg2 : sc.names.lookup ("set" : Str) = some .globalImplicit := by rfl)
    (na : starEach [a] X.env = (false, eval a X.env) :: starEach [] X.env := by rfl) : JE X ρ μ (.Call (.Name "len" p) [.Call (.Name "set" p2) [a] [] q] [] pos) (wi (ns.length : Int)) μ1 :=
  PE.imp (RZ.pe_lenSetI (C.gl hg) hm (C.gl hg2) hm2 ha C.calm na) fun σ H Q ⟨G, S, q⟩ => ⟨G, S, fun x H1 G1 g1 m1 wx => by
    obtain ⟨l, xs, rfl, hs, hd⟩ := wv_lst wx
    obtain rfl := ints_V hd
    exact ⟨l, ns, rfl, g1.gs.seq hs, hn, hz, q _ H1 G1 g1 m1 (Dp.int _)⟩⟩
end
end RB
namespace RB
open PySem PySem.Spec PyProof.Rows L2
/-! ### instances of an own class -/
def putFd (f : Str) (v : PyData) : List (Str × PyData) → List (Str × PyData)
  | [] => [(f, v)]
  | (k, x) :: r => if k = f then (k, v) :: r else (k, x) :: putFd f v r
theorem fsD_get {K : PySem.W.Frag} {G : Hp} {f : Str} {d : PyData} : ∀ {vs : List (Str × V)} {fs : List (Str × PyData)}, FsD K G vs fs → fs.lookup f = some d → ∃ v, vs.lookup f = some v ∧ Dp K G v d
  | [], _, h, e => by cases h; cases e
  | (k, x) :: vs, _, h, e => by
    cases h with
    | @cons _ q _ fs h t =>
      obtain ⟨k', y⟩ := q
      obtain ⟨h1, h2⟩ := h
      cases (show k = k' from h1)
      rw [List.lookup_cons] at e ⊢
      split at e
      · cases e
        exact ⟨x, rfl, h2⟩
      · exact fsD_get t e
theorem fsD_none {K : PySem.W.Frag} {G : Hp} {f : Str} : ∀ {vs : List (Str × V)} {fs : List (Str × PyData)}, FsD K G vs fs → fs.lookup f = none → vs.lookup f = none
  | [], _, h, e => rfl
  | (k, x) :: vs, _, h, e => by
    cases h with
    | @cons _ q _ fs h t =>
      obtain ⟨k', y⟩ := q
      obtain ⟨h1, h2⟩ := h
      cases (show k = k' from h1)
      rw [List.lookup_cons] at e ⊢
      split at e
      · cases e
      · exact fsD_none t e
theorem fsD_put {K : PySem.W.Frag} {G : Hp} {f : Str} {v : V} {d : PyData} (hv : Dp K G v d) : ∀ {vs : List (Str × V)} {fs : List (Str × PyData)}, FsD K G vs fs → FsD K G (putF f v vs) (putFd f d fs)
  | [], _, h => by cases h; exact .cons ⟨rfl, hv⟩ .nil
  | (k, x) :: vs, _, h => by
    cases h with
    | @cons _ q _ fs h t =>
      obtain ⟨k', y⟩ := q
      obtain ⟨h1, h2⟩ := h
      cases (show k = k' from h1)
      show FsD K G (if k = f then (k, v) :: vs else (k, x) :: putF f v vs) (if k = f then (k, d) :: fs else (k, y) :: putFd f d fs)
      split
      · exact .cons ⟨rfl, hv⟩ t
      · exact .cons ⟨rfl, h2⟩ (fsD_put hv t)
theorem fsD_len {K : PySem.W.Frag} {G : Hp} {vs : List (Str × V)} {fs : List (Str × PyData)} (h : FsD K G vs fs) : vs.length = fs.length := Paired.length h
/-- a method of the class at C: what it gives, what it changes -/
structure MetC (P : Program) (w : World) (K : PySem.W.Frag) (mg : Str → Option Value) (base : Heap) (k : Nat) (C : Addr) (m : Str) (R : List W → Mu → W → Mu → Prop) : Prop where
  ex : ∃ (f : Addr) (fd : FuncData) (ps : List Str), FnOk P w K mg base (L2N.CX P w) k f fd ps (SpX K R noX) ∧ Meth K C m f ∧ Binds K fd ps []
def MetAt (K : PySem.W.Frag) (C : Addr) (m qual : Str) (st : Stmt) (ps : List Str) : Prop := ∃ f fd, Fun K m qual st f fd ∧ Meth K C m f ∧ Binds K fd ps []
/-- .. its __init__ -/
structure MakC (P : Program) (w : World) (K : PySem.W.Frag) (mg : Str → Option Value) (base : Heap) (k : Nat) (C : Addr) (R : List W → Mu → W → Mu → Prop) : Prop where
  ex : ∃ (f : Addr) (fd : FuncData) (ps : List Str), FnOk P w K mg base (L2N.CX P w) k f fd ps (SpX K R noX) ∧ Mk K C f ∧ Binds K fd ps []
def MakAt (K : PySem.W.Frag) (C : Addr) (qual : Str) (st : Stmt) (ps : List Str) : Prop := ∃ f fd, Fun K "__init__" qual st f fd ∧ Mk K C f ∧ Binds K fd ps []
theorem fn_met {P : Program} {wd : World} {K : PySem.W.Frag} {mg : Str → Option Value} {base : Heap} {x qual : Str} {st : Stmt} {f : Addr} {fd : FuncData} {N ps : List Str} {k : Nat} {R : List W → Mu → W → Mu → Prop} (F : Fun K x qual st f fd) (S : FnScope N ps (defScope st))
    (hl : ∀ ws μ w μ', R ws μ w μ' → ws.length = ps.length)
    (body : ∀ X : Cx, IsEnv X P wd K mg base → Fb .calm X N (defScope st) k → ∀ ws μ w μ', R ws μ w μ' →
      JSs X (ws.map some ++ List.replicate (N.length - ws.length) none) μ (defBody st) (fun o => o = .rt w μ' ∨ (w = wn ∧ ∃ ρ', o = .nx ρ' μ'))) : FnOk P wd K mg base (L2N.CX P wd) (k + 1) f fd ps (SpX K R noX) := by
  have len : ∀ vs H Q E, SpX K R noX vs H Q E → vs.length = ps.length := fun vs H Q E h => by
    rcases h with ⟨G, μ, ws, w, μ', _, _, wvs, hR, _⟩ | ⟨G, μ, ws, c, μ', _, _, wvs, hR, _⟩
    · rw [wvs_len wvs]; exact hl _ _ _ _ hR
    · exact hR.elim
  have go : ∀ (X : Cx) (H : Hp) (vs : List V) (Q : VK) (E : XK), X.K = K → TakesX X (fun cls d _ H => E cls d H) → IsEnv X P wd K mg base → Fb .calm X N (defScope st) k → SpX K R noX vs H Q E → ∃ t, PSs X (defBody st) t ∧ t { nx := fun _ H' => Q .non H', rt := Q } (L2.start N vs) H := fun X H vs Q E hK tk en C h => by
    subst hK
    rcases h with ⟨G, μ, ws, w, μ', gh, m, wvs, hR, q⟩ | ⟨G, μ, ws, c, μ', gh, m, wvs, hR, q⟩
    · exact ⟨_, body X en C ws μ w μ' hR _ tk, G, st_start gh m wvs, wants_end q⟩
    · exact hR.elim
  obtain ⟨oc, od, kV, doc, pm, an, cdv, ct, osl, rfl, lk, hcd⟩ := F.ex
  exact fn_of lk hcd S len fun A outer s H vs Q E hr hsp => go (cxOf (L2N.CX P wd) P wd K mg base N qual (defScope st) f cdv A outer s H E) H vs Q E rfl ⟨fun _ => L2N.takes_of rfl rfl rfl rfl, fun z => Bool.noConfusion (show true = false from z)⟩ ⟨rfl, rfl, rfl, rfl, rfl⟩ ⟨⟨rfl, rfl, S.nd, L2H.roomH_of hr, fun _ => ⟨rfl, hr⟩, fun z => Md.noConfusion z⟩, fun _ => rfl, L2.passes_of rfl, rfl, rfl⟩ hsp
theorem met_at {P : Program} {wd : World} {K : PySem.W.Frag} {mg : Str → Option Value} {base : Heap} {C : Addr} {m qual : Str} {st : Stmt} {N ps : List Str} {k : Nat} {R : List W → Mu → W → Mu → Prop} (A : MetAt K C m qual st ps) (S : FnScope N ps (defScope st))
    (hl : ∀ ws μ w μ', R ws μ w μ' → ws.length = ps.length)
    (body : ∀ X : Cx, IsEnv X P wd K mg base → Fb .calm X N (defScope st) k → ∀ ws μ w μ', R ws μ w μ' →
      JSs X (ws.map some ++ List.replicate (N.length - ws.length) none) μ (defBody st) (fun o => o = .rt w μ' ∨ (w = wn ∧ ∃ ρ', o = .nx ρ' μ'))) : MetC P wd K mg base (k + 1) C m R := by
  obtain ⟨f, fd, F, hm, b⟩ := A
  exact ⟨f, fd, ps, fn_met F S hl body, hm, b⟩
theorem mak_at {P : Program} {wd : World} {K : PySem.W.Frag} {mg : Str → Option Value} {base : Heap} {C : Addr} {qual : Str} {st : Stmt} {N ps : List Str} {k : Nat} {R : List W → Mu → W → Mu → Prop} (A : MakAt K C qual st ps) (S : FnScope N ps (defScope st))
    (hl : ∀ ws μ w μ', R ws μ w μ' → ws.length = ps.length)
    (body : ∀ X : Cx, IsEnv X P wd K mg base → Fb .calm X N (defScope st) k → ∀ ws μ w μ', R ws μ w μ' →
      JSs X (ws.map some ++ List.replicate (N.length - ws.length) none) μ (defBody st) (fun o => o = .rt w μ' ∨ (w = wn ∧ ∃ ρ', o = .nx ρ' μ'))) : MakC P wd K mg base (k + 1) C R := by
  obtain ⟨f, fd, F, hm, b⟩ := A
  exact ⟨f, fd, ps, fn_met F S hl body, hm, b⟩
theorem MetC.here {P : Program} {wd : World} {K : PySem.W.Frag} {mg : Str → Option Value} {base : Heap} {k : Nat} {C : Addr} {m : Str} {R : List W → Mu → W → Mu → Prop} {X : Cx} (h : MetC P wd K mg base k C m R) (E : IsEnv X P wd K mg base) : MetC X.prog X.w X.K X.mg X.base k C m R := by
  rw [E.p, E.w, E.K, E.m, E.b]; exact h
theorem MakC.here {P : Program} {wd : World} {K : PySem.W.Frag} {mg : Str → Option Value} {base : Heap} {k : Nat} {C : Addr} {R : List W → Mu → W → Mu → Prop} {X : Cx} (h : MakC P wd K mg base k C R) (E : IsEnv X P wd K mg base) : MakC X.prog X.w X.K X.mg X.base k C R := by
  rw [E.p, E.w, E.K, E.m, E.b]; exact h
/-- a new owned object -/
theorem go_ownO {K : PySem.W.Frag} {H G : Hp} {μ : Mu} {p : Addr} {h : HO} {o : OD} (gh : Same G H) (m : MuOk K H G μ) (hp : H p = none) (ho : OOk K G h o) : Go H G μ (upd H p h) G ((p, o) :: μ) ∧ MuOk K (upd H p h) G ((p, o) :: μ) := by
  obtain ⟨g, m2, gp, pm⟩ := lay_l (o := h) gh m hp
  refine ⟨⟨g.fr, g.gx, g.gs, g.nw, fun a ha => ?_, g.al⟩, ⟨fun n a o' e => ?_, by rw [List.map_cons]; exact List.nodup_cons.mpr ⟨pm, m.nd⟩⟩⟩
  · rw [List.map_cons] at ha
    rcases List.mem_cons.mp ha with z | z
    · exact .inr (by rw [z]; exact hp)
    · exact .inl z
  · cases n with
    | zero => cases e; exact ⟨gp, h, upd_same, ho⟩
    | succ n => exact m2.on n a o' e
section
variable {md : Md} {X : Cx} {N : List Str} {sc : Scope} {k : Nat} {ρ ρ1 : Rho} {μ μ1 μ2 μ3 μ' : Mu} {w wa wb' : W} {a b c e elt : Expr} {es ifs : List Expr} {pos p p2 p3 cp ap : Pos} {d d2 : PyData} {ds es2 : List PyData} {i : Int} {b1 b2 : Bool} {scope : Scope}
theorem blk_turnW {K : PySem.W.Frag} {σ : L2.St} {j n : Nat} {D : Addr} {H1 G1 H : Hp} {y : V} {wy : W} {f : Nat → Bool} {v : Nat → PyData} {tt : TT} {te : TE} (B : Blk K σ ρ μ j (gv f v n) D H1 G1 H) (hn : n < 100000) (hy : WV K G1 y wy)
    (ht : ∀ σ H Q, rdT K ((ρ.set j none).set j (some wy)) μ (f n) μ σ H Q → tt σ H Q) (he : f n = true → ∀ σ H Q, rdE K ((ρ.set j none).set j (some wy)) μ (.dat (v n)) μ σ H Q → te σ H Q) :
    tt ((wipe σ [j]).set j (some y)) H fun b H3 => if b = true then te ((wipe σ [j]).set j (some y)) H3 fun z H4 => ∃ acc, H4 D = some (.lst acc) ∧ acc.length < sizeLine ∧ Blk K σ ρ μ j (gv f v (n + 1)) D H1 G1 (upd H4 D (.lst (acc ++ [z]))) else Blk K σ ρ μ j (gv f v (n + 1)) D H1 G1 H3 := by
  obtain ⟨G, xs, S, g, h0, hG, hD, hx, hd⟩ := B.ex
  have S2 : StOk K ((wipe σ [j]).set j (some y)) H G ((ρ.set j none).set j (some wy)) μ := S.set j (hy.same g.gx)
  refine ht _ _ _ ⟨G, S2, fun H3 G3 g3 m3 => ?_⟩
  have nwD : ∀ {H' G' : Hp}, Go H G μ H' G' μ → H' D = some (.lst xs) ∧ G' D = none := fun {H' G'} g' => ⟨g'.fr D _ hx hD, by
    cases e : G' D with
    | none => rfl
    | some o =>
      rcases g'.nw D o e with z | z | z
      · rw [hG] at z; cases z
      · rw [hx] at z; cases z
      · exact absurd z hD⟩
  cases hf : f n with
  | true =>
    show te _ H3 _
    refine he hf _ _ _ ⟨G3, S2.go g3 m3, fun z H4 G4 g4 m4 wz => ?_⟩
    have g34 := g3.trans g4
    obtain ⟨q1, q2⟩ := nwD g34
    have hd4 : DpAll K G4 xs (gv f v n) := dpAll_same g34.gx _ _ hd
    refine ⟨xs, q1, by rw [dpAll_len hd4]; exact sz3l (Nat.lt_of_le_of_lt (gv_len f v n) hn), ⟨G4, xs ++ [z], ?_, ?_, h0, q2, hD, upd_same, ?_⟩⟩
    · have gsU : Same G4 (upd H4 D (.lst (xs ++ [z]))) := fun b o e => by rw [upd_ne (ne_of_none e q2)]; exact g4.gs _ _ e
      refine ⟨gsU, fun i w e => ?_, S.ln, ⟨fun i b fs e => ?_, m4.nd⟩⟩
      · obtain ⟨v', h1, h2⟩ := S.sv i w e
        exact ⟨v', h1, h2.same g34.gx⟩
      · obtain ⟨h1, zs, h2, h3⟩ := m4.on i b fs e
        have hb : b ≠ D := fun z => hD (by rw [← z]; exact List.mem_map.mpr ⟨(b, fs), List.mem_of_getElem? e, rfl⟩)
        exact ⟨h1, zs, by rw [upd_ne hb]; exact h2, h3⟩
    · have gt := g.trans g34
      refine ⟨fun b o e nm => ?_, gt.gx, fun b o e => ?_, gt.nw, gt.dm, fun b e => ?_⟩
      · rw [upd_ne (ne_of_none e h0)]; exact gt.fr b o e nm
      · rw [upd_ne (ne_of_none e q2)]; exact gt.gs _ _ e
      · by_cases hb : b = D
        · subst hb; exact h0
        · rw [upd_ne hb] at e; exact gt.al b e
    · unfold gv
      rw [if_pos hf]
      exact dpAll_app hd4 (.cons wz .nil)
  | false =>
    show Blk K σ ρ μ j (gv f v (n + 1)) D H1 G1 H3
    obtain ⟨q1, q2⟩ := nwD g3
    refine ⟨G3, xs, S.go g3 m3, g.trans g3, h0, q2, hD, q1, ?_⟩
    unfold gv
    rw [if_neg (by rw [hf]; exact Bool.false_ne_true)]
    exact dpAll_same g3.gx _ _ hd
abbrev tRf (X : Cx) (ρ : Rho) (μ1 : Mu) (j : Nat) (f : Nat → Bool) (as : List Addr) : TT := fun σ H Q => ∃ n a, as[n]? = some a ∧ rdT X.K ((ρ.set j none).set j (some (.loc a))) μ1 (f n) μ1 σ H Q
abbrev eRf (X : Cx) (ρ : Rho) (μ1 : Mu) (j : Nat) (f : Nat → Bool) (v : Nat → PyData) (as : List Addr) : TE := fun σ H Q => ∃ n a, as[n]? = some a ∧ f n = true ∧ rdE X.K ((ρ.set j none).set j (some (.loc a))) μ1 (.dat (v n)) μ1 σ H Q
theorem rd_compRf {j q : Nat} {l : Addr} {as : List Addr} {f : Nat → Bool} {v : Nat → PyData} (hl : μ1[q]? = some (l, .r as)) (h1 : as.length ≤ 100000) (σ : L2.St) (H : Hp) (Q : VK) (h : rdL X.K ρ μ (gv f v as.length) μ1 σ H Q) :
    tLc (iList X.K (rdE X.K ρ μ (.loc l) μ1)) (gName j) (tRf X ρ μ1 j f as) (eRf X ρ μ1 j f v as) [j] σ H Q := by
  obtain ⟨G, S, q1⟩ := h
  refine ⟨G, S, fun vv H1 G1 g1 m1 wv => ?_⟩
  cases (show vv = .ref l from wv)
  obtain ⟨_, _, hx, rfl⟩ := m1.on q l _ hl
  have S1 := S.go g1 m1
  refine ⟨l, rfl, ⟨as.map V.ref, SqL.of hx⟩, fun D hD => lc_list (K := X.K) (a := l) (xs := as.map V.ref) (g := gName j) (vs := [j]) (σ := σ) (Qd := fun H => Q (V.ref D) H) (tt := tRf X ρ μ1 j f as) (te := eRf X ρ μ1 j f v as) (fun n H => Blk X.K σ ρ μ1 j (gv f v n) D H1 G1 H) (blk_start S1 hD) (fun n H' _ B => ?_) (fun n y H' hy B => ?_) fun H' B => ?_⟩
  · obtain ⟨G, xs, S2, g, _⟩ := B.ex
    obtain ⟨_, _, hx2, rfl⟩ := S2.mu.on q l _ hl
    exact SqL.of hx2
  · rw [List.getElem?_map] at hy
    cases e1 : as[n]? with
    | none => rw [e1] at hy; cases hy
    | some a =>
      rw [e1] at hy
      cases hy
      have hn : n < as.length := (List.getElem?_eq_some_iff.mp e1).1
      exact ⟨wipe1 _, blk_turnW (wy := .loc a) (tt := tRf X ρ μ1 j f as) (te := eRf X ρ μ1 j f v as) B (by omega) rfl (fun σ H Q q => ⟨n, a, e1, q⟩) (fun hf σ H Q q => ⟨n, a, e1, hf, q⟩)⟩
  · obtain ⟨G, xs, S2, g, h0', hG, hD', hx2, hd⟩ := B.ex
    rw [List.length_map] at hd
    exact q1 D xs H' G (g1.trans g) S2.mu (g1.al D h0') hG hD' hx2 hd
/-- [elt for x in an owned list of objects if ..] -/
theorem jl_compRf (C : Fx .calm X N sc k) (j q : Nat) {x : Str} {l : Addr} {as : List Addr} (f : Nat → Bool) (v : Nat → PyData) (ha : JE X ρ μ a (.loc l) μ1) (hl : μ1[q]? = some (l, .r as)) (h1 : as.length ≤ 100000)
    (hb : blkC N sc scope [(x, j)] = true) (hN : N[j]? = some x) (hx : (relab scope sc).names.lookup x = some .local)
    (ht : ∀ (Y : Cx) (n : Nat) (p : Addr), Fx .calm Y N (relab scope sc) k → SameEnv X Y → as[n]? = some p → JTs Y ((ρ.set j none).set j (some (.loc p))) μ1 ifs (f n) μ1)
    (he : ∀ (Y : Cx) (n : Nat) (p : Addr), Fx .calm Y N (relab scope sc) k → SameEnv X Y → as[n]? = some p → f n = true → JE Y ((ρ.set j none).set j (some (.loc p))) μ1 elt (.dat (v n)) μ1)
    (hfs : ∀ x, foldedSetIterable a X.env x = pure x := by intro _; rfl) :
    JL X ρ μ (.ListComp elt [⟨.Name x p, a, ifs, 0⟩] scope pos) (gv f v as.length) μ1 :=
  PE.imp (pe_lc (own := [(x, j)]) (g := gName j) (tt := tRf X ρ μ1 j f as) (te := eRf X ρ μ1 j f v as)
    C.calm (by rw [C.n]; exact C.nd) (pi_list ha) (by rw [C.n, C.s]; exact blkOk_by hb)
    (fun s H Cc cl fp => pg_name (i := j) (by rw [(blk_fx C s H Cc cl fp).1.n]; exact C.nd) (by rw [(blk_fx C s H Cc cl fp).1.n]; exact hN) (by rw [(blk_fx C s H Cc cl fp).1.s]; exact .inl hx) (.inr (by rw [(blk_fx C s H Cc cl fp).1.s]; exact hx)))
    (fun s H Cc cl fp => ⟨fun pins s' σ H' Q I ⟨n, d, hn, q⟩ => (ht _ n d (blk_fx C s H Cc cl fp).1 (blk_fx C s H Cc cl fp).2 hn).run pins s' σ H' Q I q⟩)
    (fun s H Cc cl fp => ⟨fun pins s' σ H' Q I ⟨n, d, hn, hf, q⟩ => (he _ n d (blk_fx C s H Cc cl fp).1 (blk_fx C s H Cc cl fp).2 hn hf).run pins s' σ H' Q I q⟩) hfs) fun σ H Q h => rd_compRf hl h1 σ H Q h
end
section
variable {md : Md} {X : Cx} {N : List Str} {sc : Scope} {k : Nat} {ρ : Rho} {μ μ1 μ2 μ3 : Mu} {a b c e e1 e2 e3 o : Expr} {es : List Expr} {pos p p2 p3 p' ap cp tpos : Pos} {w : W} {ws : List W} {ds : List PyData} {d : PyData} {i j : Int} {Φ : Out → Prop} {rest : List Stmt} {Cl dx ad : Addr} {fs f1 f2 f3 : List (Str × PyData)} {f m x : Str} {b1 b2 : Bool} {R : List W → Mu → W → Mu → Prop}
/-- o.f -/
theorem je_fldI {n : Nat} (c : Cls X.K Cl) (na : NoAttr X.K Cl f) (ho : JE X ρ μ o (.loc ad) μ1) (hl : μ1[n]? = some (ad, .i Cl dx fs)) (e : fs.lookup f = some d) (hb : attributeBase o f X.env (eval o X.env) = eval o X.env := by rfl) : JE X ρ μ (.Attribute o f pos) (.dat d) μ1 :=
  PE.imp (pe_fld ho hb) fun σ H Q ⟨G, S, q⟩ => ⟨G, S, fun y H1 G1 g1 m1 wy => by
    cases (show y = .ref ad from wy)
    obtain ⟨_, _, hx, vs, rfl, hd⟩ := m1.on n ad _ hl
    obtain ⟨v, h1, h2⟩ := fsD_get hd e
    exact ⟨ad, Cl, dx, vs, v, rfl, hx, c, na, h1, q v H1 G1 g1 m1 h2⟩⟩
/-- o.f = e -/
theorem js_fldS {n : Nat} (c : Cls X.K Cl) (na : NoAttr X.K Cl f) (hv : JE X ρ μ e (.dat d) μ1) (ho : JE X ρ μ1 o (.loc ad) μ2) (hl : μ2[n]? = some (ad, .i Cl dx fs)) (hz : fs.length < 1000) (h : Φ (.nx ρ (μ2.set n (ad, .i Cl dx (putFd f d fs)))))
    (hs : swapsWith e (some (.Attribute o f p')) pos.line X.env = pure false := by rfl) : JS X ρ μ (.Assign [.Attribute o f p'] e pos) Φ :=
  fun Wx tk => PS.imp (ps_fld ho hv hs) fun D σ H ⟨G, S, Wn⟩ => ⟨G, S, fun v H1 G1 g1 m1 wv => ⟨G1, S.go g1 m1, fun y H2 G2 g2 m2 wy => by
    cases (show y = .ref ad from wy)
    obtain ⟨_, _, hx, vs, rfl, hd⟩ := m2.on n ad _ hl
    have hv' : Dp X.K G2 v d := dp_same g2.gx _ _ wv
    obtain ⟨g4, m4⟩ := mu_putO (o2 := .i Cl dx (putFd f d fs)) g2.gs m2 hl ⟨_, rfl, fsD_put hv' hd⟩
    have gg := (g1.trans g2).trans g4
    exact ⟨ad, Cl, dx, vs, rfl, hx, c, na, by rw [fsD_len hd]; exact hz, Wn.nx _ _ σ _ G2 h gg (S.go gg m4)⟩⟩⟩
theorem jss_fldS {n : Nat} (c : Cls X.K Cl) (na : NoAttr X.K Cl f) (hv : JE X ρ μ e (.dat d) μ1) (ho : JE X ρ μ1 o (.loc ad) μ2) (hl : μ2[n]? = some (ad, .i Cl dx fs)) (hz : fs.length < 1000) (h : JSs X ρ (μ2.set n (ad, .i Cl dx (putFd f d fs))) rest Φ)
    (hs : swapsWith e (some (.Attribute o f p')) pos.line X.env = pure false := by rfl) : JSs X ρ μ (.Assign [.Attribute o f p'] e pos :: rest) Φ := jss_cons (js_fldS c na hv ho hl hz h hs)
/-- o.f += e -/
theorem js_fldAdd {n : Nat} (c : Cls X.K Cl) (na : NoAttr X.K Cl f) (ho : JE X ρ μ o (.loc ad) μ1) (hl : μ1[n]? = some (ad, .i Cl dx fs)) (e0 : fs.lookup f = some (.int i)) (hv : JE X ρ μ1 e (wi j) μ1) (hz : fs.length < 1000) (h : Φ (.nx ρ (μ1.set n (ad, .i Cl dx (putFd f (.int (i + j)) fs))))) : JS X ρ μ (.AugAssign (.Attribute o f tpos) .Add e pos) Φ :=
  fun Wx tk => PS.imp (ps_fldaug ho hv in_add) fun D σ H ⟨G, S, Wn⟩ => ⟨G, S, fun y H1 G1 g1 m1 wy => by
    cases (show y = .ref ad from wy)
    obtain ⟨_, _, hx, vs, rfl, hd⟩ := m1.on n ad _ hl
    obtain ⟨v, h1, h2⟩ := fsD_get hd e0
    cases h2
    refine ⟨ad, Cl, dx, vs, _, rfl, hx, c, na, h1, G1, S.go g1 m1, fun z H2 G2 g2 m2 wz => ?_⟩
    obtain ⟨_, _, hx2, vs2, rfl, hd2⟩ := m2.on n ad _ hl
    obtain ⟨g4, m4⟩ := mu_putO (o2 := .i Cl dx (putFd f (.int (i + j)) fs)) g2.gs m2 hl ⟨_, rfl, fsD_put (Dp.int (i + j)) hd2⟩
    have gg := (g1.trans g2).trans g4
    exact ⟨i, j, rfl, wv_int wz, dx, vs2, hx2, by rw [fsD_len hd2]; exact hz, Wn.nx _ _ σ _ G2 h gg (S.go gg m4)⟩⟩
theorem js_fldSub {n : Nat} (c : Cls X.K Cl) (na : NoAttr X.K Cl f) (ho : JE X ρ μ o (.loc ad) μ1) (hl : μ1[n]? = some (ad, .i Cl dx fs)) (e0 : fs.lookup f = some (.int i)) (hv : JE X ρ μ1 e (wi j) μ1) (hz : fs.length < 1000) (h : Φ (.nx ρ (μ1.set n (ad, .i Cl dx (putFd f (.int (i - j)) fs))))) : JS X ρ μ (.AugAssign (.Attribute o f tpos) .Sub e pos) Φ :=
  fun Wx tk => PS.imp (ps_fldaug ho hv in_sub) fun D σ H ⟨G, S, Wn⟩ => ⟨G, S, fun y H1 G1 g1 m1 wy => by
    cases (show y = .ref ad from wy)
    obtain ⟨_, _, hx, vs, rfl, hd⟩ := m1.on n ad _ hl
    obtain ⟨v, h1, h2⟩ := fsD_get hd e0
    cases h2
    refine ⟨ad, Cl, dx, vs, _, rfl, hx, c, na, h1, G1, S.go g1 m1, fun z H2 G2 g2 m2 wz => ?_⟩
    obtain ⟨_, _, hx2, vs2, rfl, hd2⟩ := m2.on n ad _ hl
    obtain ⟨g4, m4⟩ := mu_putO (o2 := .i Cl dx (putFd f (.int (i - j)) fs)) g2.gs m2 hl ⟨_, rfl, fsD_put (Dp.int (i - j)) hd2⟩
    have gg := (g1.trans g2).trans g4
    exact ⟨i, j, rfl, wv_int wz, dx, vs2, hx2, by rw [fsD_len hd2]; exact hz, Wn.nx _ _ σ _ G2 h gg (S.go gg m4)⟩⟩
theorem jss_fldAdd {n : Nat} (c : Cls X.K Cl) (na : NoAttr X.K Cl f) (ho : JE X ρ μ o (.loc ad) μ1) (hl : μ1[n]? = some (ad, .i Cl dx fs)) (e0 : fs.lookup f = some (.int i)) (hv : JE X ρ μ1 e (wi j) μ1) (hz : fs.length < 1000) (h : JSs X ρ (μ1.set n (ad, .i Cl dx (putFd f (.int (i + j)) fs))) rest Φ) : JSs X ρ μ (.AugAssign (.Attribute o f tpos) .Add e pos :: rest) Φ := jss_cons (js_fldAdd c na ho hl e0 hv hz h)
theorem jss_fldSub {n : Nat} (c : Cls X.K Cl) (na : NoAttr X.K Cl f) (ho : JE X ρ μ o (.loc ad) μ1) (hl : μ1[n]? = some (ad, .i Cl dx fs)) (e0 : fs.lookup f = some (.int i)) (hv : JE X ρ μ1 e (wi j) μ1) (hz : fs.length < 1000) (h : JSs X ρ (μ1.set n (ad, .i Cl dx (putFd f (.int (i - j)) fs))) rest Φ) : JSs X ρ μ (.AugAssign (.Attribute o f tpos) .Sub e pos :: rest) Φ := jss_cons (js_fldSub c na ho hl e0 hv hz h)
/-- o.m(e, ..) -/
theorem je_meth (C : Fx .calm X N sc k) {kk n : Nat} (c : Cls X.K Cl) (F : MetC X.prog X.w X.K X.mg X.base kk Cl m R) (ho : JE X ρ μ o (.loc ad) μ1) (hl : μ1[n]? = some (ad, .i Cl dx fs)) (hno : fs.lookup m = none) (ha : JA X ρ μ1 (e :: es) ws μ2) (hR : R (.loc ad :: ws) μ2 w μ3) (hk : kk ≤ k := by omega)
    (hst : starEach (e :: es) X.env = (false, eval e X.env) :: starEach es X.env := by rfl) (hpl : (backTo pos (starEach es X.env)).any (·.1) = false := by rfl) {pl : Sem Bool}
    (ht : eval (.Call (.Attribute o m ap) (e :: es) [] pos) X.env = (do
      let ov ← eval o X.env
      standAt ap.atName
      let (f, first) ← holding [ov] (getMethod ov m pl)
      callWith pos f first (backTo pos (starEach (e :: es) X.env)) (backToKw pos (keywordEach [] X.env))) := by rfl) : JE X ρ μ (.Call (.Attribute o m ap) (e :: es) [] pos) w μ3 := by
  obtain ⟨g, fd, ps, F, hm, b⟩ := F.ex
  exact PE.imp (pe_meth (E := fun _ _ _ => False) ho c hm F (C.roomC.mono hk) b .nil (fun pins σ => passN0 σ pins) ha hst hpl ht) fun σ H Q ⟨G, S, q⟩ => ⟨G, S, fun y H1 G1 g1 m1 wy => by
    cases (show y = .ref ad from wy)
    obtain ⟨_, _, hx, vs, rfl, hd⟩ := m1.on n ad _ hl
    refine ⟨ad, dx, vs, rfl, hx, fsD_none hd hno, G1, S.go g1 m1, fun us H2 G2 g2 m2 wvs => ?_⟩
    show SpX X.K R noX (V.ref ad :: (us ++ [])) H2 Q fun _ _ _ => False
    rw [List.append_nil]
    exact .inl ⟨G2, μ2, .loc ad :: ws, w, μ3, g2.gs, m2, .cons rfl wvs, hR, fun v H3 G3 g3 m3 wv => q v H3 G3 ((g1.trans g2).trans g3) m3 wv⟩⟩
/-- o.m() -/
theorem je_meth0 (C : Fx .calm X N sc k) {kk n : Nat} (c : Cls X.K Cl) (F : MetC X.prog X.w X.K X.mg X.base kk Cl m R) (ho : JE X ρ μ o (.loc ad) μ1) (hl : μ1[n]? = some (ad, .i Cl dx fs)) (hno : fs.lookup m = none) (hR : R [.loc ad] μ1 w μ3) (hk : kk ≤ k := by omega) {pl : Sem Bool}
    (ht : eval (.Call (.Attribute o m ap) [] [] pos) X.env = (do
      let ov ← eval o X.env
      standAt ap.atName
      let (f, first) ← holding [ov] (getMethod ov m pl)
      callWith pos f first (backTo pos (starEach [] X.env)) (backToKw pos (keywordEach [] X.env))) := by rfl) : JE X ρ μ (.Call (.Attribute o m ap) [] [] pos) w μ3 := by
  obtain ⟨g, fd, ps, F, hm, b⟩ := F.ex
  exact PE.imp (pe_meth0 (E := fun _ _ _ => False) ho c hm F (C.roomC.mono hk) b .nil (fun pins σ => passN0 σ pins) ht) fun σ H Q ⟨G, S, q⟩ => ⟨G, S, fun y H1 G1 g1 m1 wy => by
    cases (show y = .ref ad from wy)
    obtain ⟨_, _, hx, vs, rfl, hd⟩ := m1.on n ad _ hl
    exact ⟨ad, dx, vs, rfl, hx, fsD_none hd hno, .inl ⟨G1, μ1, [.loc ad], w, μ3, g1.gs, m1, .cons rfl .nil, hR, fun v H3 G3 g3 m3 wv => q v H3 G3 (g1.trans g3) m3 wv⟩⟩⟩
/-- C(e, ..) -/
def rdM (K : PySem.W.Frag) (ρ : Rho) (μ : Mu) (Cl : Addr) (fs : List (Str × PyData)) : TE := fun σ H Q => ∃ G, StOk K σ H G ρ μ ∧ ∀ p dx H' G', Go H G μ H' G' ((p, OD.i Cl dx fs) :: (dx, OD.o p) :: μ) → MuOk K H' G' ((p, OD.i Cl dx fs) :: (dx, OD.o p) :: μ) → Q (.ref p) H'
def JM (X : Cx) (ρ : Rho) (e : Expr) (Cl : Addr) (fs : List (Str × PyData)) : Prop := ∀ μ, PE X e (rdM X.K ρ μ Cl fs)
theorem jm_make (C : Fx .calm X N sc k) {kk : Nat} (F : MakC X.prog X.w X.K X.mg X.base kk Cl R) (hm : X.mg x = some (.ref Cl)) (ha : ∀ μ, JA X ρ μ (e :: es) ws μ) (hR : ∀ p dx μ, R (.loc p :: ws) ((p, .i Cl dx []) :: (dx, .o p) :: μ) wn ((p, .i Cl dx fs) :: (dx, .o p) :: μ)) (hk : kk + 1 ≤ k := by omega) (hg : sc.names.lookup x = some .globalImplicit := by rfl)
    (hdb : (x == ("__debug__" : Str)) = false := by decide) (he : starEach (e :: es) X.env = (false, eval e X.env) :: starEach es X.env := by rfl) (hpl : (backTo pos (starEach es X.env)).any (·.1) = false := by rfl) : JM X ρ (.Call (.Name x p) (e :: es) [] pos) Cl fs := fun μ => by
  obtain ⟨g, fd, ps, F, M, b⟩ := F.ex
  exact PE.imp (pe_make (E := fun _ _ _ => False) M F (C.roomC.mono hk) (C.gl hg) hm b .nil (fun pins σ => passN0 σ pins) (ha μ) hdb he hpl) fun σ H Q ⟨G, S, q⟩ => ⟨G, S, fun us H1 G1 g1 m1 wvs => fun y dy hy hdy hne => by
    obtain ⟨g2, m2⟩ := go_ownO (o := .o y) (h := .own y) g1.gs m1 hdy rfl
    have hy2 : upd H1 dy (.own y) y = none := by rw [upd_ne (Ne.symm hne)]; exact hy
    obtain ⟨g3, m3⟩ := go_ownO (o := .i Cl dy []) (h := .ins Cl dy []) g2.gs m2 hy2 ⟨[], rfl, .nil⟩
    show SpX X.K R noX (V.ref y :: (us ++ [])) _ _ fun _ _ _ => False
    rw [List.append_nil]
    refine .inl ⟨G1, _, .loc y :: ws, wn, _, g3.gs, m3, .cons rfl wvs, hR y dy μ, fun v H4 G4 g4 m4 wv => ⟨?_, q y dy H4 G4 (((g1.trans g2).trans g3).trans g4) m4⟩⟩
    cases (show Dp X.K G4 v .none from wv)
    rfl⟩
def rdMx (K : PySem.W.Frag) (ρ : Rho) (Cl : Addr) (fs : List (Str × PyData)) : TE := fun σ H Q => ∃ μ, rdM K ρ μ Cl fs σ H Q
theorem pe_any (h : JM X ρ e Cl fs) : PE X e (rdMx X.K ρ Cl fs) := ⟨fun pins s σ H Q I ⟨μ, q⟩ => (h μ).run pins s σ H Q I q⟩
def rdEx (K : PySem.W.Frag) (ρ : Rho) (w : W) : TE := fun σ H Q => ∃ μ, rdE K ρ μ w μ σ H Q
theorem pe_anyE (h : ∀ μ, JE X ρ μ e w μ) : PE X e (rdEx X.K ρ w) := ⟨fun pins s σ H Q I ⟨μ, q⟩ => (h μ).run pins s σ H Q I q⟩
/-- x = [C(..), C(..), C(..)] -/
theorem jss_asgR3 (C : Fb md X N sc k) (n : Nat) {y : Str} (h1 : JM X ρ e1 Cl f1) (h2 : JM X ρ e2 Cl f2) (h3 : JM X ρ e3 Cl f3)
    (f : ∀ l p1 d1 p2 d2 p3 d3, JSs X (ρ.set n (some (.loc l))) ((l, .r [p1, p2, p3]) :: (p3, .i Cl d3 f3) :: (d3, .o p3) :: (p2, .i Cl d2 f2) :: (d2, .o p2) :: (p1, .i Cl d1 f1) :: (d1, .o p1) :: μ) rest Φ) (hN : N[n]? = some y := by rfl) (hv : Loc sc y := by first | exact Or.inl rfl | exact Or.inr rfl)
    (hs : swapsWithSole [Expr.Name y p] (.List [e1, e2, e3] p2) pos.line X.env = pure false := by rfl) (hw : swappedStores [Expr.Name y p] (.List [e1, e2, e3] p2) X.env = pure none := by rfl) (ha : (assignEach [Expr.Name y p] X.env).map (·.2) = [assign (Expr.Name y p) X.env] := by rfl)
    (s1 : starEach [e1, e2, e3] X.env = (false, eval e1 X.env) :: starEach [e2, e3] X.env := by rfl) (s2 : starEach [e2, e3] X.env = (false, eval e2 X.env) :: starEach [e3] X.env := by rfl) (s3 : starEach [e3] X.env = (false, eval e3 X.env) :: starEach [] X.env := by rfl) :
    JSs X ρ μ (.Assign [.Name y p] (.List [e1, e2, e3] p2) pos :: rest) Φ :=
  jss_cons fun Wx tk => PS.imp (ps_asg (pe_lst (pa_cons (pe_any h1) (pa_cons (pe_any h2) (pa_cons (pe_any h3) pa_nil s3) s2) s1)) (pg_name (i := n) (by rw [C.n]; exact C.nd) (by rw [C.n]; exact hN) (C.wr hv).1 (C.wr hv).2) hs hw ha) fun D σ H ⟨G, S, Wn⟩ => by
    refine ⟨μ, G, S, fun p1 d1 H1 G1 g1 m1 => ⟨_, G1, S.go g1 m1, fun p2 d2 H2 G2 g2 m2 => ⟨_, G2, (S.go g1 m1).go g2 m2, fun p3 d3 H3 G3 g3 m3 => ⟨by show 3 ≤ sizeLine; decide, fun l hl0 => ?_⟩⟩⟩⟩
    obtain ⟨g4, m4⟩ := go_ownO (o := .r [p1, p2, p3]) (h := .lst ([p1, p2, p3].map V.ref)) g3.gs m3 hl0 rfl
    have gg := ((g1.trans g2).trans g3).trans g4
    exact Wn.nx _ _ _ _ _ (f l p1 d1 p2 d2 p3 d3) gg ((S.go gg m4).set n (show WV X.K G3 (.ref l) (.loc l) from rfl))
/-- xs[i] = C(..), xs an owned list of objects -/
theorem jss_setR (C : Fx md X N sc k) {l : Addr} {n q : Nat} {as : List Addr} (hv : JM X ρ e Cl fs) (ha : ∀ μ, JE X ρ μ a (.loc l) μ) (hb : ∀ μ, JE X ρ μ b (wi i) μ) (hl : μ[n]? = some (l, .r as)) (hi : ixN as.length i = some q) (f : ∀ p dx, JSs X ρ ((p, .i Cl dx fs) :: (dx, .o p) :: μ.set n (l, .r (as.set q p))) rest Φ)
    (hsub : ∀ v, assign (.Subscript a b p') X.env v = (do let ov ← holding [v] (eval a X.env); let iv ← holding [v, ov] (eval b X.env); standAt p'; holding [v, ov, iv] (setItem ov iv v); release [v, ov, iv] []) := by intro _; rfl)
    (hs : swapsWithSole [Expr.Subscript a b p'] e pos.line X.env = pure false := by rfl) (hw : swappedStores [Expr.Subscript a b p'] e X.env = pure none := by rfl) (h1 : (assignEach [Expr.Subscript a b p'] X.env).map (·.2) = [assign (Expr.Subscript a b p') X.env] := by rfl) : JSs X ρ μ (.Assign [.Subscript a b p'] e pos :: rest) Φ :=
  jss_cons fun Wx tk => PS.imp (ps_asg (hv μ) (pg_sub (pe_anyE ha) (pe_anyE hb) set_list hsub) hs hw h1) fun D σ H ⟨G, S, Wn⟩ => ⟨G, S, fun y dx H1 G1 g1 m1 => ⟨_, G1, S.go g1 m1, fun x H2 G2 g2 m2 wx => ⟨_, G2, (S.go g1 m1).go g2 m2, fun z H3 G3 g3 m3 wz => by
    cases (show x = .ref l from wx)
    have hl' : ((y, OD.i Cl dx fs) :: (dx, OD.o y) :: μ)[n + 2]? = some (l, .r as) := hl
    obtain ⟨_, _, hx, rfl⟩ := m3.on (n + 2) l _ hl'
    obtain ⟨g4, m4⟩ := mu_putO (o2 := .r (as.set q y)) (h := .lst ((as.set q y).map V.ref)) g3.gs m3 hl' rfl
    have gg := ((g1.trans g2).trans g3).trans g4
    refine ⟨l, as.map V.ref, i, q, rfl, wv_int wz, hx, by rw [List.length_map]; exact hi, ?_⟩
    rw [show (as.map V.ref).set q (V.ref y) = (as.set q y).map V.ref by rw [List.map_set]]
    exact Wn.nx _ _ σ _ G3 (f y dx) gg (S.go gg m4)⟩⟩⟩
/-- xs[i], xs an owned list of objects -/
theorem je_ixR {l : Addr} {n q : Nat} {as : List Addr} {y : Addr} (hx : PlainIx b) (ha : JE X ρ μ a (.loc l) μ1) (hb : JE X ρ μ1 b (wi i) μ2) (hl : μ2[n]? = some (l, .r as)) (hi : ixN as.length i = some q) (e : as[q]? = some y) : JE X ρ μ (.Subscript a b pos) (.loc y) μ2 :=
  PE.imp (pe_ix ix_list ha hb hx) fun σ H Q ⟨G, S, q1⟩ => ⟨G, S, fun x H1 G1 g1 m1 wx => ⟨G1, S.go g1 m1, fun z H2 G2 g2 m2 wz => by
    cases (show x = .ref l from wx)
    obtain ⟨_, _, h2, rfl⟩ := m2.on n l _ hl
    exact ⟨l, as.map V.ref, i, V.ref y, rfl, wv_int wz, SqL.of h2, by unfold atI; rw [List.length_map, hi]; show (as.map V.ref)[q]? = _; rw [List.getElem?_map, e]; rfl, q1 (.ref y) H2 G2 (g1.trans g2) m2 rfl⟩⟩⟩
/-- fewer own objects are kept in mind -/
theorem jss_sub {μ' : Mu} {body : List Stmt} (hm : ∀ x ∈ μ', x ∈ μ) (nd : (μ.map (·.1)).Nodup → (μ'.map (·.1)).Nodup) (h : JSs X ρ μ' body Φ) : JSs X ρ μ body Φ :=
  fun Wx tk => PSs.imp (h Wx tk) fun D σ H ⟨G, S, Wn⟩ => by
    have m2 : MuOk X.K H G μ' := ⟨fun m a es q => by
      obtain ⟨j, hj⟩ := List.getElem?_of_mem (hm _ (List.mem_of_getElem? q))
      exact S.mu.on j a es hj, nd S.mu.nd⟩
    have g : Go H G μ H G μ' := ⟨fun _ _ e _ => e, fun _ _ e => e, S.gh, fun _ _ e => .inl e, fun a ha => .inl (by
      obtain ⟨q, hq, rfl⟩ := List.mem_map.mp ha
      exact List.mem_map.mpr ⟨q, hm q hq, rfl⟩), fun _ h => h⟩
    exact ⟨G, S.go g m2, Wn.go g⟩
/-- data against an owned list -/
theorem jt_nedLoc (C : Fx md X N sc k) {n : Nat} {l : Addr} (ha : JE X ρ μ a (.dat d) μ1) (hb : JE X ρ μ1 b (.loc l) μ2) (hl : μ2[n]? = some (l, .l ds)) (h1 : SeqAt.shaped d = true) (h2 : SeqAt.shaped (.list ds) = true) : JT X ρ μ (.Compare a [.NotEq] [b] pos) (!PyData.eqv d (.list ds)) μ2 :=
  PT.imp (pt_cmpR (op_neD (hu64 C)) ha hb (nomark _)) fun σ H Q ⟨G, S, q⟩ => ⟨G, S, fun x H1 G1 g1 m1 wx => ⟨G1, S.go g1 m1, fun y H2 G2 g2 m2 wy => by
    cases (show y = .ref l from wy)
    obtain ⟨_, _, hx2, xs, rfl, hd⟩ := m2.on n l _ hl
    exact ⟨d, .list ds, dp_same (g2.gx.trans g2.gs) _ _ wx, Dp.lst (SqL.of hx2) (dpAll_same g2.gs _ _ hd), h1, h2, _, rfl, q H2 G2 (g1.trans g2) m2⟩⟩⟩
theorem pick_nodup {μ : Mu} (nd : (μ.map (·.1)).Nodup) : ∀ (is : List Nat) (μ' : Mu), is.map (fun i => μ[i]?) = μ'.map some → is.Nodup → (μ'.map (·.1)).Nodup
  | [], [], _, _ => .nil
  | i :: is, x :: μ', h, hi => by
    rw [List.map_cons, List.map_cons] at h
    injection h with h1 h2
    rw [List.nodup_cons] at hi
    rw [List.map_cons, List.nodup_cons]
    refine ⟨fun hx => ?_, pick_nodup nd is μ' h2 hi.2⟩
    obtain ⟨y, hy, e⟩ := List.mem_map.mp hx
    have hm : some y ∈ is.map (fun i => μ[i]?) := by rw [h2]; exact List.mem_map.mpr ⟨y, hy, rfl⟩
    obtain ⟨j, hj, ej⟩ := List.mem_map.mp hm
    have q1 : (μ.map (·.1))[i]? = some x.1 := by rw [List.getElem?_map, h1]; rfl
    have q2 : (μ.map (·.1))[j]? = some x.1 := by rw [List.getElem?_map, ej]; exact congrArg some e
    have hlt : i < (μ.map (·.1)).length := (List.getElem?_eq_some_iff.mp q1).1
    have := (List.getElem?_inj hlt nd).mp (q1.trans q2.symm)
    exact hi.1 (by rw [this]; exact hj)
  | [], _ :: _, h, _ => by simp at h
  | _ :: _, [], h, _ => by simp at h
/-- some of the own objects, in another order -/
theorem jss_pick {μ' : Mu} {body : List Stmt} (is : List Nat) (hp : is.map (fun i => μ[i]?) = μ'.map some) (hi : is.Nodup) (h : JSs X ρ μ' body Φ) : JSs X ρ μ body Φ :=
  jss_sub (fun x hx => by
    have hm : some x ∈ is.map (fun i => μ[i]?) := by rw [hp]; exact List.mem_map.mpr ⟨x, hx, rfl⟩
    obtain ⟨j, hj, ej⟩ := List.mem_map.mp hm
    exact List.mem_of_getElem? ej) (fun nd => pick_nodup nd is μ' hp hi) h
theorem JW.cast (h : JW X ρ μ e b1 μ1) (q : b1 = b2) : JW X ρ μ e b2 μ1 := q ▸ h
end
end RB
namespace RB
open PySem PySem.Spec PyProof.Rows L2
/-! ### tuples put together and cut; min and max of a list; a text in a list of texts; a call with a list laid in its arguments -/
section
variable {md : Md} {X : Cx} {N : List Str} {sc : Scope} {k : Nat} {ρ : Rho} {μ μ1 μ2 μ3 : Mu} {a b c e : Expr} {es : List Expr} {pos p p2 p3 ap cp q : Pos} {w : W} {ds es' : List PyData} {d : PyData} {i j : Int} {b1 b2 : Bool} {Φ : Out → Prop} {rest : List Stmt} {x : Str}
theorem je_tupCat (ha : JE X ρ μ a (.dat (.tuple ds)) μ1) (hb : JE X ρ μ1 b (.dat (.tuple es')) μ2) (hz : ds.length + es'.length ≤ 100000 := by exact of_decide_eq_true rfl) : JE X ρ μ (.BinOp a .Add b pos) (.dat (.tuple (ds ++ es'))) μ2 :=
  PE.imp (pe_op op_catA ha hb) fun σ H Q ⟨G, S, q⟩ => ⟨G, S, fun x H1 G1 g1 m1 wx => ⟨G1, S.go g1 m1, fun y H2 G2 g2 m2 wy => by
    obtain ⟨l, xs, rfl, hs, hd⟩ := wv_tup wx
    obtain ⟨l2, zs, rfl, hs2, hd2⟩ := wv_tup wy
    have h1 := dpAll_len hd
    have h2 := dpAll_len hd2
    have hdx := dpAll_same g2.gx _ _ hd
    refine ⟨l, l2, xs, zs, rfl, rfl, seqT (g2.gx.trans g2.gs) hs, seqT g2.gs hs2, by rw [h1, h2]; exact sz3 hz, fun e0 => ?_, fun _ e0 => ?_, fun _ _ t ht => ?_⟩
    · subst e0
      cases hd
      exact q _ H2 G2 (g1.trans g2) m2 (Dp.tup hs2 hd2)
    · subst e0
      cases hd2
      rw [List.append_nil] at q
      exact q _ H2 G2 (g1.trans g2) m2 (Dp.tup (seqT g2.gx hs) hdx)
    · obtain ⟨g3, m3⟩ := Go.lay (K := X.K) (o := .tup (xs ++ zs)) g2.gs m2 ht
      exact q _ _ _ ((g1.trans g2).trans g3) m3 (Dp.tup (SqT.of upd_same) (dpAll_same g3.gx _ _ (dpAll_app hdx hd2)))⟩⟩
theorem cutD_all {lo hi : Option Int} {n : Nat} (hn : ds.length = n) (h : HT.sIx n 0 lo = 0 ∧ HT.sIx n n hi = n) : cutD ds lo hi = ds := by
  unfold cutD
  rw [hn, h.1, h.2, List.drop_zero, Nat.sub_zero, List.take_of_length_le (by omega)]
theorem je_tupSl {lo hi : Option Expr} {l h : Option Int} (ha : JE X ρ μ a (.dat (.tuple ds)) μ1) (h1 : JO X ρ μ1 lo l μ2) (h2 : JO X ρ μ2 hi h μ3) : JE X ρ μ (.Subscript a (.Slice lo hi none p2) pos) (.dat (.tuple (cutD ds l h))) μ3 :=
  PE.imp (pe_slice sl_tupA ha h1 h2) fun σ H Q ⟨G, S, q⟩ => ⟨G, S, fun v H1 G1 g1 m1 wv => ⟨G1, S.go g1 m1, fun H2 G2 g2 m2 => ⟨G2, (S.go g1 m1).go g2 m2, fun H3 G3 g3 m3 => by
    obtain ⟨y, xs, rfl, hs, hd⟩ := wv_tup wv
    have hl := dpAll_len hd
    have hd3 := dpAll_same (g2.trans g3).gx _ _ hd
    have gg := (g1.trans g2).trans g3
    refine ⟨y, xs, rfl, seqT ((g2.trans g3).gx.trans g3.gs) hs, fun hw => ?_, fun _ t ht => ?_⟩
    · rw [cutD_all hl.symm hw] at q
      exact q _ H3 G3 gg m3 (Dp.tup (seqT (g2.trans g3).gx hs) hd3)
    · obtain ⟨g4, m4⟩ := Go.lay (K := X.K) (o := .tup (cutV xs l h)) g3.gs m3 ht
      exact q _ _ _ (gg.trans g4) m4 (Dp.tup (SqT.of upd_same) (dpAll_same g4.gx _ _ (dpAll_cut hd3)))⟩⟩⟩
theorem je_minL (C : Fx .calm X N sc k) {ns : List Int} (hm : X.mg "min" = none) (ha : JE X ρ μ a (.dat (.list (ns.map .int))) μ1) (hi : i ∈ ns) (hle : ∀ y ∈ ns, i ≤ y) (hg : sc.names.lookup ("min" : Str) = some .globalImplicit := by rfl)
    (he : starEach [a] X.env = (false, eval a X.env) :: starEach [] X.env := by rfl) (hpl : (backTo pos (starEach [] X.env)).any (·.1) = false := by rfl) : JE X ρ μ (.Call (.Name "min" p) [a] [] pos) (wi i) μ1 :=
  je_cb C (cr_min C.calm) hm (ja_cons ha ja_nil he) PyProof.Rows.boot_min (fun G H xs Q gs m ws q => by
    cases ws with
    | cons h t =>
      cases t
      obtain ⟨l, ys, rfl, hs, hd⟩ := wv_lst h
      obtain rfl := ints_V hd
      refine ⟨l, ns, rfl, gs.seq hs, List.length_pos_of_mem hi, fun m' hm' hl' => ?_⟩
      obtain rfl : m' = i := Int.le_antisymm (hl' i hi) (hle m' hm')
      exact q _ (Dp.int _)) hg (by decide) (by decide) he hpl
theorem je_maxL (C : Fx .calm X N sc k) {ns : List Int} (hm : X.mg "max" = none) (ha : JE X ρ μ a (.dat (.list (ns.map .int))) μ1) (hi : i ∈ ns) (hle : ∀ y ∈ ns, y ≤ i) (hg : sc.names.lookup ("max" : Str) = some .globalImplicit := by rfl)
    (he : starEach [a] X.env = (false, eval a X.env) :: starEach [] X.env := by rfl) (hpl : (backTo pos (starEach [] X.env)).any (·.1) = false := by rfl) : JE X ρ μ (.Call (.Name "max" p) [a] [] pos) (wi i) μ1 :=
  je_cb C (cr_max C.calm) hm (ja_cons ha ja_nil he) PyProof.Rows.boot_max (fun G H xs Q gs m ws q => by
    cases ws with
    | cons h t =>
      cases t
      obtain ⟨l, ys, rfl, hs, hd⟩ := wv_lst h
      obtain rfl := ints_V hd
      refine ⟨l, ns, rfl, gs.seq hs, List.length_pos_of_mem hi, fun m' hm' hl' => ?_⟩
      obtain rfl : m' = i := Int.le_antisymm (hle m' hm') (hl' i hi)
      exact q _ (Dp.int _)) hg (by decide) (by decide) he hpl
theorem strs_V {K : PySem.W.Frag} {G : Hp} : ∀ {zs : List Str} {xs : List V}, DpAll K G xs (zs.map .str) → xs = zs.map V.str
  | [], _, h => by cases h; rfl
  | z :: zs, _, h => by
    cases h with
    | cons h t => cases h; rw [strs_V t]; rfl
theorem flat_strs : ∀ zs : List Str, (zs.map V.str).all flatV = true
  | [] => rfl
  | z :: zs => by rw [List.map_cons, List.all_cons, flat_strs zs]; rfl
theorem inV_strs {y : Str} : ∀ zs : List Str, inV (.str y) (zs.map V.str) = zs.contains y
  | [] => rfl
  | z :: zs => by
    have ih := inV_strs (y := y) zs
    unfold inV at ih ⊢
    rw [List.map_cons, List.any_cons, ih, List.contains_cons]
    show (z == y || _) = (y == z || _)
    rw [Bool.beq_comm]
theorem jt_inS {y : Str} {zs : List Str} (ha : JE X ρ μ a (.dat (.str y)) μ1) (hb : JE X ρ μ1 b (.dat (.list (zs.map .str))) μ2) (hmk : behindInMarks .In b = false := by first | exact nobehind _ (by decide) (by decide) | rfl) : JT X ρ μ (.Compare a [.In] [b] pos) (zs.contains y) μ2 :=
  jt_cmp op_in_seq ha hb hmk fun G H u v Q gs hx hy q => by
    obtain ⟨l, ys, rfl, hs, hd⟩ := wv_lst hy
    obtain rfl := strs_V hd
    cases (show Dp X.K G u (.str y) from hx)
    refine ⟨l, _, rfl, .inl (gs.seq hs), rfl, flat_strs zs, ?_⟩
    rw [inV_strs]
    exact q
/-- arguments one of which is a new list -/
def rdAN (K : PySem.W.Frag) (ρ : Rho) (μ : Mu) (ws : Addr → List W) (o : OD) : TA := fun σ H Q => ∃ G, StOk K σ H G ρ μ ∧ ∀ l vs H' G', Go H G μ H' G' ((l, o) :: μ) → MuOk K H' G' ((l, o) :: μ) → WVs K G' vs (ws l) → Q vs H'
def JAN (X : Cx) (ρ : Rho) (μ : Mu) (es : List Expr) (ws : Addr → List W) (o : OD) : Prop := PA X es (rdAN X.K ρ μ ws o)
theorem jan_here {ws : List W} {o : OD} (he : JN X ρ μ e o μ) (hr : ∀ l, JA X ρ ((l, o) :: μ) es ws ((l, o) :: μ)) (hs : starEach (e :: es) X.env = (false, eval e X.env) :: starEach es X.env := by rfl) : JAN X ρ μ (e :: es) (fun l => .loc l :: ws) o :=
  PA.imp (pa_cons he (⟨fun pos pins s σ H Q I ⟨l, q⟩ => (hr l).run pos pins s σ H Q I q⟩ : PA X es (fun σ H Q => ∃ l, rdA X.K ρ ((l, o) :: μ) ws ((l, o) :: μ) σ H Q)) hs) fun σ H Q ⟨G, S, q⟩ => ⟨G, S, fun l h H1 G1 g1 m1 h0 gl lm hl hd => by
    have m2 : MuOk X.K H1 G1 ((l, o) :: μ) := ⟨fun n a es e => by
      cases n with
      | zero => cases e; exact ⟨gl, h, hl, hd⟩
      | succ n => exact m1.on n a es e, by rw [List.map_cons]; exact List.nodup_cons.mpr ⟨lm, m1.nd⟩⟩
    have g2 : Go H G μ H1 G1 ((l, o) :: μ) := ⟨g1.fr, g1.gx, g1.gs, g1.nw, fun a ha => by
      rw [List.map_cons] at ha
      rcases List.mem_cons.mp ha with z | z
      · exact .inr (by rw [z]; exact h0)
      · exact g1.dm a z, g1.al⟩
    exact ⟨l, G1, S.go g2 m2, fun vs H2 G2 g3 m3 wvs => q l (.ref l :: vs) H2 G2 (g2.trans g3) m3 (.cons rfl wvs)⟩⟩
theorem jan_cons {ws : Addr → List W} {o : OD} (he : JE X ρ μ e w μ) (hr : JAN X ρ μ es ws o) (hs : starEach (e :: es) X.env = (false, eval e X.env) :: starEach es X.env := by rfl) : JAN X ρ μ (e :: es) (fun l => w :: ws l) o :=
  PA.imp (pa_cons he hr hs) fun σ H Q ⟨G, S, q⟩ => ⟨G, S, fun x H1 G1 g1 m1 wx => ⟨G1, S.go g1 m1, fun l vs H2 G2 g2 m2 wvs => q l (x :: vs) H2 G2 (g1.trans g2) m2 (.cons (wx.same g2.gx) wvs)⟩⟩
theorem je_callN (C : Fx md X N sc k) {kk : Nat} {x : Str} {R : List W → Mu → W → Mu → Prop} {RE : List W → Mu → Value → Mu → Prop} {ws : Addr → List W} {o : OD} {o2 : OD} (F : CalGX md X kk x R RE) (ha : JAN X ρ μ (e :: es) ws o) (hR : ∀ l, R (ws l) ((l, o) :: μ) w ((l, o2) :: μ)) (hk : kk ≤ k := by omega) (hg : sc.names.lookup x = some .globalImplicit := by rfl)
    (hdb : (x == ("__debug__" : Str)) = false := by decide) (he : starEach (e :: es) X.env = (false, eval e X.env) :: starEach es X.env := by rfl) (hpl : (backTo pos (starEach es X.env)).any (·.1) = false := by rfl) : JE X ρ μ (.Call (.Name x p) (e :: es) [] pos) w μ := by
  obtain ⟨f, fd, ps, F, hm, kp, b⟩ := F.ex
  exact PE.imp (pe_callM C F takesX0 hk (C.gl hg) hm kp b ha hdb he hpl) fun σ H Q ⟨G, S, q⟩ => ⟨G, S, fun l vs H1 G1 g1 m1 wvs =>
    .inl ⟨G1, (l, o) :: μ, ws l, w, (l, o2) :: μ, g1.gs, m1, wvs, hR l, fun v H2 G2 g2 m2 wv => q v H2 G2 (go_drop (g1.trans g2) 1) (mu_drop m2 1) wv⟩⟩
theorem cal_noneL {P : Program} {wd : World} {K : PySem.W.Frag} {mg : Str → Option Value} {base : Heap} {x : Str} {st : Stmt} {ps : List Str} {R : List W → Mu → List PyData → Mu → Prop} (A : DefAt K mg x st ps) (h : ∀ ws μ w μ', ¬ R ws μ w μ') : CalL P wd K mg base 0 x R := by
  obtain ⟨f, fd, F, hm, b⟩ := A
  have no : ∀ vs H Q E, ¬ SpL K R vs H Q E := fun vs H Q E q => by
    obtain ⟨_, _, _, _, _, _, _, _, hr, _⟩ := q
    exact h _ _ _ _ hr
  exact ⟨f, fd, ps, ⟨fun vs H Q E q => absurd q (no vs H Q E), fun A outer s H args us vs Q E _ _ _ _ q => absurd q (no vs H Q E)⟩, hm, F.kp, b⟩
/-- the first two own objects change places -/
theorem jss_swap {y1 y2 : Addr × OD} {body : List Stmt} (h : JSs X ρ (y2 :: y1 :: μ) body Φ) : JSs X ρ (y1 :: y2 :: μ) body Φ :=
  jss_sub (fun z hz => by
    rcases List.mem_cons.mp hz with e | hz
    · rw [e]; exact List.mem_cons_of_mem _ List.mem_cons_self
    · rcases List.mem_cons.mp hz with e | hz
      · rw [e]; exact List.mem_cons_self
      · exact List.mem_cons_of_mem _ (List.mem_cons_of_mem _ hz)) (fun nd => by
    rw [List.map_cons, List.map_cons] at nd ⊢
    exact (List.Perm.swap _ _ _).nodup_iff.mpr nd) h
end
end RB
namespace Kx
open PySem PySem.Spec PyProof.Rows L2 RB
def topS (i : Nat) : Stmt := PySem.Challenge.pw_redpaint_k05_faults.main.body.getD i (.Pass ⟨0, 0, 0, 0⟩)
abbrev s_size_of : Stmt := topS 6
abbrev n_size_of : List Str := ["tree"]
abbrev p_size_of : List Str := ["tree"]
theorem sc_size_of : FnScope n_size_of p_size_of (defScope s_size_of) := ⟨rfl, rfl, rfl, by decide +kernel, rfl, by decide +kernel, by decide +kernel⟩
abbrev s_is_painted : Stmt := topS 7
abbrev n_is_painted : List Str := ["tree"]
abbrev p_is_painted : List Str := ["tree"]
theorem sc_is_painted : FnScope n_is_painted p_is_painted (defScope s_is_painted) := ⟨rfl, rfl, rfl, by decide +kernel, rfl, by decide +kernel, by decide +kernel⟩
abbrev s_faults_of : Stmt := topS 9
abbrev n_faults_of : List Str := ["tree", "knots", "faults"]
abbrev p_faults_of : List Str := ["tree"]
theorem sc_faults_of : FnScope n_faults_of p_faults_of (defScope s_faults_of) := ⟨rfl, rfl, rfl, by decide +kernel, rfl, by decide +kernel, by decide +kernel⟩
abbrev s__knots_of : Stmt := topS 10
abbrev n__knots_of : List Str := ["tree", "knots", "above", "here"]
abbrev p__knots_of : List Str := ["tree"]
theorem sc__knots_of : FnScope n__knots_of p__knots_of (defScope s__knots_of) := ⟨rfl, rfl, rfl, by decide +kernel, rfl, by decide +kernel, by decide +kernel⟩
abbrev s__paint_holds : Stmt := topS 11
abbrev n__paint_holds : List Str := ["knots", "here"]
abbrev p__paint_holds : List Str := ["knots"]
theorem sc__paint_holds : FnScope n__paint_holds p__paint_holds (defScope s__paint_holds) := ⟨rfl, rfl, rfl, by decide +kernel, rfl, by decide +kernel, by decide +kernel⟩
abbrev s__roads_hold : Stmt := topS 12
abbrev n__roads_hold : List Str := ["tree", "heights"]
abbrev p__roads_hold : List Str := ["tree"]
theorem sc__roads_hold : FnScope n__roads_hold p__roads_hold (defScope s__roads_hold) := ⟨rfl, rfl, rfl, by decide +kernel, rfl, by decide +kernel, by decide +kernel⟩
abbrev s__heights_of : Stmt := topS 13
abbrev n__heights_of : List Str := ["tree", "heights", "waiting", "here", "height", "below"]
abbrev p__heights_of : List Str := ["tree"]
theorem sc__heights_of : FnScope n__heights_of p__heights_of (defScope s__heights_of) := ⟨rfl, rfl, rfl, by decide +kernel, rfl, by decide +kernel, by decide +kernel⟩
abbrev s__order_holds : Stmt := topS 14
abbrev n__order_holds : List Str := ["knots", "at"]
abbrev p__order_holds : List Str := ["knots"]
theorem sc__order_holds : FnScope n__order_holds p__order_holds (defScope s__order_holds) := ⟨rfl, rfl, rfl, by decide +kernel, rfl, by decide +kernel, by decide +kernel⟩
abbrev s__counts_hold : Stmt := topS 15
abbrev n__counts_hold : List Str := ["knots", "here"]
abbrev p__counts_hold : List Str := ["knots"]
theorem sc__counts_hold : FnScope n__counts_hold p__counts_hold (defScope s__counts_hold) := ⟨rfl, rfl, rfl, by decide +kernel, rfl, by decide +kernel, by decide +kernel⟩
abbrev s__law_cell_at : Stmt := topS 17
abbrev n__law_cell_at : List Str := ["_law_script", "_law_k"]
abbrev p__law_cell_at : List Str := ["_law_script", "_law_k"]
theorem sc__law_cell_at : FnScope n__law_cell_at p__law_cell_at (defScope s__law_cell_at) := ⟨rfl, rfl, rfl, by decide +kernel, rfl, by decide +kernel, by decide +kernel⟩
abbrev s__law_text : Stmt := topS 18
abbrev n__law_text : List Str := ["_law_cell", "_law_size", "_law_some", "_law_told"]
abbrev p__law_text : List Str := ["_law_cell", "_law_size"]
theorem sc__law_text : FnScope n__law_text p__law_text (defScope s__law_text) := ⟨rfl, rfl, rfl, by decide +kernel, rfl, by decide +kernel, by decide +kernel⟩
abbrev s__law_thing : Stmt := topS 19
abbrev n__law_thing : List Str := ["_law_cell", "_law_kind", "_law_size", "_law_nested", "_law_k"]
abbrev p__law_thing : List Str := ["_law_cell"]
theorem sc__law_thing : FnScope n__law_thing p__law_thing (defScope s__law_thing) := ⟨rfl, rfl, rfl, by decide +kernel, rfl, by decide +kernel, by decide +kernel⟩
abbrev s__law_rising : Stmt := topS 20
abbrev n__law_rising : List Str := ["_law_cell", "_law_many", "_law_step", "_law_base", "_law_more", "_law_k"]
abbrev p__law_rising : List Str := ["_law_cell", "_law_many"]
theorem sc__law_rising : FnScope n__law_rising p__law_rising (defScope s__law_rising) := ⟨rfl, rfl, rfl, by decide +kernel, rfl, by decide +kernel, by decide +kernel⟩
abbrev s__law_bits : Stmt := topS 21
abbrev n__law_bits : List Str := ["_law_cell", "_law_many", "_law_k"]
abbrev p__law_bits : List Str := ["_law_cell", "_law_many"]
theorem sc__law_bits : FnScope n__law_bits p__law_bits (defScope s__law_bits) := ⟨rfl, rfl, rfl, by decide +kernel, rfl, by decide +kernel, by decide +kernel⟩
abbrev s__law_grown : Stmt := topS 22
abbrev n__law_grown : List Str := ["_law_bits_here", "_law_pairs", "_law_rank", "_law_under", "_law_bit", "_law_paint", "_law_left", "_law_pair", "_law_right", "_law_many", "_law_one"]
abbrev p__law_grown : List Str := ["_law_bits_here", "_law_pairs", "_law_rank", "_law_under"]
theorem sc__law_grown : FnScope n__law_grown p__law_grown (defScope s__law_grown) := ⟨rfl, rfl, rfl, by decide +kernel, rfl, by decide +kernel, by decide +kernel⟩
abbrev s__law_tree : Stmt := topS 23
abbrev n__law_tree : List Str := ["_law_script", "_law_far", "_law_cell", "_law_rank", "_law_bits_here", "_law_pairs"]
abbrev p__law_tree : List Str := ["_law_script"]
theorem sc__law_tree : FnScope n__law_tree p__law_tree (defScope s__law_tree) := ⟨rfl, rfl, rfl, by decide +kernel, rfl, by decide +kernel, by decide +kernel⟩
abbrev s__law_keys : Stmt := topS 24
abbrev n__law_keys : List Str := ["_law_tree_here"]
abbrev p__law_keys : List Str := ["_law_tree_here"]
theorem sc__law_keys : FnScope n__law_keys p__law_keys (defScope s__law_keys) := ⟨rfl, rfl, rfl, by decide +kernel, rfl, by decide +kernel, by decide +kernel⟩
abbrev s__law_bent : Stmt := topS 25
abbrev n__law_bent : List Str := ["_law_tree_here", "_law_left", "_law_way", "_law_number", "_law_one", "_law_now", "_law_other"]
abbrev p__law_bent : List Str := ["_law_tree_here", "_law_left", "_law_way", "_law_number"]
theorem sc__law_bent : FnScope n__law_bent p__law_bent (defScope s__law_bent) := ⟨rfl, rfl, rfl, by decide +kernel, rfl, by decide +kernel, by decide +kernel⟩
abbrev s__law_chain : Stmt := topS 26
abbrev n__law_chain : List Str := ["_law_pairs", "_law_many", "_law_cell", "_law_tree_here", "_law_low", "_law_high", "_law_k", "_law_side", "_law_paint"]
abbrev p__law_chain : List Str := ["_law_pairs", "_law_many", "_law_cell"]
theorem sc__law_chain : FnScope n__law_chain p__law_chain (defScope s__law_chain) := ⟨rfl, rfl, rfl, by decide +kernel, rfl, by decide +kernel, by decide +kernel⟩
abbrev s__law_looked : Stmt := topS 27
abbrev n__law_looked : List Str := ["_law_tree_here", "_law_roads", "_law_words", "_law_rank", "_law_left", "_law_right", "_law_one"]
abbrev p__law_looked : List Str := ["_law_tree_here", "_law_roads", "_law_words", "_law_rank"]
theorem sc__law_looked : FnScope n__law_looked p__law_looked (defScope s__law_looked) := ⟨rfl, rfl, rfl, by decide +kernel, rfl, by decide +kernel, by decide +kernel⟩
abbrev s__law_due : Stmt := topS 28
abbrev n__law_due : List Str := ["_law_tree_here", "_law_roads", "_law_words", "_law_many", "_law_keys_here", "_law_place", "_law_word"]
abbrev p__law_due : List Str := ["_law_tree_here"]
theorem sc__law_due : FnScope n__law_due p__law_due (defScope s__law_due) := ⟨rfl, rfl, rfl, by decide +kernel, rfl, by decide +kernel, by decide +kernel⟩
abbrev s_law : Stmt := topS 29
abbrev n_law : List Str := ["_law_script", "_law_tree_here", "_law_pairs", "_law_turn", "_law_keys_here", "_law_cell", "_law_number", "_law_way", "_law_told", "_law_one"]
abbrev p_law : List Str := ["_law_script"]
theorem sc_law : FnScope n_law p_law (defScope s_law) := ⟨rfl, rfl, rfl, by decide +kernel, rfl, by decide +kernel, by decide +kernel⟩
structure Tx (K : PySem.W.Frag) (mg : Str → Option Value) : Prop where
  d_size_of : DefAt K mg "size_of" s_size_of p_size_of
  d_is_painted : DefAt K mg "is_painted" s_is_painted p_is_painted
  d_faults_of : DefAt K mg "faults_of" s_faults_of p_faults_of
  d__knots_of : DefAt K mg "_knots_of" s__knots_of p__knots_of
  d__paint_holds : DefAt K mg "_paint_holds" s__paint_holds p__paint_holds
  d__roads_hold : DefAt K mg "_roads_hold" s__roads_hold p__roads_hold
  d__heights_of : DefAt K mg "_heights_of" s__heights_of p__heights_of
  d__order_holds : DefAt K mg "_order_holds" s__order_holds p__order_holds
  d__counts_hold : DefAt K mg "_counts_hold" s__counts_hold p__counts_hold
  d__law_cell_at : DefAt K mg "_law_cell_at" s__law_cell_at p__law_cell_at
  d__law_text : DefAt K mg "_law_text" s__law_text p__law_text
  d__law_thing : DefAt K mg "_law_thing" s__law_thing p__law_thing
  d__law_rising : DefAt K mg "_law_rising" s__law_rising p__law_rising
  d__law_bits : DefAt K mg "_law_bits" s__law_bits p__law_bits
  d__law_grown : DefAt K mg "_law_grown" s__law_grown p__law_grown
  d__law_tree : DefAt K mg "_law_tree" s__law_tree p__law_tree
  d__law_keys : DefAt K mg "_law_keys" s__law_keys p__law_keys
  d__law_bent : DefAt K mg "_law_bent" s__law_bent p__law_bent
  d__law_chain : DefAt K mg "_law_chain" s__law_chain p__law_chain
  d__law_looked : DefAt K mg "_law_looked" s__law_looked p__law_looked
  d__law_due : DefAt K mg "_law_due" s__law_due p__law_due
  g_PAINT : ∃ t, mg "PAINT" = some (.int 0 t)
  g_LEFT : ∃ t, mg "LEFT" = some (.int 1 t)
  g_KEY : ∃ t, mg "KEY" = some (.int 2 t)
  g_RIGHT : ∃ t, mg "RIGHT" = some (.int 4 t)
  g_COUNT : ∃ t, mg "COUNT" = some (.int 5 t)
  b_int : mg "int" = none
  b_isinstance : mg "isinstance" = none
  b_len : mg "len" = none
  b_list : mg "list" = none
  b_max : mg "max" = none
  b_min : mg "min" = none
  b_range : mg "range" = none
  b_str : mg "str" = none
  b_tuple : mg "tuple" = none
end Kx
namespace Kx
open PySem PySem.Spec PyProof.Rows L2 RB
/-! ### what the law's defs answer -/
abbrev BIG : Nat := 1048600
def strAt (st : Stmt) (j : Nat) : Str := match (defBody st).getD j (.Pass ⟨0, 0, 0, 0⟩) with
  | .Assign _ (.Constant (.str x) _ _) _ => x
  | .Assign _ (.BinOp _ _ (.Constant (.str x) _ _) _) _ => x
  | _ => Str.empty
def signs : Str := strAt s__law_text 0 ++ strAt s__law_text 1
def textOf (c n : Int) : Str := cutS (signs ++ signs) (some (c % 96)) (some (c % 96 + n))
def textD (c n : Int) : Str := if c / 96 % 3 = 1 then textOf c n ++ Txt.mul (cutS (textOf c n) (some (-1)) none) 3 ++ cutS (textOf c n) none (some 9) else textOf c n
def nest (c : Int) : Nat → PyData
  | 0 => .tuple [.bool (decide (c % 2 = 1)), .int (c % 3)]
  | n + 1 => .tuple [nest c n, .int n]
def menu : List PyData := [.none, .str "", .bool true, .bool false, .int 0, .tuple [.bool true, .tuple [.int 1, .str "x"]], .tuple []]
def thing (c : Int) : PyData :=
  if c % 12 = 0 then .str (textD (c / 12) (c / 12 % 90))
  else if c % 12 = 1 then .int (c ^ (5 : Int).toNat % (10 : Int) ^ (59 : Int).toNat - (10 : Int) ^ (58 : Int).toNat)
  else if c % 12 = 2 then .tuple (gv (fun _ => true) (fun k => .int (c / ((k : Int) + 1) % 9)) (c / 12 % 90 % 30).toNat)
  else if c % 12 = 3 then nest c (c / 12 % 90 % 9).toNat
  else if c % 12 = 4 then .tuple [.none, .str (textD (c / 12) (c / 12 % 90)), .int (-(c / 12 % 90)), .tuple [.str "", .tuple [.none]]]
  else menu.getD (c % 12 - 5).toNat .none
def stepOf (c : Int) : Int := ([1, 2, 1 + c / 7 % 90, 1 + c / 7 % (10 : Int) ^ (56 : Int).toNat] : List Int).getD (c % 4).toNat 0
def baseOf (c : Int) : Int := ([c / 4 % 41 - 20, -7, c / 4 % (10 : Int) ^ (59 : Int).toNat - 5 * (10 : Int) ^ (58 : Int).toNat, -((10 : Int) ^ (59 : Int).toNat)] : List Int).getD (c / 5 % 4).toNat 0
def keyAt (c : Int) (k : Nat) : Int := baseOf c + stepOf c * k + (k : Int) * k * (c / 11 % 9) / 7
def pairD (c : Int) (k : Nat) : PyData := .tuple [.int (keyAt c k), thing (c + k)]
def bitAt (c : Int) (k : Nat) : Int := (c + 1) * ((k : Int) * 48271 + 7) % 65537 / 8 % 2

/-! ### data that is alike itself -/
def Al : Nat → PyData → Prop
  | 0, _ => False
  | n + 1, .tuple ds => ds.length ≤ 100000 ∧ ∀ d ∈ ds, Al n d
  | _ + 1, .list _ => False
  | _ + 1, .dict _ => False
  | _ + 1, _ => True
theorem Al.up : ∀ {n : Nat} {d : PyData}, Al n d → Al (n + 1) d
  | n + 1, .tuple ds, h => ⟨h.1, fun d hd => Al.up (h.2 d hd)⟩
  | n + 1, .none, _ => trivial
  | n + 1, .bool _, _ => trivial
  | n + 1, .int _, _ => trivial
  | n + 1, .str _, _ => trivial
theorem Al.mono {n m : Nat} {d : PyData} (h : Al n d) (hm : n ≤ m) : Al m d := by
  induction hm with
  | refl => exact h
  | step _ ih => exact ih.up

/-! ### promises -/
def SzD : PyData → Int → Prop
  | .none, n => n = 0
  | .tuple [_, _, _, _, _, .int m], n => n = m
  | _, _ => False
def R_size : List W → Mu → W → Mu → Prop := fun ws μ w μ' => ∃ d n, ws = [.dat d] ∧ SzD d n ∧ w = wi n ∧ μ' = μ
def R_knot : List W → Mu → W → Mu → Prop := fun ws μ w μ' => ∃ p l k t r nl nr, ws = [.dat p, .dat l, .dat k, .dat t, .dat r] ∧ SzD l nl ∧ SzD r nr ∧ w = .dat (.tuple [p, l, k, t, r, .int (nl + 1 + nr)]) ∧ μ' = μ
def R_cell : List W → Mu → W → Mu → Prop := fun ws μ w μ' => ∃ (ns : List Int) (j : Nat), ws = [.dat (.list (ns.map .int)), wi j] ∧ w = wi (ns.getD j 0) ∧ μ' = μ
def R_whole : List W → Mu → W → Mu → Prop := fun ws μ w μ' => ∃ d, ws = [.dat d] ∧ w = wb (isI d) ∧ μ' = μ
def R_text : List W → Mu → W → Mu → Prop := fun ws μ w μ' => ∃ c n, ws = [wi c, wi n] ∧ w = .dat (.str (textD c n)) ∧ μ' = μ
def R_thing : List W → Mu → W → Mu → Prop := fun ws μ w μ' => ∃ c, ws = [wi c] ∧ Builtin.Int.intBits c ≤ BIG ∧ w = .dat (thing c) ∧ μ' = μ
def R_rising : List W → Mu → List PyData → Mu → Prop := fun ws μ ds μ' => ∃ (c : Int) (n : Nat), ws = [wi c, wi n] ∧ Builtin.Int.intBits c ≤ 1048580 ∧ n ≤ 5000 ∧ ds = gv (fun _ => true) (pairD c) n ∧ μ' = μ
def R_bits : List W → Mu → List PyData → Mu → Prop := fun ws μ ds μ' => ∃ (c : Int) (n : Nat), ws = [wi c, wi n] ∧ Builtin.Int.intBits c ≤ 1048580 ∧ n ≤ 5000 ∧ ds = gv (fun _ => true) (fun k => .int (bitAt c k)) n ∧ μ' = μ
def R_alike (m : Nat) : List W → Mu → W → Mu → Prop := fun ws μ w μ' => ∃ d, ws = [.dat d, .dat d] ∧ Al m d ∧ w = wb true ∧ μ' = μ
section
variable {P : Program} {wd : World} {K : PySem.W.Frag} {mg : Str → Option Value} {base : Heap}
theorem at_ints {l : List Int} {i : Int} (h0 : 0 ≤ i) (h1 : i < l.length) : atI (l.map PyData.int) i = some (.int (l.getD i.toNat 0)) := by
  have e : i = (i.toNat : Int) := by omega
  have h2 : i.toNat < l.length := by omega
  have h3 : (l.map PyData.int)[i.toNat]? = some (.int (l.getD i.toNat 0)) := by
    rw [List.getElem?_map, List.getElem?_eq_getElem h2, List.getD_eq_getElem?_getD, List.getElem?_eq_getElem h2] <;> rfl
  have q := atI_nat h3
  rw [← e] at q
  exact q
theorem c_cell (T : Tx K mg) : CalW P wd K mg base 1 "_law_cell_at" R_cell := by
  refine cal_at T.d__law_cell_at sc__law_cell_at (fun ws μ w μ' ⟨d, n, e, _⟩ => by rw [e]; rfl) fun X E C ws μ w μ' ⟨ns, j, e1, e2, e3⟩ => ?_
  subst e1 e2 e3
  refine jss_if0 (jt_lt (je_v C.toFx 1) (je_len C.toFx (E.mg_eq T.b_len) (je_v C.toFx 0))) (fun h => ?_) (fun h => ?_)
  · have h' := of_decide_eq_true h
    rw [List.length_map] at h'
    exact jss_ret (je_ixl (fun _ _ => rfl) (je_v C.toFx 0) (je_v C.toFx 1) (at_ints (by omega) h')) (.inl rfl)
  · have h' := of_decide_eq_false h
    rw [List.length_map] at h'
    refine jss_ret je_int (.inl ?_)
    rw [List.getD_eq_getElem?_getD, List.getElem?_eq_none (by omega)]
    rfl
end

theorem mulOk3 {x : Str} (h : x.length ≤ 1000) : MulOk x 3 := mulOk_of 1000 3 h (by decide) (by decide) (by decide) (by decide)
theorem mul3_len {x : Str} (h : x.length ≤ 1000) : (Txt.mul x 3).length ≤ 3000 := by
  unfold Txt.mul
  rw [if_neg (by decide)]
  split
  · omega
  · show ((List.replicate 3 x.cps).foldl (· ++ ·) #[]).size ≤ 3000
    have hx : x.cps.size ≤ 1000 := h
    simp [List.replicate]
    omega
theorem signs_len : (signs ++ signs).length = 192 := by decide +kernel
theorem textOf_len (c n : Int) : (textOf c n).length ≤ 192 := by
  have h := cutS_length (signs ++ signs) (some (c % 96)) (some (c % 96 + n))
  rw [signs_len] at h
  exact h
theorem cut_le {x : Str} {l h : Option Int} {n : Nat} (e : x.length ≤ n) : (cutS x l h).length ≤ n := Nat.le_trans (cutS_length x l h) e
theorem app_len (x y : Str) : (x ++ y).length = x.length + y.length := by
  show (x.cps ++ y.cps).size = x.cps.size + y.cps.size
  exact Array.size_append
section
variable {P : Program} {wd : World} {K : PySem.W.Frag} {mg : Str → Option Value} {base : Heap}
theorem c_text (T : Tx K mg) : CalW P wd K mg base 1 "_law_text" R_text := by
  refine cal_at T.d__law_text sc__law_text (fun ws μ w μ' ⟨c, n, e, _⟩ => by rw [e]; rfl) fun X E C ws μ w μ' ⟨c, n, e1, e2, e3⟩ => ?_
  subst e1 e2 e3
  refine jss_asg C 2 je_str ?_
  refine jss_asg C 2 (je_cat (je_v C.toFx 2) je_str (by decide +kernel)) ?_
  refine jss_asg C 3 (je_slS (je_cat (je_v C.toFx 2) (je_v C.toFx 2) (by decide +kernel)) (jo_some (je_mod (je_v C.toFx 0) je_int (by decide))) (jo_some (je_add (je_mod (je_v C.toFx 0) je_int (by decide)) (je_v C.toFx 1))) (by decide +kernel)) ?_
  have hl := textOf_len c n
  refine jss_if0 (jt_eqi (je_mod (je_fdiv (je_v C.toFx 0) je_int (div_small (by decide) (by decide))) je_int (by decide)) je_int) (fun h => ?_) (fun h => ?_)
  · have h1 : (cutS (textOf c n) (some (-1)) none).length ≤ 192 := cut_le hl
    have h2 : (Txt.mul (cutS (textOf c n) (some (-1)) none) 3).length ≤ 3000 := mul3_len (by omega)
    have h3 : (cutS (textOf c n) none (some 9)).length ≤ 192 := cut_le hl
    refine jss_asg C 3 (je_cat (x := textOf c n ++ Txt.mul (cutS (textOf c n) (some (-1)) none) 3) (y := cutS (textOf c n) none (some 9)) (je_cat (x := textOf c n) (y := Txt.mul (cutS (textOf c n) (some (-1)) none) 3) (je_v C.toFx 3) (je_mulS (x := cutS (textOf c n) (some (-1)) none) (je_slS (x := textOf c n) (je_v C.toFx 3) (jo_some (je_neg je_int)) jo_none (by omega)) je_int (mulOk3 (by omega))) (by omega)) (je_slS (x := textOf c n) (je_v C.toFx 3) jo_none (jo_some je_int) (by omega)) (by rw [app_len]; omega)) ?_
    refine jss_end (jss_ret (je_v C.toFx 3) (.inl ?_))
    unfold textD
    rw [if_pos (of_decide_eq_true h)]
  · refine jss_ret (je_v C.toFx 3) (.inl ?_)
    unfold textD
    rw [if_neg (of_decide_eq_false h)]
    rfl
end

section
variable {P : Program} {wd : World} {K : PySem.W.Frag} {mg : Str → Option Value} {base : Heap}
theorem at_menu {l : List PyData} {i : Int} (h0 : 0 ≤ i) (h1 : i < l.length) : atI l i = some (l.getD i.toNat .none) := by
  have e : i = (i.toNat : Int) := by omega
  have h2 : i.toNat < l.length := by omega
  have h3 : l[i.toNat]? = some (l.getD i.toNat .none) := by
    rw [List.getD_eq_getElem?_getD, List.getElem?_eq_getElem h2] <;> rfl
  have q := atI_nat h3
  rw [← e] at q
  exact q
theorem pow10 {n : Int} (h : 0 ≤ n ∧ n ≤ 1000) : CPowX 10 n := by
  refine ⟨h.1, ?_⟩
  have e : Builtin.Int.intBits 10 = 4 := by decide +kernel
  rw [e]
  omega
theorem c_thing (T : Tx K mg) : CalW P wd K mg base 2 "_law_thing" R_thing := by
  refine cal_at T.d__law_thing sc__law_thing (fun ws μ w μ' ⟨c, e, _⟩ => by rw [e]; rfl) fun X E C ws μ w μ' ⟨c, e1, hb, e2, e3⟩ => ?_
  subst e1 e2 e3
  have ct := (c_text (P := P) (wd := wd) (base := base) T).here E
  refine jss_asg C 1 (je_mod (je_v C.toFx 0) je_int (by decide)) ?_
  refine jss_asg C 2 (je_mod (je_fdiv (je_v C.toFx 0) je_int (div_small (by decide) (by decide))) je_int (by decide)) ?_
  have m0 : 0 ≤ c % 12 := Int.emod_nonneg c (by decide)
  have m1 : c % 12 < 12 := Int.emod_lt_of_pos c (by decide)
  have z0 : 0 ≤ c / 12 % 90 := Int.emod_nonneg _ (by decide)
  have z1 : c / 12 % 90 < 90 := Int.emod_lt_of_pos _ (by decide)
  refine jss_if0 (jt_eqi (je_v C.toFx 1) je_int) (fun h => ?_) (fun h => ?_)
  · refine jss_ret (je_call C.toFx ct (ja_cons (je_fdiv (je_v C.toFx 0) je_int (div_small (by decide) (by decide))) (ja_cons (je_v C.toFx 2) ja_nil)) ⟨c / 12, c / 12 % 90, rfl, rfl, rfl⟩) (.inl ?_)
    unfold thing
    rw [if_pos (of_decide_eq_true h)]
  have n0 := of_decide_eq_false h
  refine jss_if0 (jt_eqi (je_v C.toFx 1) je_int) (fun h => ?_) (fun h => ?_)
  · refine jss_ret (je_sub (je_mod (je_pow (je_v C.toFx 0) je_int ⟨by decide, ?_⟩) (je_pow je_int je_int (pow10 (by decide))) (by decide +kernel)) (je_pow je_int je_int (pow10 (by decide)))) (.inl ?_)
    · have hb' : Builtin.Int.intBits c ≤ 1048600 := hb
      omega
    unfold thing
    rw [if_neg n0, if_pos (of_decide_eq_true h)]
  have n1 := of_decide_eq_false h
  refine jss_if0 (jt_eqi (je_v C.toFx 1) je_int) (fun h => ?_) (fun h => ?_)
  · have y0 : 0 ≤ c / 12 % 90 % 30 := Int.emod_nonneg _ (by decide)
    have y1 : c / 12 % 90 % 30 < 30 := Int.emod_lt_of_pos _ (by decide)
    refine jss_ret (je_tupleL C.toFx (E.mg_eq T.b_tuple) (jl_compR C.toFx 4 (fun _ => true) (fun k => .int (c / ((k : Int) + 1) % 9)) (E.mg_eq T.b_range) (je_mod (je_v C.toFx 2) je_int (by decide)) y0 (by omega) (by decide +kernel) rfl (by decide +kernel) (fun Y n CY sy hn => jts_nil) (fun Y n CY sy hn hf => (je_mod (je_fdiv (je_v CY 0) (je_add (je_v CY 4) je_int) (div_small (by omega) (by omega))) je_int (by decide)))).je) (.inl ?_)
    unfold thing
    rw [if_neg n0, if_neg n1, if_pos (of_decide_eq_true h)]
  have n2 := of_decide_eq_false h
  refine jss_if0 (jt_eqi (je_v C.toFx 1) je_int) (fun h => ?_) (fun h => ?_)
  · have y0 : 0 ≤ c / 12 % 90 % 9 := Int.emod_nonneg _ (by decide)
    have y1 : c / 12 % 90 % 9 < 9 := Int.emod_lt_of_pos _ (by decide)
    refine jss_asg C 3 (je_tup (jd_cons (je_eqi (je_mod (je_v C.toFx 0) je_int (by decide)) je_int) (jd_cons (je_mod (je_v C.toFx 0) je_int (by decide)) jd_nil))) ?_
    refine jss_forR C 4 (E.mg_eq T.b_range) (je_mod (je_v C.toFx 2) je_int (by decide)) (by omega) (by omega) (fun m ρ' μ2 => μ2 = μ' ∧ ∃ o, ρ' = [some (wi c), some (wi (c % 12)), some (wi (c / 12 % 90)), some (.dat (nest c m)), o]) ⟨rfl, none, rfl⟩ ?_ ?_
    · rintro m _ _ hm ⟨rfl, o, rfl⟩
      refine jss_asg C 3 (je_tup (jd_cons (je_v C.toFx 3) (jd_cons (je_v C.toFx 4) jd_nil))) (jss_nil ⟨rfl, _, rfl⟩)
    · rintro _ _ ⟨rfl, o, rfl⟩
      refine jss_ret (je_v C.toFx 3) (.inl ?_)
      unfold thing
      rw [if_neg n0, if_neg n1, if_neg n2, if_pos (of_decide_eq_true h)]
  have n3 := of_decide_eq_false h
  refine jss_if0 (jt_eqi (je_v C.toFx 1) je_int) (fun h => ?_) (fun h => ?_)
  · refine jss_ret (je_tup (jd_cons je_non (jd_cons (je_call C.toFx ct (ja_cons (je_fdiv (je_v C.toFx 0) je_int (div_small (by decide) (by decide))) (ja_cons (je_v C.toFx 2) ja_nil)) ⟨c / 12, c / 12 % 90, rfl, rfl, rfl⟩) (jd_cons (je_neg (je_v C.toFx 2)) (jd_cons (je_tup (jd_cons je_str (jd_cons (je_tup (jd_cons je_non jd_nil)) jd_nil))) jd_nil))))) (.inl ?_)
    unfold thing
    rw [if_neg n0, if_neg n1, if_neg n2, if_neg n3, if_pos (of_decide_eq_true h)]
  · have n4 := of_decide_eq_false h
    refine jss_ret (je_ixl (ds := menu) (fun _ _ => rfl) (je_lst (jd_cons je_non (jd_cons je_str (jd_cons je_bl (jd_cons je_bl (jd_cons je_int (jd_cons (je_tup (jd_cons je_bl (jd_cons (je_tup (jd_cons je_int (jd_cons je_str jd_nil))) jd_nil))) (jd_cons (je_tup jd_nil) jd_nil)))))))) (je_sub (je_v C.toFx 1) je_int) (at_menu (by omega) (by show c % 12 - 5 < 7; omega))) (.inl ?_)
    unfold thing
    rw [if_neg n0, if_neg n1, if_neg n2, if_neg n3, if_neg n4]
theorem bits_lit {i : Int} {n : Nat} (h : i.natAbs < 2 ^ n) : Builtin.Int.intBits i ≤ n := bits_iff.mpr h
theorem getD_mem {l : List Int} {n : Nat} {d : Int} (h : n < l.length) : l.getD n d ∈ l := by
  rw [List.getD_eq_getElem?_getD, List.getElem?_eq_getElem h]
  exact List.getElem_mem h
theorem ten_56 : (10 : Int) ^ (56 : Int).toNat = 100000000000000000000000000000000000000000000000000000000 := by decide +kernel
theorem ten_59 : (10 : Int) ^ (59 : Int).toNat = 100000000000000000000000000000000000000000000000000000000000 := by decide +kernel
theorem ten_58 : (10 : Int) ^ (58 : Int).toNat = 10000000000000000000000000000000000000000000000000000000000 := by decide +kernel
/-- the step lies between 1 and 10 ** 56 -/
theorem step_in (c : Int) : 1 ≤ stepOf c ∧ stepOf c ≤ 100000000000000000000000000000000000000000000000000000000 := by
  have m0 : 0 ≤ c % 4 := Int.emod_nonneg c (by decide)
  have m1 : c % 4 < 4 := Int.emod_lt_of_pos c (by decide)
  have a0 : 0 ≤ c / 7 % 90 := Int.emod_nonneg _ (by decide)
  have a1 : c / 7 % 90 < 90 := Int.emod_lt_of_pos _ (by decide)
  have b0 : 0 ≤ c / 7 % 100000000000000000000000000000000000000000000000000000000 := Int.emod_nonneg _ (by decide)
  have b1 : c / 7 % 100000000000000000000000000000000000000000000000000000000 < 100000000000000000000000000000000000000000000000000000000 := Int.emod_lt_of_pos _ (by decide)
  unfold stepOf
  rw [ten_56]
  have h := getD_mem (l := [1, 2, 1 + c / 7 % 90, 1 + c / 7 % 100000000000000000000000000000000000000000000000000000000]) (n := (c % 4).toNat) (d := 0) (by show (c % 4).toNat < 4; omega)
  simp only [List.mem_cons, List.not_mem_nil, or_false] at h
  omega
theorem base_in (c : Int) : -100000000000000000000000000000000000000000000000000000000000 ≤ baseOf c ∧ baseOf c ≤ 100000000000000000000000000000000000000000000000000000000000 := by
  have m0 : 0 ≤ c / 5 % 4 := Int.emod_nonneg _ (by decide)
  have m1 : c / 5 % 4 < 4 := Int.emod_lt_of_pos _ (by decide)
  have a0 : 0 ≤ c / 4 % 41 := Int.emod_nonneg _ (by decide)
  have a1 : c / 4 % 41 < 41 := Int.emod_lt_of_pos _ (by decide)
  have b0 : 0 ≤ c / 4 % 100000000000000000000000000000000000000000000000000000000000 := Int.emod_nonneg _ (by decide)
  have b1 : c / 4 % 100000000000000000000000000000000000000000000000000000000000 < 100000000000000000000000000000000000000000000000000000000000 := Int.emod_lt_of_pos _ (by decide)
  unfold baseOf
  rw [ten_59, ten_58]
  have h := getD_mem (l := [c / 4 % 41 - 20, -7, c / 4 % 100000000000000000000000000000000000000000000000000000000000 - 5 * 10000000000000000000000000000000000000000000000000000000000, -100000000000000000000000000000000000000000000000000000000000]) (n := (c / 5 % 4).toNat) (d := 0) (by show (c / 5 % 4).toNat < 4; omega)
  simp only [List.mem_cons, List.not_mem_nil, or_false] at h
  omega
theorem step_bits (c : Int) : Builtin.Int.intBits (stepOf c) ≤ 300 := by
  have h := step_in c
  refine bits_lit (Nat.lt_of_le_of_lt (m := 100000000000000000000000000000000000000000000000000000000) (by omega) (by decide +kernel))
theorem c_rising (T : Tx K mg) : CalL P wd K mg base 3 "_law_rising" R_rising := by
  refine cal_atL T.d__law_rising sc__law_rising (fun ws μ w μ' ⟨c, n, e, _, _, _, e2⟩ => ⟨by rw [e]; rfl, e2⟩) fun X E C ws μ w μ' ⟨c, n, e1, hb, hn, e2, e3⟩ => ?_
  subst e1 e2 e3
  have ct := (c_thing (P := P) (wd := wd) (base := base) T).here E
  have m0 : 0 ≤ c % 4 := Int.emod_nonneg c (by decide)
  have m1 : c % 4 < 4 := Int.emod_lt_of_pos c (by decide)
  have l0 : 0 ≤ c / 5 % 4 := Int.emod_nonneg _ (by decide)
  have l1 : c / 5 % 4 < 4 := Int.emod_lt_of_pos _ (by decide)
  have r0 : 0 ≤ c / 11 % 9 := Int.emod_nonneg _ (by decide)
  have r1 : c / 11 % 9 < 9 := Int.emod_lt_of_pos _ (by decide)
  refine jss_asg C 2 (w := wi (stepOf c)) (je_ixl (fun _ _ => rfl) (je_lst (jd_cons je_int (jd_cons je_int (jd_cons (je_add je_int (je_mod (je_fdiv (je_v C.toFx 0) je_int (div_small (by decide) (by decide))) je_int (by decide))) (jd_cons (je_add je_int (je_mod (je_fdiv (je_v C.toFx 0) je_int (div_small (by decide) (by decide))) (je_pow je_int je_int (pow10 (by decide))) (by decide +kernel))) jd_nil))))) (je_mod (je_v C.toFx 0) je_int (by decide)) (at_ints (l := [1, 2, 1 + c / 7 % 90, 1 + c / 7 % (10 : Int) ^ (56 : Int).toNat]) m0 m1)) ?_
  refine jss_asg C 3 (w := wi (baseOf c)) (je_ixl (fun _ _ => rfl) (je_lst (jd_cons (je_sub (je_mod (je_fdiv (je_v C.toFx 0) je_int (div_small (by decide) (by decide))) je_int (by decide)) je_int) (jd_cons (je_neg je_int) (jd_cons (je_sub (je_mod (je_fdiv (je_v C.toFx 0) je_int (div_small (by decide) (by decide))) (je_pow je_int je_int (pow10 (by decide))) (by decide +kernel)) (je_mul je_int (je_pow je_int je_int (pow10 (by decide))) (mul_ok (n := 64) (m := 300) (bits_small (by decide) (by decide)) (bits_lit (by decide +kernel)) (by decide)))) (jd_cons (je_neg (je_pow je_int je_int (pow10 (by decide)))) jd_nil))))) (je_mod (je_fdiv (je_v C.toFx 0) je_int (div_small (by decide) (by decide))) je_int (by decide)) (at_ints (l := [c / 4 % 41 - 20, -7, c / 4 % (10 : Int) ^ (59 : Int).toNat - 5 * (10 : Int) ^ (58 : Int).toNat, -((10 : Int) ^ (59 : Int).toNat)]) l0 l1)) ?_
  refine jss_asg C 4 (je_mod (je_fdiv (je_v C.toFx 0) je_int (div_small (by decide) (by decide))) je_int (by decide)) ?_
  refine jss_retL (jl_compR C.toFx 5 (fun _ => true) (pairD c) (E.mg_eq T.b_range) (je_v C.toFx 1) (by omega) (by omega) (by decide +kernel) rfl (by decide +kernel) (fun Y n CY sy hn => jts_nil) (fun Y j CY sy hj hf => ?_)) ?_
  · have hj' : (j : Int) < 5000 := by omega
    have hjb : Builtin.Int.intBits (j : Int) ≤ 64 := bits_small (by omega) (by omega)
    have hjj : (j : Int) * j ≤ 25000000 := by
      have : (j : Int) * j ≤ 5000 * 5000 := Int.mul_le_mul (by omega) (by omega) (by omega) (by omega)
      omega
    have hjj0 : 0 ≤ (j : Int) * j := Int.mul_nonneg (by omega) (by omega)
    refine je_tup (jd_cons (je_add (je_add (je_v CY 3) (je_mul (je_v CY 2) (je_v CY 5) (mul_ok (step_bits c) hjb (by decide)))) (je_fdiv (je_mul (je_mul (je_v CY 5) (je_v CY 5) (mul_ok hjb hjb (by decide))) (je_v CY 4) (mul_ok (n := 64) (m := 64) (bits_small (by omega) (by omega)) (bits_small (by omega) (by omega)) (by decide))) je_int (div_small (by decide) (by decide)))) (jd_cons (je_call CY (CalX.to sy ct) (ja_cons (je_add (je_v CY 0) (je_v CY 5)) ja_nil) ⟨c + j, rfl, ?_, rfl, rfl⟩) jd_nil))
    exact bits_mono (RB.bits_add (n := 1048580) hb (by omega)) (by decide)
  · rfl
theorem c_bits (T : Tx K mg) : CalL P wd K mg base 1 "_law_bits" R_bits := by
  refine cal_atL T.d__law_bits sc__law_bits (fun ws μ w μ' ⟨c, n, e, _, _, _, e2⟩ => ⟨by rw [e]; rfl, e2⟩) fun X E C ws μ w μ' ⟨c, n, e1, hb, hn, e2, e3⟩ => ?_
  subst e1 e2 e3
  refine jss_retL (jl_compR C.toFx 2 (fun _ => true) (fun k => .int (bitAt c k)) (E.mg_eq T.b_range) (je_v C.toFx 1) (by omega) (by omega) (by decide +kernel) rfl (by decide +kernel) (fun Y n CY sy hn => jts_nil) (fun Y j CY sy hj hf => ?_)) ?_
  · have hj' : (j : Int) < 5000 := by omega
    refine je_mod (je_fdiv (je_mod (je_mul (je_add (je_v CY 0) je_int) (je_add (je_mul (je_v CY 2) je_int (mul_ok (n := 64) (m := 64) (bits_small (by omega) (by omega)) (bits_small (by decide) (by decide)) (by decide))) je_int) (mul_ok (n := 1048581) (m := 64) (RB.bits_add hb (bits_mono (bits_small (by decide) (by decide)) (by decide))) (bits_small (by omega) (by omega)) (by decide))) je_int (by decide)) je_int (div_small (by decide) (by decide))) je_int (by decide)
  · rfl
end

/-! ### trees as they grow -/
inductive T where
  | nil
  | node (p : Bool) (l : T) (k : Int) (th : PyData) (r : T)
def T.size : T → Nat
  | .nil => 0
  | .node _ l _ _ r => l.size + 1 + r.size
def T.d : T → PyData
  | .nil => .none
  | .node p l k th r => .tuple [.bool p, l.d, .int k, th, r.d, .int ((l.size + 1 + r.size : Nat) : Int)]
abbrev PP := Int × PyData
abbrev Gr := T × List Int × List PP
def hb : List Int → Int
  | [] => 0
  | b :: _ => b
def mkN (p : Bool) (ch : List Int → List PP → Gr) (bs : List Int) (ps : List PP) : Gr :=
  (.node p (ch bs ps).1 ((ch bs ps).2.2.headD (0, .none)).1 ((ch bs ps).2.2.headD (0, .none)).2 (ch (ch bs ps).2.1 (ch bs ps).2.2.tail).1, (ch (ch bs ps).2.1 (ch bs ps).2.2.tail).2.1, (ch (ch bs ps).2.1 (ch bs ps).2.2.tail).2.2)
def GF : Nat → List Int → List PP → Gr
  | 0, bs, ps => if hb bs = 1 then mkN true (fun bs ps => (.nil, bs.tail, ps)) bs.tail ps else (.nil, bs.tail, ps)
  | r + 1, bs, ps => if hb bs = 1 then mkN true (fun bs ps => mkN false (GF r) bs.tail ps) bs.tail ps else mkN false (GF r) bs.tail ps
def GU : Nat → List Int → List PP → Gr
  | 0, bs, ps => (.nil, bs.tail, ps)
  | r + 1, bs, ps => mkN false (GF r) bs.tail ps
def G (r : Nat) (u : Bool) : List Int → List PP → Gr := if u then GU r else GF r
/-- how deep it may go -/
def ms (r : Nat) (u : Bool) : Nat := 2 * r + if u then 0 else 1
def Bits (bs : List Int) : Prop := ∀ b ∈ bs, b = 0 ∨ b = 1
theorem hb_01 {bs : List Int} (h : Bits bs) : hb bs = 0 ∨ hb bs = 1 := by
  cases bs with
  | nil => exact .inl rfl
  | cons b bs => exact h b List.mem_cons_self
theorem Bits.tail {bs : List Int} (h : Bits bs) : Bits bs.tail := fun b hb => h b (List.mem_of_mem_tail hb)
theorem G_true (r : Nat) : G r true = GU r := rfl
theorem G_false (r : Nat) : G r false = GF r := rfl
/-- one knot, or none -/
theorem G_shape (r : Nat) (u : Bool) (bs : List Int) (h : Bits bs) :
    (r = 0 ∧ (u || decide (hb bs = 0)) = true ∧ ∀ ps, G r u bs ps = (.nil, bs.tail, ps)) ∨
    ∃ (p : Bool) (r' : Nat), p = (!u && decide (hb bs = 1)) ∧ (r : Int) - (if (!p) = true then 1 else 0) = (r' : Int) ∧ ms r' p < ms r u ∧ (decide ((r : Int) = 0) && (u || decide (hb bs = 0))) = false ∧ ∀ ps, G r u bs ps = mkN p (G r' p) bs.tail ps := by
  rcases hb_01 h with h0 | h0 <;> cases u <;> cases r
  · left; refine ⟨rfl, by rw [h0]; rfl, fun ps => ?_⟩
    rw [G_false]; unfold GF; rw [h0]; rfl
  · rename_i r
    right; refine ⟨false, r, by rw [h0]; rfl, by simp <;> omega, by unfold ms; simp <;> omega, by rw [decide_eq_false (by omega)]; rfl, fun ps => ?_⟩
    rw [G_false, G_false]; conv => lhs; unfold GF
    rw [h0]; rfl
  · left; exact ⟨rfl, rfl, fun ps => rfl⟩
  · rename_i r
    right; refine ⟨false, r, rfl, by simp <;> omega, by unfold ms; simp <;> omega, by rw [decide_eq_false (by omega)]; rfl, fun ps => rfl⟩
  · right; refine ⟨true, 0, by rw [h0]; rfl, by simp, by unfold ms; simp, by rw [h0]; rfl, fun ps => ?_⟩
    rw [G_false, G_true]; unfold GF; rw [h0]; rfl
  · rename_i r
    right; refine ⟨true, r + 1, by rw [h0]; rfl, by simp, by unfold ms; simp, by rw [decide_eq_false (by omega)]; rfl, fun ps => ?_⟩
    rw [G_false, G_true]; conv => lhs; unfold GF
    rw [h0]; rfl
  · left; exact ⟨rfl, rfl, fun ps => rfl⟩
  · rename_i r
    right; refine ⟨false, r, rfl, by simp <;> omega, by unfold ms; simp <;> omega, by rw [decide_eq_false (by omega)]; rfl, fun ps => rfl⟩
/-- what is used up -/
theorem G_rest : ∀ (n r : Nat) (u : Bool) (bs : List Int) (ps : List PP), ms r u < n → Bits bs → (G r u bs ps).1.size ≤ ps.length → (G r u bs ps).2.2 = ps.drop (G r u bs ps).1.size ∧ Bits (G r u bs ps).2.1
  | 0, _, _, _, _, h, _, _ => absurd h (Nat.not_lt_zero _)
  | n + 1, r, u, bs, ps, hn, hB, hs => by
    rcases G_shape r u bs hB with ⟨_, _, e⟩ | ⟨p, r', _, _, hm, _, e⟩
    · rw [e]; exact ⟨rfl, hB.tail⟩
    · rw [e] at hs ⊢
      unfold mkN at hs ⊢
      have hs' : (G r' p bs.tail ps).1.size + 1 + (G r' p (G r' p bs.tail ps).2.1 (G r' p bs.tail ps).2.2.tail).1.size ≤ ps.length := hs
      have q1 := G_rest n r' p bs.tail ps (by omega) hB.tail (by omega)
      have l1 : (G r' p bs.tail ps).2.2.tail.length = ps.length - (G r' p bs.tail ps).1.size - 1 := by rw [q1.1, List.length_tail, List.length_drop]
      have q2 := G_rest n r' p (G r' p bs.tail ps).2.1 (G r' p bs.tail ps).2.2.tail (by omega) q1.2 (by omega)
      refine ⟨?_, q2.2⟩
      show (G r' p (G r' p bs.tail ps).2.1 (G r' p bs.tail ps).2.2.tail).2.2 = ps.drop ((G r' p bs.tail ps).1.size + 1 + (G r' p (G r' p bs.tail ps).2.1 (G r' p bs.tail ps).2.2.tail).1.size)
      rw [q2.1]
      generalize (G r' p (G r' p bs.tail ps).2.1 (G r' p bs.tail ps).2.2.tail).1.size = z
      rw [q1.1, List.tail_drop, List.drop_drop]

/-! ### _law_alike -/
section
variable {P : Program} {wd : World} {K : PySem.W.Frag} {mg : Str → Option Value} {base : Heap}
end

def pd (q : PP) : PyData := .tuple [.int q.1, q.2]
def cB (bs : List Int) : List PyData := (bs.map PyData.int).reverse
def cP (ps : List PP) : List PyData := (ps.map pd).reverse
theorem cB_cons (b : Int) (bs : List Int) : cB (b :: bs) = cB bs ++ [.int b] := by unfold cB; rw [List.map_cons, List.reverse_cons]
theorem cP_cons (q : PP) (ps : List PP) : cP (q :: ps) = cP ps ++ [pd q] := by unfold cP; rw [List.map_cons, List.reverse_cons]
theorem cB_empty (bs : List Int) : (!(cB bs).isEmpty) = !bs.isEmpty := by
  cases bs with
  | nil => rfl
  | cons b bs => rw [cB_cons]; simp
def R_grown (m : Nat) : List W → Mu → W → Mu → Prop := fun ws μ w μ' => ∃ (a b : Addr) (r : Nat) (u : Bool) (bs : List Int) (ps : List PP) (i j : Nat), ws = [.loc a, .loc b, wi r, wb u] ∧ μ[i]? = some (a, OD.l <| cB bs) ∧ μ[j]? = some (b, OD.l <| cP ps) ∧ i ≠ j ∧ Bits bs ∧ (G r u bs ps).1.size ≤ ps.length ∧ ms r u < m ∧
  w = .dat (G r u bs ps).1.d ∧ μ' = S2 μ i j (a, OD.l <| cB (G r u bs ps).2.1) (b, OD.l <| cP (G r u bs ps).2.2)
theorem T.isNone_d (t : T) : isNone (.dat t.d) = (match t with | .nil => true | _ => false) := by cases t <;> rfl
section
variable {P : Program} {wd : World} {K : PySem.W.Frag} {mg : Str → Option Value} {base : Heap}
theorem c_grown (TX : Tx K mg) : ∀ m, CalW P wd K mg base m "_law_grown" (R_grown m)
  | 0 => cal_none TX.d__law_grown fun ws μ w μ' ⟨_, _, _, _, _, _, _, _, _, _, _, _, _, _, h, _⟩ => Nat.not_lt_zero _ h
  | m + 1 => by
    refine cal_at TX.d__law_grown sc__law_grown (fun ws μ w μ' ⟨_, _, _, _, _, _, _, _, e, _⟩ => by rw [e]; rfl) fun X E C ws μ w μ' ⟨a, b, r, u, bs, ps, i, j, e1, hi, hj, hij, hB, hs, hm, e2, e3⟩ => ?_
    subst e1 e2 e3
    have cg := (c_grown TX m).here E
    have mint := E.mg_eq TX.b_int
    have li : i < μ.length := (List.getElem?_eq_some_iff.mp hi).1
    have lj : j < μ.length := (List.getElem?_eq_some_iff.mp hj).1
    refine jss_asg C 4 je_int ?_
    -- the bit
    refine jss_ifM [some (.loc a), some (.loc b), some (wi r), some (wb u), some (wi (hb bs)), none, none, none, none, none, none] (S2 μ i j (a, OD.l <| cB bs.tail) (b, OD.l <| cP ps)) (jt_loc (n := i) (je_v C.toFx 0) hi) (fun h => ?_) (fun h => ?_) ?_
    · cases bs with
      | nil => exact absurd (show false = true from h) Bool.false_ne_true
      | cons b0 bs =>
        rw [cB_cons] at hi
        refine jss_asg C 4 (je_pop (je_v C.toFx 0) hi) (jss_nil ?_)
        have e : (μ.set i (a, OD.l <| cB bs)) = S2 μ i j (a, OD.l <| cB bs) (b, OD.l <| cP ps) := by
          unfold S2
          exact (set_here (by rw [List.getElem?_set_ne hij]; exact hj)).symm
        rw [e]
        rfl
    · cases bs with
      | nil =>
        refine jss_nil ?_
        rw [S2.here (by exact hi) hj]
        rfl
      | cons b0 bs =>
        rw [cB_empty] at h
        exact absurd h (by simp)
    -- none or a knot
    rcases G_shape r u bs hB with ⟨h0, h1, e⟩ | ⟨p, r', hp, hr, hms, hno, e⟩
    · subst h0
      refine jss_if0 (b1 := true) ((jw_and (jt_eqi (je_v C.toFx 2) je_int) fun h => (jw_and1 (jw_or (jt_b (je_v C.toFx 3)) fun h => (jw_or1 (jt_eqi (je_v C.toFx 4) je_int))).t)).t.cast (by rw [h1]; rfl)) (fun h => ?_) (fun h => absurd h.symm Bool.false_ne_true)
      refine jss_ret je_non (.inl ?_)
      rw [e]
      rfl
    · refine jss_if0 (b1 := false) ((jw_and (jt_eqi (je_v C.toFx 2) je_int) fun h => (jw_and1 (jw_or (jt_b (je_v C.toFx 3)) fun h => (jw_or1 (jt_eqi (je_v C.toFx 4) je_int))).t)).t.cast hno) (fun h => absurd h Bool.false_ne_true) (fun h => ?_)
      rw [e] at hs ⊢
      unfold mkN at hs ⊢
      have hs' : (G r' p bs.tail ps).1.size + 1 + (G r' p (G r' p bs.tail ps).2.1 (G r' p bs.tail ps).2.2.tail).1.size ≤ ps.length := hs
      have q1 := G_rest m r' p bs.tail ps (by omega) hB.tail (by omega)
      obtain ⟨q, ps1, hq⟩ : ∃ q ps1, (G r' p bs.tail ps).2.2 = q :: ps1 := by
        cases h : (G r' p bs.tail ps).2.2 with
        | nil =>
          rw [q1.1] at h
          have := congrArg List.length h
          rw [List.length_drop, List.length_nil] at this
          omega
        | cons q ps1 => exact ⟨q, ps1, rfl⟩
      have hl1 : ps1.length = ps.length - (G r' p bs.tail ps).1.size - 1 := by
        have h := q1.1
        rw [hq] at h
        have := congrArg List.length h
        rw [List.length_drop, List.length_cons] at this
        omega
      rw [hq] at hs' ⊢
      have hB1 := q1.2
      generalize e1 : G r' p bs.tail ps = g1 at *
      have hs2 : g1.1.size + 1 + (G r' p g1.2.1 ps1).1.size ≤ ps.length := hs'
      show JSs X _ _ _ (fun o => o = .rt (.dat (T.node p g1.1 q.1 q.2 (G r' p g1.2.1 ps1).1).d) (S2 μ i j (a, OD.l <| cB (G r' p g1.2.1 ps1).2.1) (b, OD.l <| cP (G r' p g1.2.1 ps1).2.2)) ∨ _)
      -- the paint
      refine jss_asg C 5 (w := wb p) ((je_and (je_not (je_v C.toFx 3)) fun h => (je_one (je_eqi (je_v C.toFx 4) je_int))).cast (by rw [hp])) ?_
      refine jss_asg C 6 (je_call C.toFx cg (ja_cons (je_v C.toFx 0) (ja_cons (je_v C.toFx 1) (ja_cons ((je_sub (je_v C.toFx 2) (je_intB C.toFx mint (je_not (je_v C.toFx 5)))).cast (by rw [hr])) (ja_cons (je_v C.toFx 5) ja_nil))))
        ⟨a, b, r', p, bs.tail, ps, i, j, rfl, S2.l li hij, S2.r lj, hij, hB.tail, by rw [e1]; omega, by omega, rfl, rfl⟩) ?_
      rw [e1, S2.s2 hij, hq]
      refine jss_asg C 7 (je_pop (je_v C.toFx 1) (ds := cP ps1) (d := pd q) (n := j) (by rw [S2.r lj, cP_cons])) ?_
      rw [S2.sr]
      refine jss_asg C 8 (je_call C.toFx cg (ja_cons (je_v C.toFx 0) (ja_cons (je_v C.toFx 1) (ja_cons ((je_sub (je_v C.toFx 2) (je_intB C.toFx mint (je_not (je_v C.toFx 5)))).cast (by rw [hr])) (ja_cons (je_v C.toFx 5) ja_nil))))
        ⟨a, b, r', p, g1.2.1, ps1, i, j, rfl, S2.l li hij, S2.r lj, hij, hB1, by omega, by omega, rfl, rfl⟩) ?_
      rw [S2.s2 hij]
      generalize G r' p g1.2.1 ps1 = g2 at *
      refine jss_asg C 9 je_int ?_
      refine jss_forL C 10 (je_lst (jd_cons (je_v C.toFx 6) (jd_cons (je_v C.toFx 8) jd_nil))) (fun n ρ' μ' => μ' = S2 μ i j (a, OD.l <| cB g2.2.1) (b, OD.l <| cP g2.2.2) ∧ ∃ o, ρ' = [some (.loc a), some (.loc b), some (wi r), some (wb u), some (wi (hb bs)), some (wb p), some (.dat g1.1.d), some (.dat (pd q)), some (.dat g2.1.d), some (wi (if n = 0 then 1 else if n = 1 then 1 + (g1.1.size : Int) else 1 + (g1.1.size : Int) + (g2.1.size : Int))), o]) ⟨rfl, none, rfl⟩ ?_ ?_
      · rintro n d _ _ hn ⟨rfl, o, rfl⟩
        obtain ⟨t, ht, hv⟩ : ∃ t : T, d = t.d ∧ (if n = 0 then 1 else if n = 1 then 1 + (g1.1.size : Int) else 1 + (g1.1.size : Int) + (g2.1.size : Int)) + (t.size : Int) = (if n + 1 = 0 then 1 else if n + 1 = 1 then 1 + (g1.1.size : Int) else 1 + (g1.1.size : Int) + (g2.1.size : Int)) := by
          match n, hn with
          | 0, hn => exact ⟨g1.1, (Option.some.inj hn).symm, by simp⟩
          | 1, hn => exact ⟨g2.1, (Option.some.inj hn).symm, by simp⟩
          | n + 2, hn => simp at hn
        subst ht
        refine jss_ifM [some (.loc a), some (.loc b), some (wi r), some (wb u), some (wi (hb bs)), some (wb p), some (.dat g1.1.d), some (.dat (pd q)), some (.dat g2.1.d), some (wi (if n + 1 = 0 then 1 else if n + 1 = 1 then 1 + (g1.1.size : Int) else 1 + (g1.1.size : Int) + (g2.1.size : Int))), some (.dat t.d)] _ (jt_notN (je_v C.toFx 10)) (fun h => ?_) (fun h => ?_) (jss_nil ⟨rfl, _, rfl⟩)
        · cases t with
          | nil => exact absurd (show false = true from h) Bool.false_ne_true
          | node p' l' k' th' r'' =>
            refine jss_asg C 9 ((je_add (je_v C.toFx 9) (je_ix (fun _ _ => rfl) (je_v C.toFx 10) je_int rfl)).cast (w' := wi (if n + 1 = 0 then 1 else if n + 1 = 1 then 1 + (g1.1.size : Int) else 1 + (g1.1.size : Int) + (g2.1.size : Int))) (by rw [← hv]; rfl)) (jss_nil rfl)
        · cases t with
          | nil =>
            refine jss_nil ?_
            rw [← hv]
            show _ = Out.nx _ _
            rw [show ((T.nil.size : Nat) : Int) = 0 from rfl, Int.add_zero]
            rfl
          | node p' l' k' th' r'' => exact absurd (show true = false from h) (by decide)
      · rintro _ _ ⟨rfl, o, rfl⟩
        refine jss_ret (je_tup (jd_cons (je_v C.toFx 5) (jd_cons (je_v C.toFx 6) (jd_cons (je_ix (fun _ _ => rfl) (je_v C.toFx 7) je_int rfl) (jd_cons (je_ix (fun _ _ => rfl) (je_v C.toFx 7) je_int rfl) (jd_cons (je_v C.toFx 8) (jd_cons (je_v C.toFx 9) jd_nil))))))) (.inl ?_)
        have ev : 1 + (g1.1.size : Int) + (g2.1.size : Int) = ((g1.1.size + 1 + g2.1.size : Nat) : Int) := by omega
        show Out.rt (.dat (.tuple [.bool p, g1.1.d, .int q.1, q.2, g2.1.d, .int (1 + (g1.1.size : Int) + (g2.1.size : Int))])) _ = _
        rw [ev]
        rfl
end

/-! ### how many knots -/
def mU : Nat → Nat
  | 0 => 0
  | r + 1 => 1 + 2 * (1 + 2 * mU r)
def mF (r : Nat) : Nat := 1 + 2 * mU r
theorem GF_size : ∀ (r : Nat) (bs : List Int) (ps : List PP), (GF r bs ps).1.size ≤ mF r
  | 0, bs, ps => by
    unfold GF
    split
    · show (0 : Nat) + 1 + 0 ≤ 1; omega
    · show (0 : Nat) ≤ 1; omega
  | r + 1, bs, ps => by
    have ih := GF_size r
    have one : ∀ bs ps, (mkN false (GF r) bs ps).1.size ≤ 1 + 2 * mF r := fun bs ps => by
      have h1 := ih bs ps
      have h2 := ih (GF r bs ps).2.1 (GF r bs ps).2.2.tail
      show (GF r bs ps).1.size + 1 + (GF r (GF r bs ps).2.1 (GF r bs ps).2.2.tail).1.size ≤ _
      omega
    have e : mF (r + 1) = 1 + 2 * (1 + 2 * mF r) := rfl
    unfold GF
    split
    · have h1 := one bs.tail.tail ps
      have h2 := one (mkN false (GF r) bs.tail.tail ps).2.1.tail (mkN false (GF r) bs.tail.tail ps).2.2.tail
      show (mkN false (GF r) bs.tail.tail ps).1.size + 1 + (mkN false (GF r) (mkN false (GF r) bs.tail.tail ps).2.1.tail (mkN false (GF r) bs.tail.tail ps).2.2.tail).1.size ≤ _
      omega
    · have h1 := one bs.tail ps
      omega
theorem G_size (r : Nat) (u : Bool) (bs : List Int) (ps : List PP) : (G r u bs ps).1.size ≤ if u then mU r else mF r := by
  cases u with
  | false => exact GF_size r bs ps
  | true =>
    rw [G_true]
    cases r with
    | zero => exact Nat.le_refl _
    | succ r =>
      have h1 := GF_size r bs.tail ps
      have h2 := GF_size r (GF r bs.tail ps).2.1 (GF r bs.tail ps).2.2.tail
      show (GF r bs.tail ps).1.size + 1 + (GF r (GF r bs.tail ps).2.1 (GF r bs.tail ps).2.2.tail).1.size ≤ 1 + 2 * mF r
      omega

/-! ### things and trees are alike themselves -/
theorem al_atom {d : PyData} (n : Nat) (h : match d with | .tuple _ => False | .list _ => False | .dict _ => False | _ => True) : Al (n + 1) d := by
  cases d <;> first | trivial | exact h.elim
theorem nest_al (c : Int) : ∀ n, Al (n + 2) (nest c n)
  | 0 => ⟨by exact of_decide_eq_true rfl, fun d hd => by
    simp only [List.mem_cons, List.not_mem_nil, or_false] at hd
    rcases hd with rfl | rfl <;> exact trivial⟩
  | n + 1 => ⟨by exact of_decide_eq_true rfl, fun d hd => by
    simp only [List.mem_cons, List.not_mem_nil, or_false] at hd
    rcases hd with rfl | rfl
    · exact nest_al c n
    · exact trivial⟩
theorem thing_al (c : Int) : Al 12 (thing c) := by
  have m1 : c % 12 < 12 := Int.emod_lt_of_pos c (by decide)
  unfold thing
  split
  · exact trivial
  split
  · exact trivial
  split
  · have y1 : c / 12 % 90 % 30 < 30 := Int.emod_lt_of_pos _ (by decide)
    refine ⟨Nat.le_trans (gv_len _ _ _) (by omega), fun d hd => ?_⟩
    rw [gv_true] at hd
    obtain ⟨k, _, rfl⟩ := List.mem_map.mp hd
    exact trivial
  split
  · have y1 : c / 12 % 90 % 9 < 9 := Int.emod_lt_of_pos _ (by decide)
    exact (nest_al c _).mono (by omega)
  split
  · refine ⟨by exact of_decide_eq_true rfl, fun d hd => ?_⟩
    simp only [List.mem_cons, List.not_mem_nil, or_false] at hd
    rcases hd with rfl | rfl | rfl | rfl
    · exact trivial
    · exact trivial
    · exact trivial
    · refine ⟨by exact of_decide_eq_true rfl, fun d hd => ?_⟩
      simp only [List.mem_cons, List.not_mem_nil, or_false] at hd
      rcases hd with rfl | rfl
      · exact trivial
      · refine ⟨by exact of_decide_eq_true rfl, fun d hd => ?_⟩
        simp only [List.mem_cons, List.not_mem_nil, or_false] at hd
        subst hd
        exact trivial
  · have h : (c % 12 - 5).toNat < 7 := by omega
    have all : ∀ d ∈ menu, Al 12 d := fun d hd => by
      unfold menu at hd
      simp only [List.mem_cons, List.not_mem_nil, or_false] at hd
      rcases hd with rfl | rfl | rfl | rfl | rfl | rfl | rfl
      · exact trivial
      · exact trivial
      · exact trivial
      · exact trivial
      · exact trivial
      · refine ⟨by exact of_decide_eq_true rfl, fun d hd => ?_⟩
        simp only [List.mem_cons, List.not_mem_nil, or_false] at hd
        rcases hd with rfl | rfl
        · exact trivial
        · refine ⟨by exact of_decide_eq_true rfl, fun d hd => ?_⟩
          simp only [List.mem_cons, List.not_mem_nil, or_false] at hd
          rcases hd with rfl | rfl <;> exact trivial
      · exact ⟨by exact of_decide_eq_true rfl, fun d hd => by simp at hd⟩
    refine all _ ?_
    rw [List.getD_eq_getElem?_getD, List.getElem?_eq_getElem (show (c % 12 - 5).toNat < menu.length from h)]
    exact List.getElem_mem _
theorem node_al {n : Nat} {p : Bool} {l r : T} {k : Int} {th : PyData} (hl : Al n l.d) (hr : Al n r.d) (ht : Al n th) (hn : 1 ≤ n) : Al (n + 1) (T.node p l k th r).d := by
  refine ⟨by exact of_decide_eq_true rfl, fun d hd => ?_⟩
  obtain ⟨m, rfl⟩ : ∃ m, n = m + 1 := ⟨n - 1, by omega⟩
  simp only [List.mem_cons, List.not_mem_nil, or_false] at hd
  rcases hd with rfl | rfl | rfl | rfl | rfl | rfl
  · exact trivial
  · exact hl
  · exact trivial
  · exact ht
  · exact hr
  · exact trivial
theorem G_al : ∀ (n r : Nat) (u : Bool) (bs : List Int) (ps : List PP), ms r u < n → Bits bs → (∀ q ∈ ps, Al 12 q.2) → (G r u bs ps).1.size ≤ ps.length → Al (12 + n) (G r u bs ps).1.d
  | 0, _, _, _, _, h, _, _, _ => absurd h (Nat.not_lt_zero _)
  | n + 1, r, u, bs, ps, hn, hB, hq, hs => by
    rcases G_shape r u bs hB with ⟨_, _, e⟩ | ⟨p, r', _, _, hm, _, e⟩
    · rw [e]; exact al_atom _ trivial
    · rw [e] at hs ⊢
      unfold mkN at hs ⊢
      have hs' : (G r' p bs.tail ps).1.size + 1 + (G r' p (G r' p bs.tail ps).2.1 (G r' p bs.tail ps).2.2.tail).1.size ≤ ps.length := hs
      have q1 := G_rest n r' p bs.tail ps (by omega) hB.tail (by omega)
      have l1 : (G r' p bs.tail ps).2.2.tail.length = ps.length - (G r' p bs.tail ps).1.size - 1 := by rw [q1.1, List.length_tail, List.length_drop]
      have sub : ∀ q ∈ (G r' p bs.tail ps).2.2, q ∈ ps := fun q h => by rw [q1.1] at h; exact List.mem_of_mem_drop h
      have hd : (G r' p bs.tail ps).2.2.headD (0, .none) ∈ ps := by
        cases h : (G r' p bs.tail ps).2.2 with
        | nil =>
          rw [q1.1] at h
          have := congrArg List.length h
          rw [List.length_drop, List.length_nil] at this
          omega
        | cons q qs => exact sub q (by rw [h]; exact List.mem_cons_self)
      refine node_al (n := 12 + n) ?_ ?_ ((hq _ hd).mono (by omega)) (by omega)
      · exact G_al n r' p bs.tail ps (by omega) hB.tail hq (by omega)
      · exact G_al n r' p _ _ (by omega) q1.2 (fun q h => hq q (sub q (List.mem_of_mem_tail h))) (by omega)
theorem T.sz (t : T) : SzD t.d ((t.size : Nat) : Int) := by cases t <;> rfl

/-! ### the law's lists -/
def psOf (c : Int) (n : Nat) : List PP := (List.range n).map fun k => (keyAt c k, thing (c + k))
theorem ps_rev (c : Int) (n : Nat) : (gv (fun _ => true) (pairD c) n).reverse = cP (psOf c n) := by
  unfold cP psOf
  rw [gv_true, List.map_map]
  rfl
def bsOf (c : Int) (n : Nat) : List Int := ((List.range n).map (bitAt c)).reverse
theorem bs_list (c : Int) (n : Nat) : gv (fun _ => true) (fun k => .int (bitAt c k)) n = cB (bsOf c n) := by
  unfold cB bsOf
  rw [gv_true, List.map_reverse, List.reverse_reverse, List.map_map]
  rfl
theorem bsOf_bits (c : Int) (n : Nat) : Bits (bsOf c n) := fun b hb => by
  unfold bsOf at hb
  obtain ⟨k, _, rfl⟩ := List.mem_map.mp (List.mem_reverse.mp hb)
  have h0 : 0 ≤ bitAt c k := Int.emod_nonneg _ (by decide)
  have h1 : bitAt c k < 2 := Int.emod_lt_of_pos _ (by decide)
  omega
theorem psOf_len (c : Int) (n : Nat) : (psOf c n).length = n := by unfold psOf; rw [List.length_map, List.length_range]
theorem psOf_al (c : Int) (n : Nat) : ∀ q ∈ psOf c n, Al 12 q.2 := fun q hq => by
  unfold psOf at hq
  obtain ⟨k, _, rfl⟩ := List.mem_map.mp hq
  exact thing_al _
theorem psOf_drop (c : Int) {n j : Nat} (h : j < n) : (psOf c n).drop j = (keyAt c j, thing (c + j)) :: (psOf c n).drop (j + 1) := by
  have hl : j < (psOf c n).length := by rw [psOf_len]; exact h
  have e : (psOf c n)[j]? = some (keyAt c j, thing (c + j)) := by
    unfold psOf
    rw [List.getElem?_map, List.getElem?_range h]
    rfl
  rw [List.drop_eq_getElem_cons hl]
  rw [List.getElem?_eq_getElem hl] at e
  rw [Option.some.inj e]
theorem cell_bits {ns : List Int} (h : ∀ z ∈ ns, Builtin.Int.intBits z ≤ 1048576) (j : Nat) : Builtin.Int.intBits (ns.getD j 0) ≤ 1048576 := by
  by_cases hj : j < ns.length
  · rw [List.getD_eq_getElem?_getD, List.getElem?_eq_getElem hj]
    exact h _ (List.getElem_mem hj)
  · rw [List.getD_eq_getElem?_getD, List.getElem?_eq_none (by omega)]
    show Builtin.Int.intBits 0 ≤ _
    exact Nat.le_trans (bits_small (by decide) (by decide)) (by decide)
theorem eqv_ints (l : List Int) : PyData.eqv (.list (l.map .int)) (.list (l.map .int)) = true := by
  unfold PyData.eqv
  induction l with
  | nil => simp [PyData.eqvAll]
  | cons x l ih =>
    rw [List.map_cons]
    unfold PyData.eqvAll
    rw [ih]
    simp [PyData.eqv]
theorem lay_ints (l : List Int) : PyData.canLayAll0 (l.map .int) = true := by
  induction l with
  | nil => simp [PyData.canLayAll0]
  | cons x l ih =>
    rw [List.map_cons]
    unfold PyData.canLayAll0
    rw [ih]
    simp [PyData.canLay0]
theorem dep_ints (l : List Int) : PyData.depthAll (l.map .int) = 0 := by
  induction l with
  | nil => simp [PyData.depthAll]
  | cons x l ih =>
    rw [List.map_cons]
    unfold PyData.depthAll
    rw [ih]
    simp [PyData.depth]
theorem shaped_ints (l : List Int) : SeqAt.shaped (.list (l.map .int)) = true := by
  unfold SeqAt.shaped
  unfold PyData.canLay0 PyData.depth
  rw [lay_ints, dep_ints]
  rfl
section
variable {P : Program} {wd : World} {K : PySem.W.Frag} {mg : Str → Option Value} {base : Heap}
def SpLaw (K : PySem.W.Frag) : Sp := fun vs H Q _ => ∃ (a : Addr) (ns : List Int), vs = [.ref a] ∧ SqL K H a (ns.map V.int) ∧ ns.length ≤ 63 ∧ (∀ z ∈ ns, Builtin.Int.intBits z ≤ 1048576) ∧ ∀ H', Q (.bl true) H'
theorem dp_ints {G : Hp} : ∀ ns : List Int, DpAll K G (ns.map V.int) (ns.map PyData.int)
  | [] => .nil
  | n :: ns => .cons (Dp.int n) (dp_ints ns)
/-- the law's own frame -/
theorem law_of {st : Stmt} {f : Addr} {fd : FuncData} {N : List Str} {k : Nat} (F : Fun K "law" "law" st f fd) (S : FnScope N ["_law_script"] (defScope st))
    (body : ∀ X : Cx, IsEnv X P wd K mg base → Fb .calm X N (defScope st) k → ∀ ns : List Int, ns.length ≤ 63 → (∀ z ∈ ns, Builtin.Int.intBits z ≤ 1048576) →
      JSs X (some (.dat (.list (ns.map .int))) :: List.replicate (N.length - 1) none) [] (defBody st) (fun o => ∃ μ', o = .rt (wb true) μ')) : FnOk P wd K mg base CX0 (k + 1) f fd ["_law_script"] (SpLaw K) := by
  refine F.ok S (fun vs H Q E ⟨a, ns, e, _⟩ => by rw [e]; rfl) (fun cdv A outer s H vs Q E hr ⟨a, ns, e, hS, hl, hb, q⟩ => ?_)
  subst e
  refine ⟨_, body (cxOf CX0 P wd K mg base N "law" (defScope st) f cdv A outer s H E).nox ⟨rfl, rfl, rfl, rfl, rfl⟩ ⟨⟨rfl, rfl, S.nd, L2H.roomH_of hr, fun _ => ⟨rfl, hr⟩, fun z => Md.noConfusion z⟩, fun _ => rfl, PassesOwn.never, rfl, rfl⟩ ns hl hb _ takesX0, H, st_start (ws := [.dat (.list (ns.map .int))]) (Same.refl H) ⟨fun n a ds e => by simp at e, List.nodup_nil⟩ (.cons (Dp.lst hS (dp_ints ns)) .nil), ?_⟩
  refine ⟨fun ρ' μ2 σ' H' G' φ => (by obtain ⟨_, φ⟩ := φ; cases φ), fun w2 μ2 v H' G' φ g m2 wv => ?_, fun ds μ2 p xs H' G' φ => (by obtain ⟨_, φ⟩ := φ; cases φ), fun ρ' μ2 σ' H' G' φ => (by obtain ⟨_, φ⟩ := φ; cases φ), fun ρ' μ2 σ' H' G' φ => (by obtain ⟨_, φ⟩ := φ; cases φ), fun c ρ' μ2 σ' H' G' φ => (by obtain ⟨_, φ⟩ := φ; cases φ)⟩
  obtain ⟨_, φ⟩ := φ
  cases φ
  rw [wv_bl wv]
  exact q H'
end
theorem at_gv (v : Nat → PyData) {n i : Nat} (h : i < n) : atI (gv (fun _ => true) v n) (i : Int) = some (v i) := by
  refine atI_nat ?_
  rw [gv_true, List.getElem?_map, List.getElem?_range h]
  rfl
theorem mod_nat {c m : Int} (h : 0 < m) : c % m = (((c % m).toNat : Nat) : Int) := (Int.toNat_of_nonneg (Int.emod_nonneg c (by omega))).symm

/-! ### the order of a tree, how deep it is -/
def T.ino : T → List PP
  | .nil => []
  | .node _ l k th r => l.ino ++ (k, th) :: r.ino
def T.dep : T → Nat
  | .nil => 0
  | .node _ l _ _ r => max l.dep r.dep + 1
theorem T.ino_len (t : T) : t.ino.length = t.size := by
  induction t with
  | nil => rfl
  | node p l k th r h1 h2 =>
    show (l.ino ++ (k, th) :: r.ino).length = l.size + 1 + r.size
    rw [List.length_append, List.length_cons, h1, h2]
    omega
theorem G_ino : ∀ (n r : Nat) (u : Bool) (bs : List Int) (ps : List PP), ms r u < n → Bits bs → (G r u bs ps).1.size ≤ ps.length → (G r u bs ps).1.ino = ps.take (G r u bs ps).1.size ∧ (G r u bs ps).1.dep ≤ ms r u
  | 0, _, _, _, _, h, _, _ => absurd h (Nat.not_lt_zero _)
  | n + 1, r, u, bs, ps, hn, hB, hs => by
    rcases G_shape r u bs hB with ⟨_, _, e⟩ | ⟨p, r', _, _, hm, _, e⟩
    · rw [e]
      refine ⟨?_, Nat.zero_le _⟩
      show [] = ps.take 0
      rw [List.take_zero]
    · rw [e] at hs ⊢
      unfold mkN at hs ⊢
      have hs' : (G r' p bs.tail ps).1.size + 1 + (G r' p (G r' p bs.tail ps).2.1 (G r' p bs.tail ps).2.2.tail).1.size ≤ ps.length := hs
      have q1 := G_rest n r' p bs.tail ps (by omega) hB.tail (by omega)
      have i1 := G_ino n r' p bs.tail ps (by omega) hB.tail (by omega)
      have l1 : (G r' p bs.tail ps).2.2.tail.length = ps.length - (G r' p bs.tail ps).1.size - 1 := by rw [q1.1, List.length_tail, List.length_drop]
      have i2 := G_ino n r' p (G r' p bs.tail ps).2.1 (G r' p bs.tail ps).2.2.tail (by omega) q1.2 (by omega)
      refine ⟨?_, ?_⟩
      · show (G r' p bs.tail ps).1.ino ++ (((G r' p bs.tail ps).2.2.headD (0, .none)).1, ((G r' p bs.tail ps).2.2.headD (0, .none)).2) :: (G r' p (G r' p bs.tail ps).2.1 (G r' p bs.tail ps).2.2.tail).1.ino = ps.take ((G r' p bs.tail ps).1.size + 1 + (G r' p (G r' p bs.tail ps).2.1 (G r' p bs.tail ps).2.2.tail).1.size)
        rw [i1.1, i2.1]
        generalize (G r' p (G r' p bs.tail ps).2.1 (G r' p bs.tail ps).2.2.tail).1.size = z at *
        rw [q1.1] at *
        generalize (G r' p bs.tail ps).1.size = y at *
        have hy : y < ps.length := by omega
        rw [List.drop_eq_getElem_cons hy]
        show ps.take y ++ ps[y] :: (ps.drop (y + 1)).take z = _
        rw [Nat.add_assoc, List.take_add, List.drop_eq_getElem_cons hy, Nat.add_comm 1 z, List.take_succ_cons]
      · have d1 := i1.2
        have d2 := i2.2
        show max (G r' p bs.tail ps).1.dep (G r' p (G r' p bs.tail ps).2.1 (G r' p bs.tail ps).2.2.tail).1.dep + 1 ≤ ms r u
        omega
/-- how many bits are used up, how many knots there are at least -/
theorem G_use : ∀ (n r : Nat) (u : Bool) (bs : List Int) (ps : List PP), ms r u < n → Bits bs → (G r u bs ps).2.1 = bs.drop (2 * (G r u bs ps).1.size + 1) ∧ 2 ^ r ≤ (G r u bs ps).1.size + 1
  | 0, _, _, _, _, h, _ => absurd h (Nat.not_lt_zero _)
  | n + 1, r, u, bs, ps, hn, hB => by
    rcases G_shape r u bs hB with ⟨h0, _, e⟩ | ⟨p, r', _, hr, hm, _, e⟩
    · rw [e]
      subst h0
      refine ⟨?_, ?_⟩
      · show bs.tail = bs.drop 1
        rw [List.drop_one]
      · show 1 ≤ 0 + 1
        omega
    · rw [e]
      unfold mkN
      have q1 := G_use n r' p bs.tail ps (by omega) hB.tail
      have hB1 : Bits (G r' p bs.tail ps).2.1 := fun b hb => by rw [q1.1] at hb; exact hB.tail b (List.mem_of_mem_drop hb)
      have q2 := G_use n r' p (G r' p bs.tail ps).2.1 (G r' p bs.tail ps).2.2.tail (by omega) hB1
      refine ⟨?_, ?_⟩
      · show (G r' p (G r' p bs.tail ps).2.1 (G r' p bs.tail ps).2.2.tail).2.1 = bs.drop (2 * ((G r' p bs.tail ps).1.size + 1 + (G r' p (G r' p bs.tail ps).2.1 (G r' p bs.tail ps).2.2.tail).1.size) + 1)
        rw [q2.1]
        generalize (G r' p (G r' p bs.tail ps).2.1 (G r' p bs.tail ps).2.2.tail).1.size = z
        rw [q1.1, ← List.drop_one, List.drop_drop, List.drop_drop]
        congr 1
        omega
      · show 2 ^ r ≤ (G r' p bs.tail ps).1.size + 1 + (G r' p (G r' p bs.tail ps).2.1 (G r' p bs.tail ps).2.2.tail).1.size + 1
        have h1 := q1.2
        have h2 := q2.2
        cases p with
        | true =>
          have : r = r' := by simp at hr; omega
          subst this
          omega
        | false =>
          have : r = r' + 1 := by simp at hr; omega
          subst this
          rw [Nat.pow_succ]
          omega
/-! ### few bits, few knots: tables by the number of bits that are left -/
def tF0 : List Nat := [0, 1, 1, 1, 1, 1, 1, 1, 1, 1, 1, 1, 1, 1, 1, 1, 1, 1, 1, 1, 1, 1, 1, 1, 1, 1, 1, 1, 1, 1, 1, 1, 1, 1, 1, 1, 1, 1, 1, 1, 1, 1, 1, 1, 1, 1, 1, 1, 1, 1, 1, 1, 1, 1, 1, 1, 1, 1, 1, 1, 1]
def tU1 : List Nat := [1, 1, 2, 2, 2, 3, 3, 3, 3, 3, 3, 3, 3, 3, 3, 3, 3, 3, 3, 3, 3, 3, 3, 3, 3, 3, 3, 3, 3, 3, 3, 3, 3, 3, 3, 3, 3, 3, 3, 3, 3, 3, 3, 3, 3, 3, 3, 3, 3, 3, 3, 3, 3, 3, 3, 3, 3, 3, 3, 3, 3]
def tP1 : List Nat := [3, 3, 3, 4, 4, 4, 5, 5, 5, 5, 6, 6, 6, 7, 7, 7, 7, 7, 7, 7, 7, 7, 7, 7, 7, 7, 7, 7, 7, 7, 7, 7, 7, 7, 7, 7, 7, 7, 7, 7, 7, 7, 7, 7, 7, 7, 7, 7, 7, 7, 7, 7, 7, 7, 7, 7, 7, 7, 7, 7, 7]
def tF1 : List Nat := [1, 3, 3, 4, 4, 4, 5, 5, 5, 5, 6, 6, 6, 7, 7, 7, 7, 7, 7, 7, 7, 7, 7, 7, 7, 7, 7, 7, 7, 7, 7, 7, 7, 7, 7, 7, 7, 7, 7, 7, 7, 7, 7, 7, 7, 7, 7, 7, 7, 7, 7, 7, 7, 7, 7, 7, 7, 7, 7, 7, 7]
def tU2 : List Nat := [3, 3, 5, 5, 6, 6, 6, 7, 7, 7, 7, 8, 8, 9, 9, 10, 10, 11, 11, 12, 12, 12, 13, 13, 13, 13, 14, 14, 14, 15, 15, 15, 15, 15, 15, 15, 15, 15, 15, 15, 15, 15, 15, 15, 15, 15, 15, 15, 15, 15, 15, 15, 15, 15, 15, 15, 15, 15, 15, 15, 15]
def tP2 : List Nat := [7, 7, 7, 9, 9, 10, 10, 10, 11, 11, 11, 11, 12, 12, 13, 13, 14, 14, 15, 15, 16, 16, 16, 17, 17, 17, 17, 18, 18, 18, 19, 19, 20, 20, 21, 21, 22, 22, 22, 23, 23, 23, 23, 24, 24, 25, 25, 26, 26, 27, 27, 28, 28, 28, 29, 29, 29, 29, 30, 30, 30]
def tF2 : List Nat := [3, 7, 7, 9, 9, 10, 10, 10, 11, 11, 11, 11, 12, 12, 13, 13, 14, 14, 15, 15, 16, 16, 16, 17, 17, 17, 17, 18, 18, 18, 19, 19, 20, 20, 21, 21, 22, 22, 22, 23, 23, 23, 23, 24, 24, 25, 25, 26, 26, 27, 27, 28, 28, 28, 29, 29, 29, 29, 30, 30, 30]
def tU3 : List Nat := [7, 7, 11, 11, 13, 13, 14, 14, 14, 15, 15, 15, 15, 16, 16, 17, 17, 18, 18, 19, 19, 20, 20, 20, 21, 21, 21, 21, 22, 22, 22, 23, 23, 24, 24, 25, 25, 26, 26, 27, 27, 28, 28, 29, 29, 30, 30, 31, 31, 32, 32, 33, 33, 34, 34, 35, 35, 36, 36, 37, 37]
def tP3 : List Nat := [15, 15, 15, 19, 19, 21, 21, 22, 22, 22, 23, 23, 23, 23, 24, 24, 25, 25, 26, 26, 27, 27, 28, 28, 28, 29, 29, 29, 29, 30, 30, 30, 31, 31, 32, 32, 33, 33, 34, 34, 35, 35, 36, 36, 37, 37, 38, 38, 39, 39, 40, 40, 41, 41, 42, 42, 43, 43, 44, 44, 45]
def tF3 : List Nat := [7, 15, 15, 19, 19, 21, 21, 22, 22, 22, 23, 23, 23, 23, 24, 24, 25, 25, 26, 26, 27, 27, 28, 28, 28, 29, 29, 29, 29, 30, 30, 30, 31, 31, 32, 32, 33, 33, 34, 34, 35, 35, 36, 36, 37, 37, 38, 38, 39, 39, 40, 40, 41, 41, 42, 42, 43, 43, 44, 44, 45]
def tU4 : List Nat := [15, 15, 23, 23, 27, 27, 29, 29, 30, 30, 30, 31, 31, 31, 31, 32, 32, 33, 33, 34, 34, 35, 35, 36, 36, 36, 37, 37, 37, 37, 38, 38, 38, 39, 39, 40, 40, 41, 41, 42, 42, 43, 43, 44, 44, 45, 45, 46, 46, 47, 47, 48, 48, 49, 49, 50, 50, 51, 51, 52, 52]
def tP4 : List Nat := [31, 31, 31, 39, 39, 43, 43, 45, 45, 46, 46, 46, 47, 47, 47, 47, 48, 48, 49, 49, 50, 50, 51, 51, 52, 52, 52, 53, 53, 53, 53, 54, 54, 54, 55, 55, 56, 56, 57, 57, 58, 58, 59, 59, 60, 60, 61, 61, 62, 62, 63, 63, 64, 64, 65, 65, 66, 66, 67, 67, 68]
def tF4 : List Nat := [15, 31, 31, 39, 39, 43, 43, 45, 45, 46, 46, 46, 47, 47, 47, 47, 48, 48, 49, 49, 50, 50, 51, 51, 52, 52, 52, 53, 53, 53, 53, 54, 54, 54, 55, 55, 56, 56, 57, 57, 58, 58, 59, 59, 60, 60, 61, 61, 62, 62, 63, 63, 64, 64, 65, 65, 66, 66, 67, 67, 68]
def tU5 : List Nat := [31, 31, 47, 47, 55, 55, 59, 59, 61, 61, 62, 62, 62, 63, 63, 63, 63, 64, 64, 65, 65, 66, 66, 67, 67, 68, 68, 68, 69, 69, 69, 69, 70, 70, 70, 71, 71, 72, 72, 73, 73, 74, 74, 75, 75, 76, 76, 77, 77, 78, 78, 79, 79, 80, 80, 81, 81, 82, 82, 83, 83]
def tP5 : List Nat := [63, 63, 63, 79, 79, 87, 87, 91, 91, 93, 93, 94, 94, 94, 95, 95, 95, 95, 96, 96, 97, 97, 98, 98, 99, 99, 100, 100, 100, 101, 101, 101, 101, 102, 102, 102, 103, 103, 104, 104, 105, 105, 106, 106, 107, 107, 108, 108, 109, 109, 110, 110, 111, 111, 112, 112, 113, 113, 114, 114, 115]
def tF5 : List Nat := [31, 63, 63, 79, 79, 87, 87, 91, 91, 93, 93, 94, 94, 94, 95, 95, 95, 95, 96, 96, 97, 97, 98, 98, 99, 99, 100, 100, 100, 101, 101, 101, 101, 102, 102, 102, 103, 103, 104, 104, 105, 105, 106, 106, 107, 107, 108, 108, 109, 109, 110, 110, 111, 111, 112, 112, 113, 113, 114, 114, 115]
def tU6 : List Nat := [63, 63, 95, 95, 111, 111, 119, 119, 123, 123, 125, 125, 126, 126, 126, 127, 127, 127, 127, 128, 128, 129, 129, 130, 130, 131, 131, 132, 132, 132, 133, 133, 133, 133, 134, 134, 134, 135, 135, 136, 136, 137, 137, 138, 138, 139, 139, 140, 140, 141, 141, 142, 142, 143, 143, 144, 144, 145, 145, 146, 146]
def tP6 : List Nat := [127, 127, 127, 159, 159, 175, 175, 183, 183, 187, 187, 189, 189, 190, 190, 190, 191, 191, 191, 191, 192, 192, 193, 193, 194, 194, 195, 195, 196, 196, 196, 197, 197, 197, 197, 198, 198, 198, 199, 199, 200, 200, 201, 201, 202, 202, 203, 203, 204, 204, 205, 205, 206, 206, 207, 207, 208, 208, 209, 209, 210]
def tF6 : List Nat := [63, 127, 127, 159, 159, 175, 175, 183, 183, 187, 187, 189, 189, 190, 190, 190, 191, 191, 191, 191, 192, 192, 193, 193, 194, 194, 195, 195, 196, 196, 196, 197, 197, 197, 197, 198, 198, 198, 199, 199, 200, 200, 201, 201, 202, 202, 203, 203, 204, 204, 205, 205, 206, 206, 207, 207, 208, 208, 209, 209, 210]
def tU7 : List Nat := [127, 127, 191, 191, 223, 223, 239, 239, 247, 247, 251, 251, 253, 253, 254, 254, 254, 255, 255, 255, 255, 256, 256, 257, 257, 258, 258, 259, 259, 260, 260, 260, 261, 261, 261, 261, 262, 262, 262, 263, 263, 264, 264, 265, 265, 266, 266, 267, 267, 268, 268, 269, 269, 270, 270, 271, 271, 272, 272, 273, 273]
def chk (lo : Nat) (f g : List Nat) : Bool := (List.range 61).all fun n => (List.range (f.getD (n - 1) 0 + 1)).all fun s => decide (s < lo) || decide (s + 1 + f.getD (n - 1 - (2 * s + 1)) 0 ≤ g.getD n 0)
theorem chk_at {lo n s : Nat} {f g : List Nat} (h : chk lo f g = true) (hn : n ≤ 60) (hs : s ≤ f.getD (n - 1) 0) (hl : lo ≤ s) : s + 1 + f.getD (n - 1 - (2 * s + 1)) 0 ≤ g.getD n 0 := by
  unfold chk at h
  have h1 := List.all_eq_true.mp h n (List.mem_range.mpr (by omega))
  have h2 := List.all_eq_true.mp h1 s (List.mem_range.mpr (by omega))
  rw [Bool.or_eq_true, decide_eq_true_eq, decide_eq_true_eq] at h2
  omega
def leL (f g : List Nat) : Bool := (List.range 61).all fun n => decide (f.getD n 0 ≤ g.getD n 0)
theorem leL_at {n : Nat} {f g : List Nat} (h : leL f g = true) (hn : n ≤ 60) : f.getD n 0 ≤ g.getD n 0 := by
  unfold leL at h
  exact of_decide_eq_true (List.all_eq_true.mp h n (List.mem_range.mpr (by omega)))
def leP (f g : List Nat) : Bool := (List.range 61).all fun n => n == 0 || decide (f.getD n 0 ≤ g.getD n 0)
theorem leP_at {n : Nat} {f g : List Nat} (h : leP f g = true) (hn : n ≤ 60) (h0 : n ≠ 0) : f.getD n 0 ≤ g.getD n 0 := by
  unfold leP at h
  have h1 := List.all_eq_true.mp h n (List.mem_range.mpr (by omega))
  rw [Bool.or_eq_true, decide_eq_true_eq, beq_iff_eq] at h1
  omega
def FB (r : Nat) (t : List Nat) : Prop := ∀ (bs : List Int) (ps : List PP), Bits bs → bs.length ≤ 60 → (G r false bs ps).1.size ≤ t.getD bs.length 0
def UB (r : Nat) (t : List Nat) : Prop := ∀ (bs : List Int) (ps : List PP), Bits bs → bs.length ≤ 60 → (G r true bs ps).1.size ≤ t.getD bs.length 0
theorem node_le {r : Nat} {p u : Bool} {f g : List Nat} (h : ∀ (bs : List Int) (ps : List PP), Bits bs → bs.length ≤ 60 → (G r u bs ps).1.size ≤ f.getD bs.length 0) (c : chk (2 ^ r - 1) f g = true) (bs : List Int) (ps : List PP) (hB : Bits bs) (hl : bs.length ≤ 60) :
    (mkN p (G r u) bs.tail ps).1.size ≤ g.getD bs.length 0 := by
  have t1 : bs.tail.length = bs.length - 1 := List.length_tail
  have a1 := h bs.tail ps hB.tail (by omega)
  have q1 := G_use (ms r u + 1) r u bs.tail ps (by omega) hB.tail
  have hB1 : Bits (G r u bs.tail ps).2.1 := fun b hb => by rw [q1.1] at hb; exact hB.tail b (List.mem_of_mem_drop hb)
  have t2 : (G r u bs.tail ps).2.1.length = bs.length - 1 - (2 * (G r u bs.tail ps).1.size + 1) := by rw [q1.1, List.length_drop, t1]
  have a2 := h (G r u bs.tail ps).2.1 (G r u bs.tail ps).2.2.tail hB1 (by omega)
  rw [t1] at a1
  rw [t2] at a2
  have c1 := chk_at c hl a1 (by have := q1.2; omega)
  show (G r u bs.tail ps).1.size + 1 + (G r u (G r u bs.tail ps).2.1 (G r u bs.tail ps).2.2.tail).1.size ≤ _
  omega
theorem stepU {r : Nat} {f g : List Nat} (h : FB r f) (c : chk (2 ^ r - 1) f g = true) : UB (r + 1) g := fun bs ps hB hl => node_le (p := false) h c bs ps hB hl
theorem stepF {r : Nat} {f u p g : List Nat} (h : FB r f) (hu : UB (r + 1) u) (cu : chk (2 ^ r - 1) f u = true) (c : chk (2 ^ (r + 1) - 1) u p = true) (l1 : leL u g = true) (l2 : leP p g = true) : FB (r + 1) g := fun bs ps hB hl => by
  rw [G_false]
  unfold GF
  split
  · rename_i h
    have hp : bs.length ≠ 0 := by
      cases bs with
      | nil => exact absurd h (by decide)
      | cons b bs => exact Nat.succ_ne_zero _
    exact Nat.le_trans (node_le (p := true) (r := r + 1) (u := true) hu c bs ps hB hl) (leP_at l2 hl hp)
  · exact Nat.le_trans (node_le (p := false) h cu bs ps hB hl) (leL_at l1 hl)
theorem FB0 : FB 0 tF0 := fun bs ps hB hl => by
  rw [G_false]
  unfold GF
  split
  · rename_i h
    have hp : 0 < bs.length := by
      cases bs with
      | nil => exact absurd h (by decide)
      | cons b bs => exact Nat.succ_pos _
    have e : tF0.getD bs.length 0 = 1 := by
      have all : ∀ n, n ≤ 60 → 0 < n → tF0.getD n 0 = 1 := by decide
      exact all _ hl hp
    rw [e]
    show (0 : Nat) + 1 + 0 ≤ 1
    omega
  · exact Nat.zero_le _
theorem U7 : UB 7 tU7 := by
  have f0 := FB0
  have u1 := stepU f0 (g := tU1) (by decide +kernel)
  have f1 := stepF f0 u1 (p := tP1) (g := tF1) (by decide +kernel) (by decide +kernel) (by decide +kernel) (by decide +kernel)
  have u2 := stepU f1 (g := tU2) (by decide +kernel)
  have f2 := stepF f1 u2 (p := tP2) (g := tF2) (by decide +kernel) (by decide +kernel) (by decide +kernel) (by decide +kernel)
  have u3 := stepU f2 (g := tU3) (by decide +kernel)
  have f3 := stepF f2 u3 (p := tP3) (g := tF3) (by decide +kernel) (by decide +kernel) (by decide +kernel) (by decide +kernel)
  have u4 := stepU f3 (g := tU4) (by decide +kernel)
  have f4 := stepF f3 u4 (p := tP4) (g := tF4) (by decide +kernel) (by decide +kernel) (by decide +kernel) (by decide +kernel)
  have u5 := stepU f4 (g := tU5) (by decide +kernel)
  have f5 := stepF f4 u5 (p := tP5) (g := tF5) (by decide +kernel) (by decide +kernel) (by decide +kernel) (by decide +kernel)
  have u6 := stepU f5 (g := tU6) (by decide +kernel)
  have f6 := stepF f5 u6 (p := tP6) (g := tF6) (by decide +kernel) (by decide +kernel) (by decide +kernel) (by decide +kernel)
  exact stepU f6 (g := tU7) (by decide +kernel)
theorem few7 (bs : List Int) (ps : List PP) (hB : Bits bs) (hl : bs.length ≤ 60) : (G 7 true bs ps).1.size ≤ 520 := by
  have all : ∀ n, n ≤ 60 → tU7.getD n 0 ≤ 520 := by decide
  exact Nat.le_trans (U7 bs ps hB hl) (all _ hl)

/-! ### keys rise -/
theorem keyAt_lt (c : Int) (k : Nat) : keyAt c k < keyAt c (k + 1) := by
  have h := (step_in c).1
  have r0 : 0 ≤ c / 11 % 9 := Int.emod_nonneg _ (by decide)
  unfold keyAt
  generalize c / 11 % 9 = m at *
  generalize stepOf c = s at *
  have e1 : s * ((k + 1 : Nat) : Int) = s * (k : Int) + s := by
    rw [show ((k + 1 : Nat) : Int) = (k : Int) + 1 from rfl, Int.mul_add, Int.mul_one]
  have e2 : (k : Int) * k * m / 7 ≤ ((k + 1 : Nat) : Int) * ((k + 1 : Nat) : Int) * m / 7 := by
    refine Int.ediv_le_ediv (by decide) (Int.mul_le_mul_of_nonneg_right ?_ r0)
    exact Int.mul_le_mul (by omega) (by omega) (by omega) (by omega)
  rw [e1]
  omega
theorem keyAt_mono (c : Int) {i j : Nat} (h : i < j) : keyAt c i < keyAt c j := by
  induction h with
  | refl => exact keyAt_lt c i
  | step _ ih => exact Int.lt_trans ih (keyAt_lt c _)
def Rise (L : List PP) : Prop := L.Pairwise fun a b => a.1 < b.1
theorem psOf_rise (c : Int) (n : Nat) : Rise (psOf c n) := by
  unfold Rise psOf
  rw [List.pairwise_map]
  exact List.Pairwise.imp (fun h => keyAt_mono c h) List.pairwise_lt_range
theorem psOf_take (c : Int) {n m : Nat} (h : n ≤ m) : (psOf c m).take n = psOf c n := by
  unfold psOf
  rw [← List.map_take, List.take_range, Nat.min_eq_left h]
theorem pd_list (c : Int) (n : Nat) : gv (fun _ => true) (pairD c) n = (psOf c n).map pd := by
  unfold psOf
  rw [gv_true, List.map_map]
  rfl


end Kx
namespace Kx
open PySem PySem.Spec PyProof.Rows L2 RB
/-! ### the law's tree -/
def farOf (ns : List Int) : Bool := decide (ns.getD 1 0 / 65537 % 8 = 1)
def rankOf (ns : List Int) : Nat :=
  if ns.getD 2 0 % 9 = 7 then 7 else if farOf ns && decide (ns.getD 2 0 % 3 = 0) then 5 else if ns.getD 2 0 % 9 = 8 then 4 else (ns.getD 2 0 % 9 % 4).toNat
def manyOf (ns : List Int) : Nat := if farOf ns then 1030 else if rankOf ns = 7 then 520 else 260
def bitsOf (ns : List Int) : List Int := bsOf (ns.getD 1 0) (if ns.getD 2 0 % 9 = 7 then 60 else if farOf ns then 2500 else 700)
def treeOf (ns : List Int) : T := (G (rankOf ns) true (bitsOf ns) (psOf (ns.getD 0 0) (manyOf ns))).1
theorem rank_le (ns : List Int) : rankOf ns ≤ 7 := by
  have h1 : ns.getD 2 0 % 9 % 4 < 4 := Int.emod_lt_of_pos _ (by decide)
  unfold rankOf
  split
  · omega
  split
  · omega
  split <;> omega
theorem bsOf_len (c : Int) (n : Nat) : (bsOf c n).length = n := by
  unfold bsOf
  rw [List.length_reverse, List.length_map, List.length_range]
theorem tree_size (ns : List Int) : (treeOf ns).size ≤ manyOf ns := by
  unfold treeOf
  generalize hps : psOf (ns.getD 0 0) (manyOf ns) = ps
  by_cases h7 : ns.getD 2 0 % 9 = 7
  · have r7 : rankOf ns = 7 := by unfold rankOf; rw [if_pos h7]
    have hl : (bitsOf ns).length ≤ 60 := by
      unfold bitsOf
      rw [bsOf_len, if_pos h7]
      exact Nat.le_refl 60
    have h := few7 (bitsOf ns) ps (bsOf_bits _ _) hl
    have h2 : 520 ≤ manyOf ns := by
      unfold manyOf
      rw [r7]
      cases farOf ns <;> decide
    rw [r7]
    exact Nat.le_trans h h2
  · have h := G_size (rankOf ns) true (bitsOf ns) ps
    rw [if_pos rfl] at h
    refine Nat.le_trans h ?_
    clear h
    have h1 : ns.getD 2 0 % 9 % 4 < 4 := Int.emod_lt_of_pos _ (by decide)
    cases hf : farOf ns with
    | true =>
      have hr : rankOf ns ≤ 5 := by
        unfold rankOf
        rw [if_neg h7]
        split
        · omega
        split <;> omega
      have hm : manyOf ns = 1030 := by
        unfold manyOf
        rw [hf, if_pos rfl]
      rw [hm]
      have all : ∀ r, r ≤ 5 → mU r ≤ 1030 := by decide
      exact all _ hr
    | false =>
      have hr : rankOf ns ≤ 4 := by
        unfold rankOf
        rw [if_neg h7, hf, Bool.false_and, if_neg Bool.false_ne_true]
        split <;> omega
      have hm : manyOf ns = 260 := by
        unfold manyOf
        rw [hf, if_neg Bool.false_ne_true, if_neg (by omega)]
      rw [hm]
      have all : ∀ r, r ≤ 4 → mU r ≤ 260 := by decide
      exact all _ hr
theorem many_le (ns : List Int) : manyOf ns ≤ 1030 := by
  unfold manyOf
  split
  · omega
  split <;> omega
theorem ms_le (ns : List Int) : ms (rankOf ns) true < 15 := by
  have := rank_le ns
  unfold ms
  rw [if_pos rfl]
  omega
theorem tree_ino (ns : List Int) : (treeOf ns).ino = psOf (ns.getD 0 0) (treeOf ns).size ∧ (treeOf ns).dep < 15 := by
  have hs := tree_size ns
  have h := G_ino 15 (rankOf ns) true (bitsOf ns) (psOf (ns.getD 0 0) (manyOf ns)) (ms_le ns) (bsOf_bits _ _) (by rw [psOf_len]; exact hs)
  have hl := ms_le ns
  refine ⟨?_, by unfold treeOf; omega⟩
  exact h.1.trans (psOf_take _ hs)
theorem tree_al (ns : List Int) : Al 27 (treeOf ns).d :=
  G_al 15 (rankOf ns) true (bitsOf ns) (psOf (ns.getD 0 0) (manyOf ns)) (ms_le ns) (bsOf_bits _ _) (psOf_al _ _) (by rw [psOf_len]; exact tree_size ns)
theorem cut_bits (c : Int) {n : Nat} (h : 60 ≤ n) : RB.cutD (cB (bsOf c n)) none (some 60) = cB (bsOf c 60) := by
  have e : ∀ m, cB (bsOf c m) = (List.range m).map fun k => PyData.int (bitAt c k) := fun m => by
    unfold cB bsOf
    rw [List.map_reverse, List.reverse_reverse, List.map_map]
    rfl
  rw [e, e]
  unfold RB.cutD
  rw [HT.sIx_none, List.drop_zero, Nat.sub_zero, List.length_map, List.length_range]
  have e2 : HT.sIx n n (some 60) = 60 := by
    have := HT.sIx_nat n n 60
    rw [show ((60 : Nat) : Int) = 60 from rfl] at this
    rw [this]
    omega
  rw [e2, ← List.map_take, List.take_range, Nat.min_eq_left h]
def R_tree : List W → Mu → W → Mu → Prop := fun ws μ w μ' => ∃ ns : List Int, ws = [.dat (.list (ns.map .int))] ∧ (∀ z ∈ ns, Builtin.Int.intBits z ≤ 1048576) ∧ w = .dat (treeOf ns).d ∧ μ' = μ
def listedKeys : List Int := [0, 0, 1, -1]
def keyBy (L : List PP) (way c : Int) : Int := if (!L.isEmpty && decide (0 < way % 5)) = true then (L.getD (c % (L.length : Int)).toNat (0, .none)).1 + listedKeys.getD (way % 5 - 1).toNat 0 else c % ((2 : Int) * (10 : Int) ^ (60 : Int).toNat - 3) - ((10 : Int) ^ (60 : Int).toNat - 2)
def R_key : List W → Mu → W → Mu → Prop := fun ws μ w μ' => ∃ (L : List PP) (way c : Int), ws = [.dat (.list (L.map pd)), wi way, wi c] ∧ w = wi (keyBy L way c) ∧ μ' = μ
def R_same (m : Nat) : List W → Mu → W → Mu → Prop := fun ws μ w μ' => ∃ ds : List PyData, ws = [.dat (.list ds), .dat (.list ds)] ∧ ds.length ≤ 100000 ∧ (∀ d ∈ ds, Al m d) ∧ w = wb true ∧ μ' = μ
theorem big_mod : ((2 : Int) * (10 : Int) ^ (60 : Int).toNat - 3) > 0 := by decide +kernel
theorem at_pd {L : List PP} {i : Int} (h0 : 0 ≤ i) (h1 : i < L.length) : atI (L.map pd) i = some (pd (L.getD i.toNat (0, .none))) := by
  have e : i = (i.toNat : Int) := by omega
  have h2 : i.toNat < L.length := by omega
  have h3 : (L.map pd)[i.toNat]? = some (pd (L.getD i.toNat (0, .none))) := by
    rw [List.getElem?_map, List.getElem?_eq_getElem h2, List.getD_eq_getElem?_getD, List.getElem?_eq_getElem h2] <;> rfl
  have q := atI_nat h3
  rw [← e] at q
  exact q

section
variable {P : Program} {wd : World} {K : PySem.W.Frag} {mg : Str → Option Value} {base : Heap}
theorem c_tree (TX : Tx K mg) : CalW P wd K mg base 16 "_law_tree" R_tree := by
  refine cal_at TX.d__law_tree sc__law_tree (fun ws μ w μ' ⟨_, e, _⟩ => by rw [e]; rfl) fun X E C ws μ w μ' ⟨ns, e1, hbs, e2, e3⟩ => ?_
  subst e1 e2 e3
  have cc := (c_cell (P := P) (wd := wd) (base := base) TX).here E
  have crise := (c_rising (P := P) (wd := wd) (base := base) TX).here E
  have cbits := (c_bits (P := P) (wd := wd) (base := base) TX).here E
  have cg := (c_grown (P := P) (wd := wd) (base := base) TX 15).here E
  have mint := E.mg_eq TX.b_int
  have hc : ∀ j, Builtin.Int.intBits (ns.getD j 0) ≤ 1048580 := fun j => Nat.le_trans (cell_bits hbs j) (by decide)
  refine jss_asg C 1 (w := wi (if farOf ns then 1 else 0)) (je_intB C.toFx mint (je_eqi (je_mod (je_fdiv (je_call C.toFx cc (ja_cons (je_v C.toFx 0) (ja_cons je_int ja_nil)) ⟨ns, 1, rfl, rfl, rfl⟩) je_int (div_small (by decide) (by decide))) je_int (by decide)) je_int)) ?_
  refine jss_asg C 2 (je_call C.toFx cc (ja_cons (je_v C.toFx 0) (ja_cons je_int ja_nil)) ⟨ns, 2, rfl, rfl, rfl⟩) ?_
  refine jss_asg C 3 (je_mod (je_mod (je_v C.toFx 2) je_int (by decide)) je_int (by decide)) ?_
  have far0 : 0 ≤ (if farOf ns then (1 : Int) else 0) ∧ (if farOf ns then (1 : Int) else 0) < 2 := by split <;> omega
  refine jss_asgL C 4 (jl_call C.toFx cbits (ja_cons (je_call C.toFx cc (ja_cons (je_v C.toFx 0) (ja_cons je_int ja_nil)) ⟨ns, 1, rfl, rfl, rfl⟩) (ja_cons (JE.cast (je_ixl (fun _ _ => rfl) (je_lst (jd_cons je_int (jd_cons je_int jd_nil))) (je_v C.toFx 1) (at_ints (l := [700, 2500]) far0.1 far0.2)) (w' := wi ((if farOf ns then 2500 else 700 : Nat) : Int)) (by cases farOf ns <;> rfl)) ja_nil)) ⟨ns.getD 1 0, if farOf ns then 2500 else 700, rfl, hc 1, by split <;> omega, (bs_list _ _).symm, rfl⟩) fun lb => ?_
  have rk0 : 0 ≤ ns.getD 2 0 % 9 % 4 := Int.emod_nonneg _ (by decide)
  refine jss_ifM [some (.dat (.list (ns.map .int))), some (wi (if farOf ns then 1 else 0)), some (wi (ns.getD 2 0)), some (wi ((if ns.getD 2 0 % 9 = 8 then 4 else (ns.getD 2 0 % 9 % 4).toNat : Nat) : Int)), some (.loc lb), none] ((lb, OD.l <| cB (bsOf (ns.getD 1 0) (if farOf ns then 2500 else 700))) :: μ') (jt_eqi (je_mod (je_v C.toFx 2) je_int (by decide)) je_int) (fun h => ?_) (fun h => ?_) ?_
  · refine jss_asg C 3 je_int (jss_nil ?_)
    rw [if_pos (of_decide_eq_true h)]
    rfl
  · refine jss_nil ?_
    rw [if_neg (of_decide_eq_false h), ← mod_nat (by decide)]
    rfl
  -- the second choice
  refine jss_ifS (fun ρ2 μ2 => ∃ (l2 : Addr) (n : Nat) (μx : Mu), μx.drop n = μ' ∧ ρ2 = [some (.dat (.list (ns.map .int))), some (wi (if farOf ns then 1 else 0)), some (wi (ns.getD 2 0)), some (wi ((rankOf ns : Nat) : Int)), some (.loc l2), none] ∧ μ2 = (l2, OD.l <| cB (bitsOf ns)) :: μx) (jt_eqi (je_mod (je_v C.toFx 2) je_int (by decide)) je_int) (fun h => ?_) (fun h => ?_) ?_
  · have h7 := of_decide_eq_true h
    refine jss_asg C 3 je_int ?_
    refine jss_asgL C 4 (jl_slLoc (n := 0) (je_v C.toFx 4) jo_none (jo_some je_int) rfl) fun l2 => jss_nil ⟨_, _, rfl, l2, 1, (lb, OD.l <| cB (bsOf (ns.getD 1 0) (if farOf ns then 2500 else 700))) :: μ', rfl, ?_, ?_⟩
    · unfold rankOf
      rw [if_pos h7]
      rfl
    · rw [cut_bits _ (by split <;> omega)]
      unfold bitsOf
      rw [if_pos h7]
  · have h7 := of_decide_eq_false h
    have eb : bitsOf ns = bsOf (ns.getD 1 0) (if farOf ns then 2500 else 700) := by unfold bitsOf; rw [if_neg h7]
    refine jss_if (rest := []) (Φ := fun o => ∃ ρ2 μ2, o = .nx ρ2 μ2 ∧ _) (jw_and (jt_eqi (je_v C.toFx 1) je_int) fun h => (jw_and1 (jt_eqi (je_mod (je_v C.toFx 2) je_int (by decide)) je_int))).t (fun h => ?_) (fun h => ?_)
    · refine jss_asg C 3 je_int (jss_end (jss_nil ⟨_, _, rfl, lb, 0, μ', rfl, ?_, by rw [eb]⟩))
      have e : rankOf ns = 5 := by
        unfold rankOf
        rw [if_neg h7]
        rw [Bool.and_eq_true, decide_eq_true_eq, decide_eq_true_eq] at h
        have hf : farOf ns = true := by
          cases hf : farOf ns with
          | true => rfl
          | false => rw [hf] at h; exact absurd h.1 (by decide)
        rw [hf, decide_eq_true h.2]
        rfl
      rw [e]
      rfl
    · refine jss_end (jss_nil ⟨_, _, rfl, lb, 0, μ', rfl, ?_, by rw [eb]⟩)
      have e : rankOf ns = if ns.getD 2 0 % 9 = 8 then 4 else (ns.getD 2 0 % 9 % 4).toNat := by
        unfold rankOf
        rw [if_neg h7]
        have hf : (farOf ns && decide (ns.getD 2 0 % 3 = 0)) = false := by
          cases hf : farOf ns with
          | false => rfl
          | true =>
            rw [hf] at h
            simpa using h
        rw [hf, if_neg Bool.false_ne_true]
      rw [e]
  rintro _ _ ⟨l2, n, μx, hd, rfl, rfl⟩
  -- the pairs
  have sel : ([260, 520, 1030, 1030] : List Int).getD ((if farOf ns then (1 : Int) else 0) * 2 + (if decide (((rankOf ns : Nat) : Int) = 7) = true then 1 else 0)).toNat 0 = ((manyOf ns : Nat) : Int) := by
    unfold manyOf
    by_cases h7 : rankOf ns = 7
    · rw [decide_eq_true (by omega), if_pos rfl, if_pos h7]
      cases farOf ns <;> rfl
    · rw [decide_eq_false (by omega), if_neg Bool.false_ne_true, if_neg h7]
      cases farOf ns <;> rfl
  refine jss_asgL C 5 (jl_call C.toFx crise (ja_cons (je_call C.toFx cc (ja_cons (je_v C.toFx 0) (ja_cons je_int ja_nil)) ⟨ns, 0, rfl, rfl, rfl⟩) (ja_cons (JE.cast (je_ixl (fun _ _ => rfl) (je_lst (jd_cons je_int (jd_cons je_int (jd_cons je_int (jd_cons je_int jd_nil))))) (je_add (je_mul (je_v C.toFx 1) je_int (mul_ok (n := 64) (m := 64) (bits_small (by omega) (by omega)) (bits_small (by decide) (by decide)) (by decide))) (je_intB C.toFx mint (je_eqi (je_v C.toFx 3) je_int))) (at_ints (l := [260, 520, 1030, 1030]) (by split <;> omega) (by show _ < (4 : Int); split <;> omega))) (congrArg wi sel)) ja_nil)) ⟨ns.getD 0 0, manyOf ns, rfl, hc 0, by have := many_le ns; omega, rfl, rfl⟩) fun lp => ?_
  refine jss_expr (je_reverse (n := 0) (je_v C.toFx 5) rfl) ?_
  rw [ps_rev]
  have hs := tree_size ns
  refine jss_retD (n + 2) (je_call C.toFx cg (ja_cons (je_v C.toFx 4) (ja_cons (je_v C.toFx 5) (ja_cons (je_v C.toFx 3) (ja_cons je_bl ja_nil)))) ⟨l2, lp, rankOf ns, true, bitsOf ns, psOf (ns.getD 0 0) (manyOf ns), 1, 0, rfl, rfl, rfl, by decide, bsOf_bits _ _, by rw [psOf_len]; exact hs, ms_le ns, rfl, rfl⟩) (.inl ?_)
  show Out.rt _ (μx.drop n) = _
  rw [hd]
  rfl
end

section
variable {P : Program} {wd : World} {K : PySem.W.Frag} {mg : Str → Option Value} {base : Heap}
theorem c_size_ofM (md : Md) (hmd : md ≠ .cold) (T : Tx K mg) : CalG md P wd K mg base 1 "size_of" R_size noX := by
  refine cal_atM md hmd T.d_size_of sc_size_of (fun ws μ w μ' ⟨d, n, e, _⟩ => by rw [e]; rfl) fun X E C ws μ w μ' ⟨d, n, e1, hs, e2, e3⟩ => ?_
  subst e1 e2 e3
  obtain ⟨t, hc⟩ := T.g_COUNT
  refine jss_if0 (jt_isN (je_v C.toFx 0)) (fun h => ?_) (fun h => ?_)
  · refine jss_ret je_int (.inl ?_)
    cases d with
    | none => rw [show n = 0 from hs]
    | _ => exact absurd h Bool.false_ne_true
  · match d, hs with
    | .tuple [_, _, _, _, _, .int m], hs =>
      obtain rfl : n = m := hs
      exact jss_ret (je_ix (fun _ _ => rfl) (je_v C.toFx 0) (je_gi C.toFx (E.mg_eq hc)) rfl) (.inl rfl)
    | .none, hs => exact absurd h (by decide)
theorem c_size_of (T : Tx K mg) : CalW P wd K mg base 1 "size_of" R_size := c_size_ofM .calm (fun z => Md.noConfusion z) T
end


end Kx
namespace Kx
open PySem PySem.Spec PyProof.Rows L2 RB
/-! ### trees that may be wrong -/
inductive UT where
  | nil
  | node (p : Bool) (l : UT) (k : Int) (th : PyData) (r : UT) (c : Int)
def UT.d : UT → PyData
  | .nil => .none
  | .node p l k th r c => .tuple [.bool p, l.d, .int k, th, r.d, .int c]
def UT.painted : UT → Bool
  | .nil => false
  | .node p _ _ _ _ _ => p
def UT.cnt : UT → Int
  | .nil => 0
  | .node _ _ _ _ _ c => c
def UT.size : UT → Nat
  | .nil => 0
  | .node _ l _ _ r _ => l.size + 1 + r.size
def UT.dep : UT → Nat
  | .nil => 0
  | .node _ l _ _ r _ => max l.dep r.dep + 1
def UT.key : UT → Int
  | .nil => 0
  | .node _ _ k _ _ _ => k
def UT.lt : UT → UT
  | .nil => .nil
  | .node _ l _ _ _ _ => l
def UT.rt : UT → UT
  | .nil => .nil
  | .node _ _ _ _ r _ => r
def UT.kn : UT → List UT
  | .nil => []
  | .node p l k th r c => l.kn ++ .node p l k th r c :: r.kn
theorem UT.sz (u : UT) : SzD u.d u.cnt := by cases u <;> rfl
theorem kn_len : ∀ u : UT, u.kn.length = u.size
  | .nil => rfl
  | .node p l k th r c => by
    show (l.kn ++ UT.node p l k th r c :: r.kn).length = l.size + 1 + r.size
    rw [List.length_append, List.length_cons, kn_len l, kn_len r]
    omega
theorem kn_node : ∀ u : UT, ∀ x ∈ u.kn, x ≠ .nil
  | .nil, x, h => absurd h (by simp [UT.kn])
  | .node p l k th r c, x, h => by
    rcases List.mem_append.mp h with z | z
    · exact kn_node l x z
    · rcases List.mem_cons.mp z with z | z
      · rw [z]; exact fun e => UT.noConfusion e
      · exact kn_node r x z
/-- what a stack of knots will still give -/
def flatK : List UT → List UT
  | [] => []
  | x :: ab => x :: (x.rt.kn ++ flatK ab)
def measK : List UT → Nat
  | [] => 0
  | x :: ab => 1 + 2 * x.rt.size + measK ab
theorem flat_len : ∀ ab : List UT, ab.length ≤ (flatK ab).length
  | [] => Nat.le_refl _
  | x :: ab => by
    have := flat_len ab
    unfold flatK
    rw [List.length_cons, List.length_cons, List.length_append]
    omega
def R_ptd5 : List W → Mu → W → Mu → Prop := fun ws μ w μ' => ∃ u : UT, ws = [.dat u.d] ∧ w = wb u.painted ∧ μ' = μ
def R_knots : List W → Mu → List PyData → Mu → Prop := fun ws μ ds μ' => ∃ u : UT, ws = [.dat u.d] ∧ u.size ≤ 40000 ∧ ds = u.kn.map UT.d ∧ μ' = μ
def okP : UT → Bool
  | .nil => true
  | .node p l _ _ r _ => !(p && (l.painted || r.painted))
def okC : UT → Bool
  | .nil => true
  | .node _ l _ _ r c => decide (c = l.cnt + 1 + r.cnt)
def R_hold (ok : UT → Bool) : List W → Mu → W → Mu → Prop := fun ws μ w μ' => ∃ L : List UT, ws = [.dat (.list (L.map UT.d))] ∧ (∀ x ∈ L, x ≠ .nil) ∧ w = wb (L.all ok) ∧ μ' = μ
def okAt (L : List UT) (j : Nat) : Bool := decide ((L.getD j .nil).key < (L.getD (j + 1) .nil).key)
def okO (L : List UT) : Bool := (List.range (L.length - 1)).all (okAt L)
def R_order : List W → Mu → W → Mu → Prop := fun ws μ w μ' => ∃ L : List UT, ws = [.dat (.list (L.map UT.d))] ∧ (∀ x ∈ L, x ≠ .nil) ∧ L.length ≤ 40000 ∧ w = wb (okO L) ∧ μ' = μ
/-- the heights of the leaves, from the right -/
def hts : UT → Int → List Int
  | .nil, h => [h]
  | .node p l _ _ r _, h => hts r (if p then h else h + 1) ++ hts l (if p then h else h + 1)
def flatH : List (UT × Int) → List Int
  | [] => []
  | q :: st => hts q.1 q.2 ++ flatH st
def measH : List (UT × Int) → Nat
  | [] => 0
  | q :: st => 2 * q.1.size + 1 + measH st
theorem hts_len : ∀ (u : UT) (h : Int), (hts u h).length = u.size + 1
  | .nil, _ => rfl
  | .node p l k th r c, h => by
    show (hts r _ ++ hts l _).length = l.size + 1 + r.size + 1
    rw [List.length_append, hts_len r, hts_len l]
    omega
theorem flatH_len : ∀ st : List (UT × Int), st.length ≤ (flatH st).length
  | [] => Nat.le_refl _
  | q :: st => by
    have := flatH_len st
    unfold flatH
    rw [List.length_cons, List.length_append, hts_len]
    omega
def R_heights : List W → Mu → List PyData → Mu → Prop := fun ws μ ds μ' => ∃ u : UT, ws = [.dat u.d] ∧ u.size ≤ 40000 ∧ ds = (hts u 0).map .int ∧ μ' = μ
theorem exists_min : ∀ {L : List Int}, L ≠ [] → ∃ m ∈ L, ∀ y ∈ L, m ≤ y
  | [], h => absurd rfl h
  | [a], _ => ⟨a, List.mem_cons_self, fun y hy => by rw [List.mem_singleton.mp hy]; exact Int.le_refl _⟩
  | a :: b :: L, _ => by
    obtain ⟨m, hm, h⟩ := exists_min (L := b :: L) (by simp)
    by_cases c : a ≤ m
    · exact ⟨a, List.mem_cons_self, fun y hy => (List.mem_cons.mp hy).elim (fun z => by rw [z]; exact Int.le_refl _) fun z => Int.le_trans c (h y z)⟩
    · exact ⟨m, List.mem_cons_of_mem _ hm, fun y hy => (List.mem_cons.mp hy).elim (fun z => by rw [z]; omega) fun z => h y z⟩
theorem exists_max : ∀ {L : List Int}, L ≠ [] → ∃ m ∈ L, ∀ y ∈ L, y ≤ m
  | [], h => absurd rfl h
  | [a], _ => ⟨a, List.mem_cons_self, fun y hy => by rw [List.mem_singleton.mp hy]; exact Int.le_refl _⟩
  | a :: b :: L, _ => by
    obtain ⟨m, hm, h⟩ := exists_max (L := b :: L) (by simp)
    by_cases c : m ≤ a
    · exact ⟨a, List.mem_cons_self, fun y hy => (List.mem_cons.mp hy).elim (fun z => by rw [z]; exact Int.le_refl _) fun z => Int.le_trans (h y z) c⟩
    · exact ⟨m, List.mem_cons_of_mem _ hm, fun y hy => (List.mem_cons.mp hy).elim (fun z => by rw [z]; omega) fun z => h y z⟩
/-- all alike -/
def okR (L : List Int) : Prop := ∀ a ∈ L, ∀ b ∈ L, a = b
def R_roads5 : List W → Mu → W → Mu → Prop := fun ws μ w μ' => ∃ (u : UT) (b : Bool), ws = [.dat u.d] ∧ u.size ≤ 40000 ∧ (b = true ↔ okR (hts u 0)) ∧ w = wb b ∧ μ' = μ
def wsIf (b : Bool) (x : Str) : List Str := if b then [x] else []
def faultsL (t p r o c : Bool) : List Str := wsIf t "top" ++ wsIf (!p) "paint" ++ wsIf (!r) "roads" ++ wsIf (!o) "order" ++ wsIf (!c) "counts"
def R_faults : List W → Mu → List PyData → Mu → Prop := fun ws μ ds μ' => ∃ (u : UT) (b : Bool), ws = [.dat u.d] ∧ u.size ≤ 40000 ∧ (b = true ↔ okR (hts u 0)) ∧ ds = (faultsL u.painted (u.kn.all okP) b (okO u.kn) (u.kn.all okC)).map .str ∧ μ' = μ
theorem getU {L : List UT} {m : Nat} {d : PyData} (h : (L.map UT.d)[m]? = some d) : ∃ hm : m < L.length, d = (L[m]).d := by
  obtain ⟨hm, e⟩ := List.getElem?_eq_some_iff.mp h
  rw [List.length_map] at hm
  exact ⟨hm, by rw [← e, List.getElem_map]⟩
section
variable {P : Program} {wd : World} {K : PySem.W.Frag} {mg : Str → Option Value} {base : Heap}
theorem c_ptd5 (TX : Tx K mg) : CalW P wd K mg base 1 "is_painted" R_ptd5 := by
  refine cal_at TX.d_is_painted sc_is_painted (fun ws μ w μ' ⟨_, e, _⟩ => by rw [e]; rfl) fun X E C ws μ w μ' ⟨t, e1, e2, e3⟩ => ?_
  subst e1 e2 e3
  obtain ⟨t1, h1⟩ := TX.g_PAINT
  cases t with
  | nil => exact jss_ret (JE.cast (je_and (b2 := false) (je_notN (je_v C.toFx 0)) fun h => absurd h (by decide)) rfl) (.inl rfl)
  | node p l k th r c => exact jss_ret (JE.cast (je_and (b2 := p) (je_notN (je_v C.toFx 0)) fun h => (je_one (je_ix (fun _ _ => rfl) (je_v C.toFx 0) (je_gi C.toFx (E.mg_eq h1)) rfl))) rfl) (.inl rfl)
theorem c_knots (TX : Tx K mg) : CalL P wd K mg base 2 "_knots_of" R_knots := by
  refine cal_atL TX.d__knots_of sc__knots_of (fun ws μ w μ' ⟨_, e, _, _, e2⟩ => ⟨by rw [e]; rfl, e2⟩) fun X E C ws μ w μ' ⟨u, e1, hz, e2, e3⟩ => ?_
  subst e1 e2 e3
  obtain ⟨t2, h2⟩ := TX.g_LEFT
  obtain ⟨t3, h3⟩ := TX.g_RIGHT
  have ml := E.mg_eq TX.b_len
  have il := kn_len u
  refine jss_asgL C 1 (jl_lst jd_nil) fun lk => ?_
  refine jss_asgL C 2 (jl_lst jd_nil) fun la => ?_
  refine jss_asg C 3 (je_v C.toFx 0) ?_
  refine jss_while C (fun m ρ' μ2 => ∃ (h : UT) (ab kn : List UT), μ2 = (la, OD.l (ab.reverse.map UT.d)) :: (lk, OD.l (kn.map UT.d)) :: μ' ∧ ρ' = [some (.dat u.d), some (.loc lk), some (.loc la), some (.dat h.d)] ∧ kn ++ (h.kn ++ flatK ab) = u.kn ∧ m = 2 * h.size + measK ab) (2 * u.size) ⟨u, [], [], rfl, rfl, by simp [flatK], rfl⟩ ?_
  rintro m ρ1 μ1 ⟨h, ab, kn, rfl, rfl, hv, rfl⟩
  have hlen := congrArg List.length hv
  rw [List.length_append, List.length_append, il] at hlen
  have hfl := flat_len ab
  have hal : (ab.reverse.map UT.d).length = ab.length := by rw [List.length_map, List.length_reverse]
  have hkl : (kn.map UT.d).length = kn.length := List.length_map ..
  cases h with
  | node p l k th r c =>
    refine ⟨true, JT.cast (jw_or (b1 := true) (b2 := false) (JT.cast (jt_notN (je_v C.toFx 3)) rfl) fun z => absurd z.symm Bool.false_ne_true).t rfl, fun _ => ?_, fun z => absurd z.symm Bool.false_ne_true⟩
    refine jss_if (rest := []) (b1 := true) (JT.cast (jt_notN (je_v C.toFx 3)) rfl) (fun _ => ?_) (fun z => absurd z.symm Bool.false_ne_true)
    refine jss_expr (je_append (n := 0) (je_v C.toFx 2) (je_v C.toFx 3) rfl (by omega)) ?_
    refine jss_asg C 3 (je_ix (fun _ _ => rfl) (je_v C.toFx 3) (je_gi C.toFx (E.mg_eq h2)) rfl) (jss_end (jss_nil ⟨_, ?_, l, .node p l k th r c :: ab, kn, ?_, rfl, ?_, rfl⟩))
    · show 2 * l.size + (1 + 2 * r.size + measK ab) < 2 * (l.size + 1 + r.size) + measK ab
      omega
    · rw [List.reverse_cons, List.map_append]
      rfl
    · rw [← hv]
      show _ = kn ++ ((l.kn ++ UT.node p l k th r c :: r.kn) ++ flatK ab)
      rw [List.append_assoc (as := l.kn)]
      rfl
  | nil =>
    cases ab with
    | nil =>
      refine ⟨false, JT.cast (jw_or (b1 := false) (b2 := false) (JT.cast (jt_notN (je_v C.toFx 3)) rfl) fun _ => jw_or1 (JT.cast (jt_gt (je_lenLoc (n := 0) C.toFx ml (je_v C.toFx 2) rfl) je_int) rfl)).t rfl, fun z => absurd z Bool.false_ne_true, fun _ => ?_⟩
      refine jss_retO 1 (je_v C.toFx 1) rfl ?_
      rw [← hv]
      show Out.rl _ _ = Out.rl ((kn ++ []).map _) _
      rw [List.append_nil]
      rfl
    | cons x ab =>
      refine ⟨true, JT.cast (jw_or (b1 := false) (b2 := true) (JT.cast (jt_notN (je_v C.toFx 3)) rfl) fun _ => jw_or1 (JT.cast (jt_gt (je_lenLoc (n := 0) C.toFx ml (je_v C.toFx 2) rfl) je_int) (decide_eq_true (by rw [hal, List.length_cons]; omega)))).t rfl, fun _ => ?_, fun z => absurd z.symm Bool.false_ne_true⟩
      have hx : x ≠ .nil := kn_node u x (by rw [← hv]; unfold flatK; simp)
      refine jss_if (rest := []) (b1 := false) (JT.cast (jt_notN (je_v C.toFx 3)) rfl) (fun z => absurd z Bool.false_ne_true) (fun _ => ?_)
      refine jss_asg C 3 (je_pop (n := 0) (ds := ab.reverse.map UT.d) (d := x.d) (je_v C.toFx 2) (by rw [List.reverse_cons, List.map_append]; rfl)) ?_
      refine jss_expr (je_append (n := 1) (ds := kn.map UT.d) (je_v C.toFx 1) (je_v C.toFx 3) rfl (by omega)) ?_
      cases x with
      | nil => exact absurd rfl hx
      | node p l k th r c =>
        refine jss_asg C 3 (je_ix (fun _ _ => rfl) (je_v C.toFx 3) (je_gi C.toFx (E.mg_eq h3)) rfl) (jss_end (jss_nil ⟨_, ?_, r, ab, kn ++ [.node p l k th r c], ?_, rfl, ?_, rfl⟩))
        · show 2 * r.size + measK ab < 2 * 0 + (1 + 2 * r.size + measK ab)
          omega
        · rw [List.map_append]
          rfl
        · rw [← hv, List.append_assoc]
          rfl
theorem c_paint (TX : Tx K mg) : CalW P wd K mg base 2 "_paint_holds" (R_hold okP) := by
  refine cal_at TX.d__paint_holds sc__paint_holds (fun ws μ w μ' ⟨_, e, _⟩ => by rw [e]; rfl) fun X E C ws μ w μ' ⟨L, e1, hn, e2, e3⟩ => ?_
  subst e1 e2 e3
  obtain ⟨t1, h1⟩ := TX.g_PAINT
  obtain ⟨t2, h2⟩ := TX.g_LEFT
  obtain ⟨t3, h3⟩ := TX.g_RIGHT
  have cp := (c_ptd5 (P := P) (wd := wd) (base := base) TX).here E
  refine jss_forL C 1 (ds := L.map UT.d) (je_v C.toFx 0) (fun m ρ' μ2 => μ2 = μ' ∧ (L.take m).all okP = true ∧ ∃ o, ρ' = [some (.dat (.list (L.map UT.d))), o]) ⟨rfl, rfl, _, rfl⟩ ?_ ?_
  · rintro m d _ _ hm ⟨rfl, ha, o, rfl⟩
    obtain ⟨hlt, rfl⟩ := getU hm
    have hnn := hn _ (List.getElem_mem hlt)
    have hst : (L.take (m + 1)).all okP = okP L[m] := by rw [List.take_succ_eq_append_getElem hlt, List.all_append, ha, Bool.true_and, List.all_cons, List.all_nil, Bool.and_true]
    have hmem := List.getElem_mem hlt
    generalize L[m] = x at *
    cases x with
    | nil => exact absurd rfl hnn
    | node p l k th r c =>
      refine jss_if0 (b1 := p && (l.painted || r.painted)) (JW.t (jw_and (b2 := l.painted || r.painted) (jt_b (b1 := p) (je_ix (fun _ _ => rfl) (je_v C.toFx 1) (je_gi C.toFx (E.mg_eq h1)) rfl)) fun _ => jw_and1 (JW.t (jw_or (b2 := r.painted) (jt_b (je_call C.toFx cp (ja_cons (je_ix (d := l.d) (fun _ _ => rfl) (je_v C.toFx 1) (je_gi C.toFx (E.mg_eq h2)) rfl) ja_nil) ⟨l, rfl, rfl, rfl⟩)) fun _ => jw_or1 (jt_b (je_call C.toFx cp (ja_cons (je_ix (d := r.d) (fun _ _ => rfl) (je_v C.toFx 1) (je_gi C.toFx (E.mg_eq h3)) rfl) ja_nil) ⟨r, rfl, rfl, rfl⟩)))))) (fun z => ?_) (fun z => ?_)
      · refine jss_ret je_bl (.inl ?_)
        rw [show L.all okP = false from List.all_eq_false.mpr ⟨_, hmem, by show ¬ (!(p && (l.painted || r.painted))) = true; rw [z]; decide⟩]
      · refine jss_nil ⟨rfl, ?_, _, rfl⟩
        rw [hst]
        show (!(p && (l.painted || r.painted))) = true
        rw [z]
        rfl
  · rintro _ _ ⟨rfl, ha, o, rfl⟩
    rw [List.length_map, List.take_length] at ha
    exact jss_ret je_bl (.inl (by rw [ha]))
theorem c_counts (TX : Tx K mg) : CalW P wd K mg base 2 "_counts_hold" (R_hold okC) := by
  refine cal_at TX.d__counts_hold sc__counts_hold (fun ws μ w μ' ⟨_, e, _⟩ => by rw [e]; rfl) fun X E C ws μ w μ' ⟨L, e1, hn, e2, e3⟩ => ?_
  subst e1 e2 e3
  obtain ⟨t1, h1⟩ := TX.g_COUNT
  obtain ⟨t2, h2⟩ := TX.g_LEFT
  obtain ⟨t3, h3⟩ := TX.g_RIGHT
  have cs := (c_size_of (P := P) (wd := wd) (base := base) TX).here E
  refine jss_forL C 1 (ds := L.map UT.d) (je_v C.toFx 0) (fun m ρ' μ2 => μ2 = μ' ∧ (L.take m).all okC = true ∧ ∃ o, ρ' = [some (.dat (.list (L.map UT.d))), o]) ⟨rfl, rfl, _, rfl⟩ ?_ ?_
  · rintro m d _ _ hm ⟨rfl, ha, o, rfl⟩
    obtain ⟨hlt, rfl⟩ := getU hm
    have hnn := hn _ (List.getElem_mem hlt)
    have hst : (L.take (m + 1)).all okC = okC L[m] := by rw [List.take_succ_eq_append_getElem hlt, List.all_append, ha, Bool.true_and, List.all_cons, List.all_nil, Bool.and_true]
    have hmem := List.getElem_mem hlt
    generalize L[m] = x at *
    cases x with
    | nil => exact absurd rfl hnn
    | node p l k th r c =>
      refine jss_if0 (jt_nei (i := c) (je_ix (d := .int c) (fun _ _ => rfl) (je_v C.toFx 1) (je_gi C.toFx (E.mg_eq h1)) rfl) (je_add (je_add (je_call C.toFx cs (ja_cons (je_ix (d := l.d) (fun _ _ => rfl) (je_v C.toFx 1) (je_gi C.toFx (E.mg_eq h2)) rfl) ja_nil) ⟨l.d, l.cnt, rfl, l.sz, rfl, rfl⟩) je_int) (je_call C.toFx cs (ja_cons (je_ix (d := r.d) (fun _ _ => rfl) (je_v C.toFx 1) (je_gi C.toFx (E.mg_eq h3)) rfl) ja_nil) ⟨r.d, r.cnt, rfl, r.sz, rfl, rfl⟩))) (fun z => ?_) (fun z => ?_)
      · refine jss_ret je_bl (.inl ?_)
        rw [show L.all okC = false from List.all_eq_false.mpr ⟨_, hmem, by show ¬ decide (c = l.cnt + 1 + r.cnt) = true; intro y; rw [y] at z; exact absurd z (by decide)⟩]
      · refine jss_nil ⟨rfl, ?_, _, rfl⟩
        rw [hst]
        show decide (c = l.cnt + 1 + r.cnt) = true
        cases hh : decide (c = l.cnt + 1 + r.cnt) with
        | true => rfl
        | false => rw [hh] at z; exact absurd z (by decide)
  · rintro _ _ ⟨rfl, ha, o, rfl⟩
    rw [List.length_map, List.take_length] at ha
    exact jss_ret je_bl (.inl (by rw [ha]))
theorem c_order (TX : Tx K mg) : CalW P wd K mg base 2 "_order_holds" R_order := by
  refine cal_at TX.d__order_holds sc__order_holds (fun ws μ w μ' ⟨_, e, _⟩ => by rw [e]; rfl) fun X E C ws μ w μ' ⟨L, e1, hn, hz, e2, e3⟩ => ?_
  subst e1 e2 e3
  obtain ⟨t1, h1⟩ := TX.g_KEY
  have ml := E.mg_eq TX.b_len
  have el : ((L.map UT.d).length : Int) = (L.length : Int) := by rw [List.length_map]
  have hat : ∀ {i : Int} {j : Nat}, i = (j : Int) → (hj : j < L.length) → atI (L.map UT.d) i = some (L[j]).d := fun {i j} e hj => by
    subst e
    exact atI_nat (by rw [List.getElem?_map, List.getElem?_eq_getElem hj]; rfl)
  have hk : ∀ (j : Nat) (hj : j < L.length), ∃ p l th r c, (L[j]).d = PyData.tuple [.bool p, l, .int (L.getD j .nil).key, th, r, .int c] := fun j hj => by
    have hnn := hn _ (List.getElem_mem hj)
    rw [List.getD_eq_getElem?_getD, List.getElem?_eq_getElem hj]
    show ∃ p l th r c, (L[j]).d = PyData.tuple [.bool p, l, .int (L[j]).key, th, r, .int c]
    cases hx : L[j] with
    | nil => exact absurd hx hnn
    | node p l k th r c => exact ⟨p, l.d, th, r.d, c, rfl⟩
  refine jss_forR2M C (fun z => Md.noConfusion z) 1 (E.mg_eq TX.b_range) je_int (JE.cast (je_len C.toFx ml (je_v C.toFx 0)) (congrArg wi el)) (by decide) (by decide) (by omega) (by omega)
    (fun m ρ' μ2 => μ2 = μ' ∧ (∀ j, j < m → okAt L j = true) ∧ ∃ o, ρ' = [some (.dat (.list (L.map UT.d))), o]) ⟨rfl, fun j hj => absurd hj (by omega), _, rfl⟩ ?_ ?_
  · rintro m _ _ hm ⟨rfl, ha, o, rfl⟩
    have h0 : m < L.length := by omega
    have h1' : m + 1 < L.length := by omega
    obtain ⟨p, l, th, r, c, e0⟩ := hk m h0
    obtain ⟨p', l', th', r', c', e1⟩ := hk (m + 1) h1'
    refine jss_if0 (jt_ge (je_ix (fun _ _ => rfl) (JE.cast (je_ixl (fun _ _ => rfl) (je_v C.toFx 0) (je_sub (je_v C.toFx 1) je_int) (hat (j := m) (by omega) h0)) (congrArg W.dat e0)) (je_gi C.toFx (E.mg_eq h1)) rfl) (je_ix (fun _ _ => rfl) (JE.cast (je_ixl (fun _ _ => rfl) (je_v C.toFx 0) (je_v C.toFx 1) (hat (j := m + 1) (by omega) h1')) (congrArg W.dat e1)) (je_gi C.toFx (E.mg_eq h1)) rfl)) (fun z => ?_) (fun z => ?_)
    · have z' := of_decide_eq_true z
      refine jss_ret je_bl (.inl ?_)
      rw [show okO L = false from List.all_eq_false.mpr ⟨m, List.mem_range.mpr (by omega), by unfold okAt; rw [decide_eq_false (by omega)]; decide⟩]
    · have z' := of_decide_eq_false z
      refine jss_nil ⟨rfl, fun j hj => ?_, _, rfl⟩
      by_cases c : j = m
      · subst c
        unfold okAt
        exact decide_eq_true (by omega)
      · exact ha j (by omega)
  · rintro _ _ ⟨rfl, ha, o, rfl⟩
    refine jss_ret je_bl (.inl ?_)
    rw [show okO L = true from List.all_eq_true.mpr fun j hj => ha j (by have := List.mem_range.mp hj; omega)]
theorem c_heights (TX : Tx K mg) : CalL P wd K mg base 2 "_heights_of" R_heights := by
  refine cal_atL TX.d__heights_of sc__heights_of (fun ws μ w μ' ⟨_, e, _, _, e2⟩ => ⟨by rw [e]; rfl, e2⟩) fun X E C ws μ w μ' ⟨u, e1, hz, e2, e3⟩ => ?_
  subst e1 e2 e3
  obtain ⟨t1, h1⟩ := TX.g_PAINT
  obtain ⟨t2, h2⟩ := TX.g_LEFT
  obtain ⟨t3, h3⟩ := TX.g_RIGHT
  have ml := E.mg_eq TX.b_len
  have il := hts_len u 0
  let D : UT × Int → PyData := fun q => .tuple [q.1.d, .int q.2]
  refine jss_asgL C 1 (jl_lst jd_nil) fun lh => ?_
  refine jss_asgL C 2 (ds := [D (u, 0)]) (jl_lst (jd_cons (je_tup (jd_cons (je_v C.toFx 0) (jd_cons je_int jd_nil))) jd_nil)) fun lw => ?_
  refine jss_while C (fun m ρ' μ2 => ∃ (st : List (UT × Int)) (done : List Int) (o3 o4 o5 : Option W), μ2 = (lw, OD.l (st.reverse.map D)) :: (lh, OD.l (done.map .int)) :: μ' ∧ ρ' = [some (.dat u.d), some (.loc lh), some (.loc lw), o3, o4, o5] ∧ done ++ flatH st = hts u 0 ∧ m = measH st) (2 * u.size + 1) ⟨[(u, 0)], [], _, _, _, rfl, rfl, by simp [flatH], rfl⟩ ?_
  rintro m ρ1 μ1 ⟨st, done, o3, o4, o5, rfl, rfl, hv, rfl⟩
  have hlen := congrArg List.length hv
  rw [List.length_append, il] at hlen
  have hfl := flatH_len st
  have hal : (st.reverse.map D).length = st.length := by rw [List.length_map, List.length_reverse]
  have hkl : (done.map PyData.int).length = done.length := List.length_map ..
  cases st with
  | nil =>
    refine ⟨false, JT.cast (jt_gt (je_lenLoc (n := 0) C.toFx ml (je_v C.toFx 2) rfl) je_int) rfl, fun z => absurd z Bool.false_ne_true, fun _ => ?_⟩
    refine jss_retO 1 (je_v C.toFx 1) rfl ?_
    rw [← hv]
    show Out.rl _ _ = Out.rl ((done ++ []).map _) _
    rw [List.append_nil]
    rfl
  | cons x st =>
    obtain ⟨x, h⟩ := x
    refine ⟨true, JT.cast (jt_gt (je_lenLoc (n := 0) C.toFx ml (je_v C.toFx 2) rfl) je_int) (decide_eq_true (by rw [hal, List.length_cons]; omega)), fun _ => ?_, fun z => absurd z.symm Bool.false_ne_true⟩
    refine jss_asgT2 C 3 4 (d1 := x.d) (d2 := .int h) (je_pop (n := 0) (ds := st.reverse.map D) (d := D (x, h)) (je_v C.toFx 2) (by rw [List.reverse_cons, List.map_append]; rfl)) ?_
    have hal' : (st.reverse.map D).length = st.length := by rw [List.length_map, List.length_reverse]
    rw [List.length_cons] at hfl
    cases x with
    | nil =>
      refine jss_if (rest := []) (b1 := true) (JT.cast (jt_isN (je_v C.toFx 3)) rfl) (fun _ => ?_) (fun z => absurd z.symm Bool.false_ne_true)
      refine jss_expr (je_append (n := 1) (ds := done.map .int) (je_v C.toFx 1) (je_v C.toFx 4) rfl (by omega)) (jss_end (jss_nil ⟨_, ?_, st, done ++ [h], _, _, _, ?_, rfl, ?_, rfl⟩))
      · show measH st < 2 * 0 + 1 + measH st
        omega
      · rw [List.map_append]
        rfl
      · rw [← hv, List.append_assoc]
        rfl
    | node p l k th r c =>
      refine jss_if (rest := []) (b1 := false) (JT.cast (jt_isN (je_v C.toFx 3)) rfl) (fun z => absurd z Bool.false_ne_true) (fun _ => ?_)
      refine jss_asg C 5 (w := wi (if p then h else h + 1)) (je_ite (jt_b (b1 := p) (je_ix (fun _ _ => rfl) (je_v C.toFx 3) (je_gi C.toFx (E.mg_eq h1)) rfl)) (fun z => JE.cast (je_v C.toFx 4) (by rw [z]; rfl)) (fun z => JE.cast (je_add (je_v C.toFx 4) je_int) (by rw [z]; rfl))) ?_
      generalize hb : (if p then h else h + 1) = b
      have hfl2 := flatH_len st
      have hw : done.length + (flatH ((UT.node p l k th r c, h) :: st)).length = u.size + 1 := hlen
      unfold flatH at hw
      rw [List.length_append, hts_len] at hw
      have hsz : (UT.node p l k th r c).size = l.size + 1 + r.size := rfl
      refine jss_expr (je_append (n := 0) (ds := st.reverse.map D) (d := D (l, b)) (je_v C.toFx 2) (je_tup (jd_cons (je_ix (d := l.d) (fun _ _ => rfl) (je_v C.toFx 3) (je_gi C.toFx (E.mg_eq h2)) rfl) (jd_cons (je_v C.toFx 5) jd_nil))) rfl (by omega)) ?_
      refine jss_expr (je_append (n := 0) (ds := st.reverse.map D ++ [D (l, b)]) (d := D (r, b)) (je_v C.toFx 2) (je_tup (jd_cons (je_ix (d := r.d) (fun _ _ => rfl) (je_v C.toFx 3) (je_gi C.toFx (E.mg_eq h3)) rfl) (jd_cons (je_v C.toFx 5) jd_nil))) rfl (by rw [List.length_append]; show _ + 1 < _; omega)) (jss_end (jss_nil ⟨_, ?_, (r, b) :: (l, b) :: st, done, _, _, _, ?_, rfl, ?_, rfl⟩))
      · show 2 * r.size + 1 + (2 * l.size + 1 + measH st) < 2 * (l.size + 1 + r.size) + 1 + measH st
        omega
      · show (lw, OD.l (st.reverse.map D ++ [D (l, b)] ++ [D (r, b)])) :: (lh, OD.l (done.map PyData.int)) :: μ' = _
        rw [List.reverse_cons (a := (r, b)), List.reverse_cons (a := (l, b)), List.map_append, List.map_append]
        rfl
      · rw [← hv, ← hb]
        show done ++ (hts r _ ++ (hts l _ ++ flatH st)) = done ++ ((hts r _ ++ hts l _) ++ flatH st)
        rw [List.append_assoc (as := hts r _)]
theorem c_roads5 (TX : Tx K mg) : CalW P wd K mg base 3 "_roads_hold" R_roads5 := by
  refine cal_at TX.d__roads_hold sc__roads_hold (fun ws μ w μ' ⟨_, _, e, _⟩ => by rw [e]; rfl) fun X E C ws μ w μ' ⟨u, b, e1, hz, hb, e2, e3⟩ => ?_
  subst e1 e2 e3
  have ch := (c_heights (P := P) (wd := wd) (base := base) TX).here E
  have hne : hts u 0 ≠ [] := fun e => by have := hts_len u 0; rw [e] at this; simp at this
  obtain ⟨m1, hm1, le1⟩ := exists_min hne
  obtain ⟨m2, hm2, le2⟩ := exists_max hne
  refine jss_asg C 1 (w := .dat (.list ((hts u 0).map .int))) (JL.je (jl_call C.toFx ch (ja_cons (je_v C.toFx 0) ja_nil) ⟨u, rfl, hz, rfl, rfl⟩)) ?_
  refine jss_ret (JE.cast (je_eqi (je_minL C.toFx (E.mg_eq TX.b_min) (je_v C.toFx 1) hm1 le1) (je_maxL C.toFx (E.mg_eq TX.b_max) (je_v C.toFx 1) hm2 le2)) (congrArg wb ?_)) (.inl rfl)
  rw [Bool.eq_iff_iff, decide_eq_true_iff, hb]
  constructor
  · intro e a ha b hb'
    have := le1 a ha
    have := le1 b hb'
    have := le2 a ha
    have := le2 b hb'
    omega
  · exact fun h => h _ hm1 _ hm2
theorem c_faults (TX : Tx K mg) : CalL P wd K mg base 5 "faults_of" R_faults := by
  refine cal_atL TX.d_faults_of sc_faults_of (fun ws μ w μ' ⟨_, _, e, _, _, _, e2⟩ => ⟨by rw [e]; rfl, e2⟩) fun X E C ws μ w μ' ⟨u, b, e1, hz, hb, e2, e3⟩ => ?_
  subst e1 e2 e3
  have ck := (c_knots (P := P) (wd := wd) (base := base) TX).here E
  have cp := (c_ptd5 (P := P) (wd := wd) (base := base) TX).here E
  have cpa := (c_paint (P := P) (wd := wd) (base := base) TX).here E
  have cro := (c_roads5 (P := P) (wd := wd) (base := base) TX).here E
  have cor := (c_order (P := P) (wd := wd) (base := base) TX).here E
  have cco := (c_counts (P := P) (wd := wd) (base := base) TX).here E
  have il := kn_len u
  have hnn := kn_node u
  unfold faultsL
  refine jss_asg C 1 (w := .dat (.list (u.kn.map UT.d))) (JL.je (jl_call C.toFx ck (ja_cons (je_v C.toFx 0) ja_nil) ⟨u, rfl, hz, rfl, rfl⟩)) ?_
  refine jss_asgL C 2 (jl_lst jd_nil) fun lf => ?_
  have app : ∀ (L : List Str) (c : Bool) (y : Str), (c = true → OD.l (L.map PyData.str ++ [.str y]) = OD.l ((L ++ wsIf c y).map .str)) ∧ (c = false → OD.l (L.map PyData.str) = OD.l ((L ++ wsIf c y).map .str)) := fun L c y => ⟨fun e => by rw [e, List.map_append]; rfl, fun e => by rw [e]; show _ = OD.l ((L ++ []).map _); rw [List.append_nil]⟩
  have wl : ∀ (c : Bool) (y : Str), (wsIf c y).length ≤ 1 := fun c y => by cases c with | false => exact Nat.zero_le _ | true => exact Nat.le_refl _
  refine jss_ifM [some (.dat u.d), some (.dat (.list (u.kn.map UT.d))), some (.loc lf)] ((lf, OD.l ((wsIf u.painted "top").map .str)) :: μ') (jt_b (je_call C.toFx cp (ja_cons (je_v C.toFx 0) ja_nil) ⟨u, rfl, rfl, rfl⟩)) (fun z => jss_expr (je_append (n := 0) (ds := []) (je_v C.toFx 2) je_str rfl (by decide)) (jss_nil ?_)) (fun z => jss_nil ?_) ?_
  · rw [z]; rfl
  · rw [z]; rfl
  have w1 := wl u.painted "top"
  generalize wsIf u.painted "top" = L1 at *
  refine jss_ifM [some (.dat u.d), some (.dat (.list (u.kn.map UT.d))), some (.loc lf)] ((lf, OD.l ((L1 ++ wsIf (!u.kn.all okP) "paint").map .str)) :: μ') (jt_not (jt_b (je_call C.toFx cpa (ja_cons (je_v C.toFx 1) ja_nil) ⟨u.kn, rfl, hnn, rfl, rfl⟩))) (fun z => jss_expr (je_append (n := 0) (ds := L1.map .str) (je_v C.toFx 2) je_str rfl (by rw [List.length_map]; omega)) (jss_nil ?_)) (fun z => jss_nil ?_) ?_
  · rw [← (app L1 _ "paint").1 z]; rfl
  · rw [← (app L1 _ "paint").2 z]
  have w2 : (L1 ++ wsIf (!u.kn.all okP) "paint").length ≤ 2 := by rw [List.length_append]; have := wl (!u.kn.all okP) "paint"; omega
  generalize L1 ++ wsIf (!u.kn.all okP) "paint" = L2 at *
  refine jss_ifM [some (.dat u.d), some (.dat (.list (u.kn.map UT.d))), some (.loc lf)] ((lf, OD.l ((L2 ++ wsIf (!b) "roads").map .str)) :: μ') (jt_not (jt_b (je_call C.toFx cro (ja_cons (je_v C.toFx 0) ja_nil) ⟨u, b, rfl, hz, hb, rfl, rfl⟩))) (fun z => jss_expr (je_append (n := 0) (ds := L2.map .str) (je_v C.toFx 2) je_str rfl (by rw [List.length_map]; omega)) (jss_nil ?_)) (fun z => jss_nil ?_) ?_
  · rw [← (app L2 _ "roads").1 z]; rfl
  · rw [← (app L2 _ "roads").2 z]
  have w3 : (L2 ++ wsIf (!b) "roads").length ≤ 3 := by rw [List.length_append]; have := wl (!b) "roads"; omega
  generalize L2 ++ wsIf (!b) "roads" = L3 at *
  refine jss_ifM [some (.dat u.d), some (.dat (.list (u.kn.map UT.d))), some (.loc lf)] ((lf, OD.l ((L3 ++ wsIf (!okO u.kn) "order").map .str)) :: μ') (jt_not (jt_b (je_call C.toFx cor (ja_cons (je_v C.toFx 1) ja_nil) ⟨u.kn, rfl, hnn, by omega, rfl, rfl⟩))) (fun z => jss_expr (je_append (n := 0) (ds := L3.map .str) (je_v C.toFx 2) je_str rfl (by rw [List.length_map]; omega)) (jss_nil ?_)) (fun z => jss_nil ?_) ?_
  · rw [← (app L3 _ "order").1 z]; rfl
  · rw [← (app L3 _ "order").2 z]
  have w4 : (L3 ++ wsIf (!okO u.kn) "order").length ≤ 4 := by rw [List.length_append]; have := wl (!okO u.kn) "order"; omega
  generalize L3 ++ wsIf (!okO u.kn) "order" = L4 at *
  refine jss_ifM [some (.dat u.d), some (.dat (.list (u.kn.map UT.d))), some (.loc lf)] ((lf, OD.l ((L4 ++ wsIf (!u.kn.all okC) "counts").map .str)) :: μ') (jt_not (jt_b (je_call C.toFx cco (ja_cons (je_v C.toFx 1) ja_nil) ⟨u.kn, rfl, hnn, rfl, rfl⟩))) (fun z => jss_expr (je_append (n := 0) (ds := L4.map .str) (je_v C.toFx 2) je_str rfl (by rw [List.length_map]; omega)) (jss_nil ?_)) (fun z => jss_nil ?_) ?_
  · rw [← (app L4 _ "counts").1 z]; rfl
  · rw [← (app L4 _ "counts").2 z]
  exact jss_retO 0 (je_v C.toFx 2) rfl rfl
end


end Kx
namespace Kx
open PySem PySem.Spec PyProof.Rows L2 RB
/-! ### the law's keys, bends, chain -/
def keysU : UT → List Int
  | .nil => []
  | .node _ l k _ r _ => keysU l ++ [k] ++ keysU r
theorem keysU_len : ∀ u : UT, (keysU u).length = u.size
  | .nil => rfl
  | .node p l k th r c => by
    show (keysU l ++ [k] ++ keysU r).length = l.size + 1 + r.size
    rw [List.length_append, List.length_append, keysU_len l, keysU_len r]
    rfl
def R_ukeys (m : Nat) : List W → Mu → List PyData → Mu → Prop := fun ws μ ds μ' => ∃ u : UT, ws = [.dat u.d] ∧ u.dep < m ∧ u.size ≤ 40000 ∧ ds = (keysU u).map .int ∧ μ' = μ
def bendU (p : Bool) (l : UT) (k : Int) (th : PyData) (r : UT) (c way num : Int) : UT :=
  if way = 0 then .node (!p) l k th r c else if way = 1 then .node p l num th r c else if way = 2 then .node p l k th r (c + (num % 2000001) - 1000000) else if way = 3 then .node p .nil k th r c else .node p l k th .nil c
def bentU : UT → Int → Int → Int → UT × Int
  | .nil, n, _, _ => (.nil, n)
  | .node p l k th r c, n, way, num =>
    (if (bentU l n way num).2 - 1 = -1 then bendU p l k th r c way num else .node p (bentU l n way num).1 k th (bentU r ((bentU l n way num).2 - 1) way num).1 c, (bentU r ((bentU l n way num).2 - 1) way num).2)
theorem bentU_node (p : Bool) (l : UT) (k : Int) (th : PyData) (r : UT) (c n way num : Int) : bentU (.node p l k th r c) n way num = (if (bentU l n way num).2 - 1 = -1 then bendU p l k th r c way num else .node p (bentU l n way num).1 k th (bentU r ((bentU l n way num).2 - 1) way num).1 c, (bentU r ((bentU l n way num).2 - 1) way num).2) := by
  conv => lhs; unfold bentU
theorem bendU_small (p : Bool) (l : UT) (k : Int) (th : PyData) (r : UT) (c way num : Int) : (bendU p l k th r c way num).dep ≤ max l.dep r.dep + 1 ∧ (bendU p l k th r c way num).size ≤ l.size + 1 + r.size := by
  unfold bendU
  split
  · exact ⟨Nat.le_refl _, Nat.le_refl _⟩
  split
  · exact ⟨Nat.le_refl _, Nat.le_refl _⟩
  split
  · exact ⟨Nat.le_refl _, Nat.le_refl _⟩
  split
  · refine ⟨?_, ?_⟩
    · show max 0 r.dep + 1 ≤ _
      omega
    · show 0 + 1 + r.size ≤ _
      omega
  · refine ⟨?_, ?_⟩
    · show max l.dep 0 + 1 ≤ _
      omega
    · show l.size + 1 + 0 ≤ _
      omega
theorem bentU_small : ∀ (u : UT) (n way num : Int), (bentU u n way num).1.dep ≤ u.dep ∧ (bentU u n way num).1.size ≤ u.size
  | .nil, _, _, _ => ⟨Nat.le_refl _, Nat.le_refl _⟩
  | .node p l k th r c, n, way, num => by
    have h1 := bentU_small l n way num
    have h2 := bentU_small r ((bentU l n way num).2 - 1) way num
    unfold bentU
    show (ite _ _ _ : UT).dep ≤ max l.dep r.dep + 1 ∧ (ite _ _ _ : UT).size ≤ l.size + 1 + r.size
    split
    · exact bendU_small ..
    · refine ⟨?_, ?_⟩
      · show max _ _ + 1 ≤ _
        omega
      · show _ + 1 + _ ≤ _
        omega
def R_bent (m : Nat) : List W → Mu → W → Mu → Prop := fun ws μ w μ' => ∃ (u : UT) (a : Addr) (i : Nat) (n way num : Int), ws = [.dat u.d, .loc a, wi way, wi num] ∧ μ[i]? = some (a, OD.l [.int n]) ∧ u.dep < m ∧ w = .dat (bentU u n way num).1.d ∧ μ' = μ.set i (a, OD.l [.int (bentU u n way num).2])
def sideU (c : Int) (k : Nat) : Int := if c % 3 = 2 then c / (3 + (k : Int) % 7) % 2 else c % 3
def paintU (c : Int) (k : Nat) : Bool := decide (c / (1 + (k : Int) % 5) % 2 = 1)
def chainU (c : Int) (L : List PP) : Nat → UT × Int × Int
  | 0 => (.nil, 199, 200)
  | k + 1 => if sideU c k = 0 then (.node (paintU c k) .nil (L.getD (chainU c L k).2.1.toNat (0, .none)).1 (L.getD (chainU c L k).2.1.toNat (0, .none)).2 (chainU c L k).1 ((k : Int) + 1), (chainU c L k).2.1 - 1, (chainU c L k).2.2)
    else (.node (paintU c k) (chainU c L k).1 (L.getD (chainU c L k).2.2.toNat (0, .none)).1 (L.getD (chainU c L k).2.2.toNat (0, .none)).2 .nil ((k : Int) + 1), (chainU c L k).2.1, (chainU c L k).2.2 + 1)
theorem chainU_l {c : Int} {L : List PP} {k : Nat} (h : sideU c k = 0) : chainU c L (k + 1) = (.node (paintU c k) .nil (L.getD (chainU c L k).2.1.toNat (0, .none)).1 (L.getD (chainU c L k).2.1.toNat (0, .none)).2 (chainU c L k).1 ((k : Int) + 1), (chainU c L k).2.1 - 1, (chainU c L k).2.2) := by
  conv => lhs; unfold chainU
  rw [if_pos h]
theorem chainU_r {c : Int} {L : List PP} {k : Nat} (h : ¬ sideU c k = 0) : chainU c L (k + 1) = (.node (paintU c k) (chainU c L k).1 (L.getD (chainU c L k).2.2.toNat (0, .none)).1 (L.getD (chainU c L k).2.2.toNat (0, .none)).2 .nil ((k : Int) + 1), (chainU c L k).2.1, (chainU c L k).2.2 + 1) := by
  conv => lhs; unfold chainU
  rw [if_neg h]
theorem chainU_small (c : Int) (L : List PP) : ∀ k : Nat, (chainU c L k).1.dep ≤ k ∧ (chainU c L k).1.size ≤ k ∧ 199 - (k : Int) ≤ (chainU c L k).2.1 ∧ (chainU c L k).2.1 ≤ 199 ∧ 200 ≤ (chainU c L k).2.2 ∧ (chainU c L k).2.2 ≤ 200 + (k : Int)
  | 0 => ⟨Nat.le_refl _, Nat.le_refl _, by show 199 - (0 : Int) ≤ 199; decide, by show (199 : Int) ≤ 199; decide, by show (200 : Int) ≤ 200; decide, by show (200 : Int) ≤ 200 + 0; decide⟩
  | k + 1 => by
    obtain ⟨h1, h2, h3, h4, h5, h6⟩ := chainU_small c L k
    unfold chainU
    split
    · refine ⟨?_, ?_, ?_, ?_, h5, ?_⟩
      · show max 0 _ + 1 ≤ _
        omega
      · show 0 + 1 + _ ≤ _
        omega
      · show _ ≤ _ - (1 : Int)
        omega
      · show _ - (1 : Int) ≤ _
        omega
      · show (chainU c L k).2.2 ≤ _
        omega
    · refine ⟨?_, ?_, ?_, h4, ?_, ?_⟩
      · show max _ 0 + 1 ≤ _
        omega
      · show _ + 1 + 0 ≤ _
        omega
      · show _ ≤ (chainU c L k).2.1
        omega
      · show _ ≤ _ + (1 : Int)
        omega
      · show _ + (1 : Int) ≤ _
        omega
def R_chain : List W → Mu → W → Mu → Prop := fun ws μ w μ' => ∃ (L : List PP) (many : Nat) (c : Int), ws = [.dat (.list (L.map pd)), wi (many : Int), wi c] ∧ L.length = 400 ∧ many ≤ 200 ∧ w = .dat (chainU c L many).1.d ∧ μ' = μ
theorem cutD_from {ds : List PyData} (z : Nat) (h : z ≤ ds.length) : RB.cutD ds (some (z : Int)) none = ds.drop z := by
  unfold RB.cutD
  rw [HT.sIx_none, HT.sIx_nat, Nat.min_eq_left h, List.take_of_length_le (by rw [List.length_drop]; exact Nat.le_refl _)]
theorem cutD_to {ds : List PyData} (z : Nat) (h : z ≤ ds.length) : RB.cutD ds none (some (z : Int)) = ds.take z := by
  unfold RB.cutD
  rw [HT.sIx_none, List.drop_zero, Nat.sub_zero, HT.sIx_nat, Nat.min_eq_left h]
section
variable {P : Program} {wd : World} {K : PySem.W.Frag} {mg : Str → Option Value} {base : Heap}
theorem c_ukeys (TX : Tx K mg) : ∀ m, CalL P wd K mg base m "_law_keys" (R_ukeys m)
  | 0 => cal_noneL TX.d__law_keys fun ws μ w μ' ⟨_, _, h, _⟩ => Nat.not_lt_zero _ h
  | m + 1 => by
    refine cal_atL TX.d__law_keys sc__law_keys (fun ws μ w μ' ⟨_, e, _, _, _, e2⟩ => ⟨by rw [e]; rfl, e2⟩) fun X E C ws μ w μ' ⟨u, e1, hm, hz, e2, e3⟩ => ?_
    subst e1 e2 e3
    have ck := (c_ukeys TX m).here E
    cases u with
    | nil =>
      refine jss_if0 (b1 := true) (JT.cast (jt_isN (je_v C.toFx 0)) rfl) (fun _ => ?_) (fun z => absurd z.symm Bool.false_ne_true)
      exact jss_retL (jl_lst jd_nil) rfl
    | node p l k th r c =>
      have hd : max l.dep r.dep + 1 < m + 1 := hm
      have hz' : l.size + 1 + r.size ≤ 40000 := hz
      have ll := keysU_len l
      have lr := keysU_len r
      refine jss_if0 (b1 := false) (JT.cast (jt_isN (je_v C.toFx 0)) rfl) (fun z => absurd z Bool.false_ne_true) (fun _ => ?_)
      refine jss_retL (JL.cast (jl_catD (JL.je (jl_catD (JL.je (jl_call C.toFx ck (ja_cons (je_ix (d := l.d) (fun _ _ => rfl) (je_v C.toFx 0) je_int rfl) ja_nil) ⟨l, rfl, by omega, by omega, rfl, rfl⟩)) (je_lst (jd_cons (je_ix (d := .int k) (fun _ _ => rfl) (je_v C.toFx 0) je_int rfl) jd_nil)) (by rw [List.length_map]; show _ + 1 ≤ _; omega))) (JL.je (jl_call C.toFx ck (ja_cons (je_ix (d := r.d) (fun _ _ => rfl) (je_v C.toFx 0) je_int rfl) ja_nil) ⟨r, rfl, by omega, by omega, rfl, rfl⟩)) (by rw [List.length_append, List.length_map, List.length_map]; show _ + 1 + _ ≤ _; omega)) ?_) rfl
      show _ = (keysU l ++ [k] ++ keysU r).map PyData.int
      rw [List.map_append, List.map_append]
      rfl
theorem c_bent (TX : Tx K mg) : ∀ m, CalW P wd K mg base m "_law_bent" (R_bent m)
  | 0 => cal_none TX.d__law_bent fun ws μ w μ' ⟨_, _, _, _, _, _, _, _, h, _⟩ => Nat.not_lt_zero _ h
  | m + 1 => by
    refine cal_at TX.d__law_bent sc__law_bent (fun ws μ w μ' ⟨_, _, _, _, _, _, e, _⟩ => by rw [e]; rfl) fun X E C ws μ w μ' ⟨u, a, i, n, way, num, e1, hi, hm, e2, e3⟩ => ?_
    subst e1 e2 e3
    have cb := (c_bent TX m).here E
    have li : i < μ.length := (List.getElem?_eq_some_iff.mp hi).1
    cases u with
    | nil =>
      refine jss_if0 (b1 := true) (JT.cast (jt_isN (je_v C.toFx 0)) rfl) (fun _ => ?_) (fun z => absurd z.symm Bool.false_ne_true)
      refine jss_ret je_non (.inl ?_)
      show Out.rt wn μ = Out.rt wn (μ.set i (a, OD.l [.int n]))
      rw [set_here hi]
    | node p l k th r c =>
      have hd : max l.dep r.dep + 1 < m + 1 := hm
      refine jss_if0 (b1 := false) (JT.cast (jt_isN (je_v C.toFx 0)) rfl) (fun z => absurd z Bool.false_ne_true) (fun _ => ?_)
      refine jss_asg C 4 (je_call C.toFx cb (ja_cons (je_ix (d := l.d) (fun _ _ => rfl) (je_v C.toFx 0) je_int rfl) (ja_cons (je_v C.toFx 1) (ja_cons (je_v C.toFx 2) (ja_cons (je_v C.toFx 3) ja_nil)))) ⟨l, a, i, n, way, num, rfl, hi, by omega, rfl, rfl⟩) ?_
      rw [bentU_node]
      generalize bentU l n way num = q1 at *
      refine jss_setI (n := i) (m := 0) (ds := [.int q1.2]) C.toFx (je_sub (je_ixloc (n := i) (fun _ _ => rfl) (je_v C.toFx 1) je_int (List.getElem?_set_self li) rfl) je_int) (je_v C.toFx 1) je_int (List.getElem?_set_self li) rfl ?_
      rw [List.set_set]
      show JSs X _ (μ.set i (a, OD.l [PyData.int (q1.2 - 1)])) _ _
      refine jss_asg C 5 (je_eqi (j := -1) (je_ixloc (n := i) (fun _ _ => rfl) (je_v C.toFx 1) je_int (List.getElem?_set_self li) rfl) (je_neg je_int)) ?_
      refine jss_asg C 6 (je_call C.toFx cb (ja_cons (je_ix (d := r.d) (fun _ _ => rfl) (je_v C.toFx 0) je_int rfl) (ja_cons (je_v C.toFx 1) (ja_cons (je_v C.toFx 2) (ja_cons (je_v C.toFx 3) ja_nil)))) ⟨r, a, i, q1.2 - 1, way, num, rfl, List.getElem?_set_self li, by omega, rfl, rfl⟩) ?_
      rw [List.set_set]
      generalize bentU r (q1.2 - 1) way num = q2 at *
      refine jss_if0 (jt_not (jt_b (je_v C.toFx 5))) (fun z => ?_) (fun z => ?_)
      · have hn : ¬ q1.2 - 1 = -1 := fun y => by rw [decide_eq_true y] at z; exact absurd z (by decide)
        rw [if_neg hn]
        exact jss_ret (je_tup (jd_cons (je_ix (d := .bool p) (fun _ _ => rfl) (je_v C.toFx 0) je_int rfl) (jd_cons (je_v C.toFx 4) (jd_cons (je_ix (d := .int k) (fun _ _ => rfl) (je_v C.toFx 0) je_int rfl) (jd_cons (je_ix (d := th) (fun _ _ => rfl) (je_v C.toFx 0) je_int rfl) (jd_cons (je_v C.toFx 6) (jd_cons (je_ix (d := .int c) (fun _ _ => rfl) (je_v C.toFx 0) je_int rfl) jd_nil))))))) (.inl rfl)
      have hn : q1.2 - 1 = -1 := by
        by_cases y : q1.2 - 1 = -1
        · exact y
        · rw [decide_eq_false y] at z; exact absurd z (by decide)
      rw [if_pos hn]
      unfold bendU
      refine jss_if0 (jt_eqi (je_v C.toFx 2) je_int) (fun z => ?_) (fun z => ?_)
      · rw [if_pos (of_decide_eq_true z)]
        exact jss_ret (JE.cast (je_tupCat (je_tup (jd_cons (je_not (je_ix (d := .bool p) (fun _ _ => rfl) (je_v C.toFx 0) je_int rfl)) jd_nil)) (je_tupSl (je_v C.toFx 0) (jo_some je_int) jo_none)) rfl) (.inl rfl)
      rw [if_neg (of_decide_eq_false z)]
      refine jss_if0 (jt_eqi (je_v C.toFx 2) je_int) (fun z => ?_) (fun z => ?_)
      · rw [if_pos (of_decide_eq_true z)]
        exact jss_ret (JE.cast (je_tupCat (je_tupCat (je_tupSl (je_v C.toFx 0) jo_none (jo_some je_int)) (je_tup (jd_cons (je_v C.toFx 3) jd_nil))) (je_tupSl (je_v C.toFx 0) (jo_some je_int) jo_none)) rfl) (.inl rfl)
      rw [if_neg (of_decide_eq_false z)]
      refine jss_if0 (jt_eqi (je_v C.toFx 2) je_int) (fun z => ?_) (fun z => ?_)
      · rw [if_pos (of_decide_eq_true z)]
        exact jss_ret (JE.cast (je_tupCat (je_tupSl (je_v C.toFx 0) jo_none (jo_some je_int)) (je_tup (jd_cons (je_sub (je_add (je_ix (d := .int c) (fun _ _ => rfl) (je_v C.toFx 0) je_int rfl) (je_mod (je_v C.toFx 3) je_int (by decide))) je_int) jd_nil))) rfl) (.inl rfl)
      rw [if_neg (of_decide_eq_false z)]
      refine jss_if0 (jt_eqi (je_v C.toFx 2) je_int) (fun z => ?_) (fun z => ?_)
      · rw [if_pos (of_decide_eq_true z)]
        exact jss_ret (JE.cast (je_tupCat (je_tup (jd_cons (je_ix (d := .bool p) (fun _ _ => rfl) (je_v C.toFx 0) je_int rfl) (jd_cons je_non jd_nil))) (je_tupSl (je_v C.toFx 0) (jo_some je_int) jo_none)) rfl) (.inl rfl)
      rw [if_neg (of_decide_eq_false z)]
      exact jss_ret (JE.cast (je_tupCat (je_tupSl (je_v C.toFx 0) jo_none (jo_some je_int)) (je_tup (jd_cons je_non (jd_cons (je_ix (d := .int c) (fun _ _ => rfl) (je_v C.toFx 0) je_int rfl) jd_nil)))) rfl) (.inl rfl)
theorem c_chain (TX : Tx K mg) : CalW P wd K mg base 1 "_law_chain" R_chain := by
  refine cal_at TX.d__law_chain sc__law_chain (fun ws μ w μ' ⟨_, _, _, e, _⟩ => by rw [e]; rfl) fun X E C ws μ w μ' ⟨L, many, c, e1, hL, hk, e2, e3⟩ => ?_
  subst e1 e2 e3
  refine jss_asg C 3 je_non ?_
  refine jss_asg C 4 je_int ?_
  refine jss_asg C 5 je_int ?_
  refine jss_forR C 6 (E.mg_eq TX.b_range) (je_v C.toFx 1) (by omega) (by omega) (fun m ρ' μ2 => μ2 = μ' ∧ ∃ (o6 o7 o8 : Option W), ρ' = [some (.dat (.list (L.map pd))), some (wi (many : Int)), some (wi c), some (.dat (chainU c L m).1.d), some (wi (chainU c L m).2.1), some (wi (chainU c L m).2.2), o6, o7, o8]) ⟨rfl, _, _, _, rfl⟩ ?_ ?_
  · rintro m _ μ9 hm ⟨rfl, o6, o7, o8, rfl⟩
    have hs := chainU_small c L m
    have hm' : m < many := by omega
    refine jss_asg C 7 (je_mod (je_v C.toFx 2) je_int (by decide)) ?_
    refine jss_ifM [some (.dat (.list (L.map pd))), some (wi (many : Int)), some (wi c), some (.dat (chainU c L m).1.d), some (wi (chainU c L m).2.1), some (wi (chainU c L m).2.2), some (wi (m : Int)), some (wi (sideU c m)), o8] μ9 (jt_eqi (je_v C.toFx 7) je_int) (fun z => ?_) (fun z => ?_) ?_
    · refine jss_asg C 7 (je_mod (je_fdiv (je_v C.toFx 2) (je_add je_int (je_mod (je_v C.toFx 6) je_int (by decide))) (div_small (by omega) (by omega))) je_int (by decide)) (jss_nil ?_)
      unfold sideU
      rw [if_pos (of_decide_eq_true z)]
      rfl
    · refine jss_nil ?_
      unfold sideU
      rw [if_neg (of_decide_eq_false z)]
      rfl
    refine jss_asg C 8 (w := wb (paintU c m)) (je_eqi (je_mod (je_fdiv (je_v C.toFx 2) (je_add je_int (je_mod (je_v C.toFx 6) je_int (by decide))) (div_small (by omega) (by omega))) je_int (by decide)) je_int) ?_
    refine jss_if (rest := []) (jt_eqi (je_v C.toFx 7) je_int) (fun z => ?_) (fun z => ?_)
    · have hx : atI (L.map pd) (chainU c L m).2.1 = some (pd (L.getD (chainU c L m).2.1.toNat (0, .none))) := at_pd (by omega) (by omega)
      refine jss_asg C 3 (je_tup (jd_cons (je_v C.toFx 8) (jd_cons je_non (jd_cons (je_ix (fun _ _ => rfl) (je_ixl (fun _ _ => rfl) (je_v C.toFx 0) (je_v C.toFx 4) hx) je_int rfl) (jd_cons (je_ix (fun _ _ => rfl) (je_ixl (fun _ _ => rfl) (je_v C.toFx 0) (je_v C.toFx 4) hx) je_int rfl) (jd_cons (je_v C.toFx 3) (jd_cons (je_add (je_v C.toFx 6) je_int) jd_nil))))))) ?_
      refine jss_asg C 4 (je_sub (je_v C.toFx 4) je_int) (jss_end (jss_nil ⟨rfl, some (wi (m : Int)), some (wi (sideU c m)), some (wb (paintU c m)), ?_⟩))
      rw [chainU_l (of_decide_eq_true z)]
      rfl
    · have hx : atI (L.map pd) (chainU c L m).2.2 = some (pd (L.getD (chainU c L m).2.2.toNat (0, .none))) := at_pd (by omega) (by omega)
      refine jss_asg C 3 (je_tup (jd_cons (je_v C.toFx 8) (jd_cons (je_v C.toFx 3) (jd_cons (je_ix (fun _ _ => rfl) (je_ixl (fun _ _ => rfl) (je_v C.toFx 0) (je_v C.toFx 5) hx) je_int rfl) (jd_cons (je_ix (fun _ _ => rfl) (je_ixl (fun _ _ => rfl) (je_v C.toFx 0) (je_v C.toFx 5) hx) je_int rfl) (jd_cons je_non (jd_cons (je_add (je_v C.toFx 6) je_int) jd_nil))))))) ?_
      refine jss_asg C 5 (je_add (je_v C.toFx 5) je_int) (jss_end (jss_nil ⟨rfl, some (wi (m : Int)), some (wi (sideU c m)), some (wb (paintU c m)), ?_⟩))
      rw [chainU_r (of_decide_eq_false z)]
      rfl
  · rintro _ _ ⟨rfl, o6, o7, o8, rfl⟩
    exact jss_ret (je_v C.toFx 3) (.inl (by rw [show ((many : Int)).toNat = many from Int.toNat_natCast many]))
end


end Kx
namespace Kx
open PySem PySem.Spec PyProof.Rows L2 RB
/-! ### what the law finds by itself -/
def lts : UT → Int → List Int
  | .nil, h => [h]
  | .node p l _ _ r _, h => lts l (h + (if !p then 1 else 0)) ++ lts r (h + (if !p then 1 else 0))
theorem hts_lts : ∀ (u : UT) (h : Int), hts u h = (lts u h).reverse
  | .nil, _ => rfl
  | .node p l k th r c, h => by
    have e : (if p then h else h + 1) = h + (if !p then 1 else 0) := by cases p <;> simp
    show hts r (if p then h else h + 1) ++ hts l (if p then h else h + 1) = (lts l _ ++ lts r _).reverse
    rw [e, List.reverse_append, hts_lts r, hts_lts l]
def wds : UT → List Str
  | .nil => []
  | .node p l _ _ r c => wds l ++ wds r ++ wsIf (p && l.painted) "paint" ++ wsIf (p && r.painted) "paint" ++ wsIf (!decide (c = (l.size : Int) + 1 + (r.size : Int))) "counts"
theorem wsIf_len (b : Bool) (x : Str) : (wsIf b x).length ≤ 1 := by
  cases b with
  | false => exact Nat.zero_le _
  | true => exact Nat.le_refl _
theorem wds_len : ∀ u : UT, (wds u).length ≤ 3 * u.size
  | .nil => Nat.le_refl _
  | .node p l k th r c => by
    have h1 := wds_len l
    have h2 := wds_len r
    have w1 := wsIf_len (p && l.painted) "paint"
    have w2 := wsIf_len (p && r.painted) "paint"
    have w3 := wsIf_len (!decide (c = (l.size : Int) + 1 + (r.size : Int))) "counts"
    unfold wds
    show _ ≤ 3 * (l.size + 1 + r.size)
    rw [List.length_append, List.length_append, List.length_append, List.length_append]
    omega
theorem mem_wsIf {b : Bool} {x y : Str} : y ∈ wsIf b x ↔ b = true ∧ y = x := by
  cases b with
  | false => simp [wsIf]
  | true => simp [wsIf]
theorem wds_two : ∀ (u : UT), ∀ y ∈ wds u, y = "paint" ∨ y = "counts"
  | .nil, y, h => absurd h (by simp [wds])
  | .node p l k th r c, y, h => by
    unfold wds at h
    rcases List.mem_append.mp h with h | h
    · rcases List.mem_append.mp h with h | h
      · rcases List.mem_append.mp h with h | h
        · rcases List.mem_append.mp h with h | h
          · exact wds_two l y h
          · exact wds_two r y h
        · exact .inl (mem_wsIf.mp h).2
      · exact .inl (mem_wsIf.mp h).2
    · exact .inr (mem_wsIf.mp h).2
theorem pc_ne : ("paint" : Str) ≠ "counts" := by decide
theorem wds_paint : ∀ u : UT, ("paint" : Str) ∈ wds u ↔ u.kn.all okP = false
  | .nil => by simp [wds, UT.kn]
  | .node p l k th r c => by
    have h1 := wds_paint l
    have h2 := wds_paint r
    unfold wds
    show _ ↔ (l.kn ++ UT.node p l k th r c :: r.kn).all okP = false
    rw [List.all_append, List.all_cons, List.mem_append, List.mem_append, List.mem_append, List.mem_append, h1, h2, mem_wsIf, mem_wsIf, mem_wsIf]
    show _ ↔ (l.kn.all okP && (!(p && (l.painted || r.painted)) && r.kn.all okP)) = false
    have hn : ¬ ((!decide (c = (l.size : Int) + 1 + (r.size : Int))) = true ∧ ("paint" : Str) = "counts") := fun z => pc_ne z.2
    generalize l.kn.all okP = a
    generalize r.kn.all okP = b
    generalize l.painted = x
    generalize r.painted = y
    constructor
    · rintro ((((z | z) | z) | z) | z)
      · rw [z]; rfl
      · rw [z]; cases a <;> simp
      · have := z.1
        cases p <;> cases x <;> simp_all
      · have := z.1
        cases p <;> cases y <;> simp_all
      · exact absurd z hn
    · intro z
      cases a <;> cases b <;> cases p <;> cases x <;> cases y <;> simp_all
/-- a knot's count against the real numbers -/
def okS : UT → Bool
  | .nil => true
  | .node _ l _ _ r c => decide (c = (l.size : Int) + 1 + (r.size : Int))
theorem wds_counts : ∀ u : UT, ("counts" : Str) ∈ wds u ↔ u.kn.all okS = false
  | .nil => by simp [wds, UT.kn]
  | .node p l k th r c => by
    have h1 := wds_counts l
    have h2 := wds_counts r
    unfold wds
    show _ ↔ (l.kn ++ UT.node p l k th r c :: r.kn).all okS = false
    rw [List.all_append, List.all_cons, List.mem_append, List.mem_append, List.mem_append, List.mem_append, h1, h2, mem_wsIf, mem_wsIf, mem_wsIf]
    show _ ↔ (l.kn.all okS && (decide (c = (l.size : Int) + 1 + (r.size : Int)) && r.kn.all okS)) = false
    have hn : ∀ b : Bool, ¬ (b = true ∧ ("counts" : Str) = "paint") := fun b z => pc_ne z.2.symm
    generalize l.kn.all okS = a
    generalize r.kn.all okS = b
    generalize decide (c = (l.size : Int) + 1 + (r.size : Int)) = x
    constructor
    · rintro ((((z | z) | z) | z) | z)
      · rw [z]; rfl
      · rw [z]; cases a <;> simp
      · exact absurd z (hn _)
      · exact absurd z (hn _)
      · have := z.1
        cases a <;> cases x <;> simp_all
    · intro z
      cases a <;> cases b <;> cases x <;> simp_all
theorem okS_cnt : ∀ u : UT, u.kn.all okS = true → u.cnt = (u.size : Int)
  | .nil, _ => rfl
  | .node p l k th r c, h => by
    rw [show (UT.node p l k th r c).kn = l.kn ++ UT.node p l k th r c :: r.kn from rfl, List.all_append, List.all_cons, Bool.and_eq_true, Bool.and_eq_true] at h
    have := of_decide_eq_true h.2.1
    show c = ((l.size + 1 + r.size : Nat) : Int)
    omega
theorem okC_cnt : ∀ u : UT, u.kn.all okC = true → u.cnt = (u.size : Int)
  | .nil, _ => rfl
  | .node p l k th r c, h => by
    rw [show (UT.node p l k th r c).kn = l.kn ++ UT.node p l k th r c :: r.kn from rfl, List.all_append, List.all_cons, Bool.and_eq_true, Bool.and_eq_true] at h
    have e : c = l.cnt + 1 + r.cnt := of_decide_eq_true h.2.1
    have e1 := okC_cnt l h.1
    have e2 := okC_cnt r h.2.2
    show c = ((l.size + 1 + r.size : Nat) : Int)
    omega
theorem okCS : ∀ u : UT, u.kn.all okC = u.kn.all okS
  | .nil => rfl
  | .node p l k th r c => by
    have h1 := okCS l
    have h2 := okCS r
    rw [show (UT.node p l k th r c).kn = l.kn ++ UT.node p l k th r c :: r.kn from rfl, List.all_append, List.all_cons, List.all_append, List.all_cons, h1, h2]
    show (l.kn.all okS && (decide (c = l.cnt + 1 + r.cnt) && r.kn.all okS)) = (l.kn.all okS && (decide (c = (l.size : Int) + 1 + (r.size : Int)) && r.kn.all okS))
    cases ha : l.kn.all okS with
    | false => rfl
    | true =>
      cases hb : r.kn.all okS with
      | false => simp only [Bool.and_false]
      | true => rw [okS_cnt l ha, okS_cnt r hb]
theorem keys_kn : ∀ u : UT, keysU u = u.kn.map UT.key
  | .nil => rfl
  | .node p l k th r c => by
    show keysU l ++ [k] ++ keysU r = (l.kn ++ UT.node p l k th r c :: r.kn).map UT.key
    rw [keys_kn l, keys_kn r, List.map_append, List.map_cons, List.append_assoc]
    rfl
def R_looked (m : Nat) : List W → Mu → W → Mu → Prop := fun ws μ w μ' => ∃ (u : UT) (a b : Addr) (i j : Nat) (rs : List Int) (zs : List Str) (h : Int), ws = [.dat u.d, .loc a, .loc b, wi h] ∧ μ[i]? = some (a, OD.l (rs.map .int)) ∧ μ[j]? = some (b, OD.l (zs.map .str)) ∧ i ≠ j ∧ u.dep < m ∧ rs.length + u.size + 1 ≤ 50000 ∧ zs.length + 3 * u.size ≤ 90000 ∧ w = wi (u.size : Int) ∧ μ' = S2 μ i j (a, OD.l ((rs ++ lts u h).map .int)) (b, OD.l ((zs ++ wds u).map .str))
theorem lts_len : ∀ (u : UT) (h : Int), (lts u h).length = u.size + 1 := fun u h => by
  have := congrArg List.length (hts_lts u h)
  rw [hts_len, List.length_reverse] at this
  exact this.symm
section
variable {P : Program} {wd : World} {K : PySem.W.Frag} {mg : Str → Option Value} {base : Heap}
theorem c_looked (TX : Tx K mg) : ∀ m, CalW P wd K mg base m "_law_looked" (R_looked m)
  | 0 => cal_none TX.d__law_looked fun ws μ w μ' ⟨_, _, _, _, _, _, _, _, _, _, _, _, h, _⟩ => Nat.not_lt_zero _ h
  | m + 1 => by
    refine cal_at TX.d__law_looked sc__law_looked (fun ws μ w μ' ⟨_, _, _, _, _, _, _, _, e, _⟩ => by rw [e]; rfl) fun X E C ws μ w μ' ⟨u, a, b, i, j, rs, zs, h, e1, hi, hj, hij, hm, hz, hz2, e2, e3⟩ => ?_
    subst e1 e2 e3
    have cl := (c_looked TX m).here E
    have li : i < μ.length := (List.getElem?_eq_some_iff.mp hi).1
    have lj : j < μ.length := (List.getElem?_eq_some_iff.mp hj).1
    cases u with
    | nil =>
      refine jss_if0 (b1 := true) (JT.cast (jt_isN (je_v C.toFx 0)) rfl) (fun _ => ?_) (fun z => absurd z.symm Bool.false_ne_true)
      refine jss_expr (je_append (n := i) (ds := rs.map .int) (je_v C.toFx 1) (je_v C.toFx 3) hi (by rw [List.length_map]; omega)) ?_
      refine jss_ret je_int (.inl ?_)
      show Out.rt (wi 0) _ = Out.rt (wi 0) (S2 μ i j (a, OD.l ((rs ++ [h]).map .int)) (b, OD.l ((zs ++ []).map .str)))
      rw [List.append_nil, List.map_append]
      exact congrArg (Out.rt (wi 0)) (set_here (by rw [List.getElem?_set_ne hij]; exact hj)).symm
    | node p l k th r c =>
      have hd : max l.dep r.dep + 1 < m + 1 := hm
      have hz' : rs.length + (l.size + 1 + r.size) + 1 ≤ 50000 := hz
      have hz2' : zs.length + 3 * (l.size + 1 + r.size) ≤ 90000 := hz2
      refine jss_if0 (b1 := false) (JT.cast (jt_isN (je_v C.toFx 0)) rfl) (fun z => absurd z Bool.false_ne_true) (fun _ => ?_)
      refine jss_asg C 3 (je_add (je_v C.toFx 3) (je_intB C.toFx (E.mg_eq TX.b_int) (je_not (je_ix (d := .bool p) (fun _ _ => rfl) (je_v C.toFx 0) je_int rfl)))) ?_
      generalize hb : h + (if (!p) = true then (1 : Int) else 0) = h1
      have e1 : lts (.node p l k th r c) h = lts l h1 ++ lts r h1 := by rw [← hb]; rfl
      have ll := lts_len l h1
      have lr := lts_len r h1
      have wl := wds_len l
      have wr := wds_len r
      refine jss_asg C 4 (je_call C.toFx cl (ja_cons (je_ix (d := l.d) (fun _ _ => rfl) (je_v C.toFx 0) je_int rfl) (ja_cons (je_v C.toFx 1) (ja_cons (je_v C.toFx 2) (ja_cons (je_v C.toFx 3) ja_nil)))) ⟨l, a, b, i, j, rs, zs, h1, rfl, hi, hj, hij, by omega, by omega, by omega, rfl, rfl⟩) ?_
      refine jss_asg C 5 (je_call C.toFx cl (ja_cons (je_ix (d := r.d) (fun _ _ => rfl) (je_v C.toFx 0) je_int rfl) (ja_cons (je_v C.toFx 1) (ja_cons (je_v C.toFx 2) (ja_cons (je_v C.toFx 3) ja_nil)))) ⟨r, a, b, i, j, rs ++ lts l h1, zs ++ wds l, h1, rfl, S2.l li hij, S2.r lj, hij, by omega, by rw [List.length_append]; omega, by rw [List.length_append]; omega, rfl, rfl⟩) ?_
      rw [S2.s2 hij]
      refine jss_forL C 6 (ds := [l.d, r.d]) (je_lst (jd_cons (je_ix (d := l.d) (fun _ _ => rfl) (je_v C.toFx 0) je_int rfl) (jd_cons (je_ix (d := r.d) (fun _ _ => rfl) (je_v C.toFx 0) je_int rfl) jd_nil)))
        (fun n ρ' μ2 => (∃ o : Option W, ρ' = [some (.dat (UT.node p l k th r c).d), some (.loc a), some (.loc b), some (wi h1), some (wi (l.size : Int)), some (wi (r.size : Int)), o]) ∧ μ2 = S2 μ i j (a, OD.l ((rs ++ lts l h1 ++ lts r h1).map .int)) (b, OD.l ((zs ++ wds l ++ wds r ++ (if 0 < n then wsIf (p && l.painted) "paint" else []) ++ (if 1 < n then wsIf (p && r.painted) "paint" else [])).map .str))) ⟨⟨_, rfl⟩, by rw [if_neg (by decide), if_neg (by decide), List.append_nil, List.append_nil]⟩ ?_ ?_
      · rintro n d _ _ hn ⟨⟨o, rfl⟩, rfl⟩
        have hx : ∃ x : UT, d = x.d ∧ ((n = 0 ∧ x = l) ∨ (n = 1 ∧ x = r)) := by
          match n, hn with
          | 0, hn => exact ⟨l, (Option.some.inj hn).symm, .inl ⟨rfl, rfl⟩⟩
          | 1, hn => exact ⟨r, (Option.some.inj hn).symm, .inr ⟨rfl, rfl⟩⟩
          | n + 2, hn => simp at hn
        obtain ⟨x, rfl, hx⟩ := hx
        have hnew : (zs ++ wds l ++ wds r ++ (if 0 < n then wsIf (p && l.painted) "paint" else []) ++ (if 1 < n then wsIf (p && r.painted) "paint" else [])) ++ wsIf (p && x.painted) "paint" = zs ++ wds l ++ wds r ++ (if 0 < n + 1 then wsIf (p && l.painted) "paint" else []) ++ (if 1 < n + 1 then wsIf (p && r.painted) "paint" else []) := by
          rcases hx with ⟨rfl, rfl⟩ | ⟨rfl, rfl⟩
          · rw [if_neg (by decide), if_neg (by decide), if_pos (by decide), if_neg (by decide), List.append_nil, List.append_nil, List.append_nil]
          · rw [if_pos (by decide), if_neg (by decide), if_pos (by decide), if_pos (by decide), List.append_nil]
        have hlen : (zs ++ wds l ++ wds r ++ (if 0 < n then wsIf (p && l.painted) "paint" else []) ++ (if 1 < n then wsIf (p && r.painted) "paint" else [])).length ≤ 90002 := by
          have w1 := wsIf_len (p && l.painted) "paint"
          have w2 := wsIf_len (p && r.painted) "paint"
          rw [List.length_append, List.length_append, List.length_append, List.length_append]
          have z1 : (if 0 < n then wsIf (p && l.painted) "paint" else []).length ≤ 1 := by split; exact w1; exact Nat.zero_le _
          have z2 : (if 1 < n then wsIf (p && r.painted) "paint" else []).length ≤ 1 := by split; exact w2; exact Nat.zero_le _
          omega
        rw [← hnew]
        generalize (zs ++ wds l ++ wds r ++ (if 0 < n then wsIf (p && l.painted) "paint" else []) ++ (if 1 < n then wsIf (p && r.painted) "paint" else [])) = Z at *
        refine jss_if0 (b1 := p && x.painted) (μ1 := S2 μ i j (a, OD.l ((rs ++ lts l h1 ++ lts r h1).map .int)) (b, OD.l (Z.map .str))) ?hp (fun z => ?_) (fun z => ?_)
        case hp =>
            refine JT.cast (JW.t (jw_and (b2 := x.painted) (jt_b (b1 := p) (je_ix (d := .bool p) (fun _ _ => rfl) (je_v C.toFx 0) je_int rfl)) fun _ => ?_)) rfl
            cases x with
            | nil => exact jw_and (b1 := false) (b2 := false) (JT.cast (jt_notN (je_v C.toFx 6)) rfl) fun z => absurd z Bool.false_ne_true
            | node p2 l2 k2 th2 r2 c2 => exact JW.cast (jw_and (b1 := true) (b2 := p2) (JT.cast (jt_notN (je_v C.toFx 6)) rfl) fun _ => jw_and1 (jt_b (je_ix (d := .bool p2) (fun _ _ => rfl) (je_v C.toFx 6) je_int rfl))) (Bool.true_and _)
        · refine jss_expr (je_append (n := j) (ds := Z.map .str) (je_v C.toFx 2) je_str (S2.r lj) (by rw [List.length_map]; omega)) (jss_end (jss_nil ⟨⟨_, rfl⟩, ?_⟩))
          rw [S2.sr, z, List.map_append (l₁ := Z)]
          rfl
        · refine jss_nil ⟨⟨_, rfl⟩, ?_⟩
          rw [z]
          show _ = S2 μ i j _ (b, OD.l ((Z ++ []).map .str))
          rw [List.append_nil]
      · rintro _ _ ⟨⟨o, rfl⟩, rfl⟩
        rw [show ([l.d, r.d] : List PyData).length = 2 from rfl, if_pos (by decide), if_pos (by decide)]
        have w1 := wsIf_len (p && l.painted) "paint"
        have w2 := wsIf_len (p && r.painted) "paint"
        have hlen : (zs ++ wds l ++ wds r ++ wsIf (p && l.painted) "paint" ++ wsIf (p && r.painted) "paint").length ≤ 90002 := by
          rw [List.length_append, List.length_append, List.length_append, List.length_append]
          omega
        have hfin : (rs ++ lts (.node p l k th r c) h) = rs ++ lts l h1 ++ lts r h1 := by rw [e1, List.append_assoc]
        have hwd : ∀ y, (zs ++ wds l ++ wds r ++ wsIf (p && l.painted) "paint" ++ wsIf (p && r.painted) "paint") ++ wsIf (!decide (c = (l.size : Int) + 1 + (r.size : Int))) y = zs ++ (wds l ++ wds r ++ wsIf (p && l.painted) "paint" ++ wsIf (p && r.painted) "paint" ++ wsIf (!decide (c = (l.size : Int) + 1 + (r.size : Int))) y) := fun y => by simp only [List.append_assoc]
        have hw2 : zs ++ wds (.node p l k th r c) = (zs ++ wds l ++ wds r ++ wsIf (p && l.painted) "paint" ++ wsIf (p && r.painted) "paint") ++ wsIf (!decide (c = (l.size : Int) + 1 + (r.size : Int))) "counts" := (hwd "counts").symm
        rw [hfin, hw2]
        generalize (zs ++ wds l ++ wds r ++ wsIf (p && l.painted) "paint" ++ wsIf (p && r.painted) "paint") = Z at *
        refine jss_ifM [some (.dat (UT.node p l k th r c).d), some (.loc a), some (.loc b), some (wi h1), some (wi (l.size : Int)), some (wi (r.size : Int)), o] (S2 μ i j (a, OD.l ((rs ++ lts l h1 ++ lts r h1).map .int)) (b, OD.l ((Z ++ wsIf (!decide (c = (l.size : Int) + 1 + (r.size : Int))) "counts").map .str))) (jt_nei (i := c) (je_ix (d := .int c) (fun _ _ => rfl) (je_v C.toFx 0) je_int rfl) (je_add (je_add (je_v C.toFx 4) je_int) (je_v C.toFx 5))) (fun z => ?_) (fun z => ?_) ?_
        · refine jss_expr (je_append (n := j) (ds := Z.map .str) (je_v C.toFx 2) je_str (S2.r lj) (by rw [List.length_map]; omega)) (jss_nil ?_)
          rw [S2.sr, z, List.map_append (l₁ := Z)]
          rfl
        · refine jss_nil ?_
          rw [z]
          show _ = Out.nx _ (S2 μ i j _ (b, OD.l ((Z ++ []).map .str)))
          rw [List.append_nil]
        · refine jss_ret (JE.cast (je_add (je_add (je_v C.toFx 4) je_int) (je_v C.toFx 5)) (show wi _ = wi ((l.size + 1 + r.size : Nat) : Int) from congrArg wi (by omega))) (.inl rfl)
end


end Kx
namespace Kx
open PySem PySem.Spec PyProof.Rows L2 RB
def five : List Str := ["top", "paint", "roads", "order", "counts"]
theorem five_is {f : Nat → Bool} {t p r o c : Bool} (h0 : f 0 = t) (h1 : f 1 = !p) (h2 : f 2 = !r) (h3 : f 3 = !o) (h4 : f 4 = !c) : gv f (fun i => .str (five.getD i "")) 5 = (faultsL t p r o c).map .str := by
  simp only [gv, h0, h1, h2, h3, h4]
  cases t <;> cases p <;> cases r <;> cases o <;> cases c <;> rfl
theorem faults_shaped (t p r o c : Bool) : SeqAt.shaped (.list ((faultsL t p r o c).map .str)) = true := by
  cases t <;> cases p <;> cases r <;> cases o <;> cases c <;> decide +kernel
theorem faultsL_len (t p r o c : Bool) : (faultsL t p r o c).length ≤ 5 := by
  cases t <;> cases p <;> cases r <;> cases o <;> cases c <;> decide
/-- the words that the law gathers -/
def allW (u : UT) (b : Bool) (n : Nat) : List Str := wds u ++ wsIf u.painted "top" ++ wsIf (!b) "roads" ++ List.replicate n ("order" : Str)
theorem has_word {x : Str} {W : List Str} {b : Bool} (h : x ∈ W ↔ b = true) : W.contains x = b := by
  rw [Bool.eq_iff_iff, ← h]
  exact List.contains_iff_mem
theorem allW_mem {u : UT} {b : Bool} {n : Nat} {x : Str} : x ∈ allW u b n ↔ x ∈ wds u ∨ (u.painted = true ∧ x = "top") ∨ ((!b) = true ∧ x = "roads") ∨ (n ≠ 0 ∧ x = "order") := by
  unfold allW
  rw [List.mem_append, List.mem_append, List.mem_append, mem_wsIf, mem_wsIf, List.mem_replicate]
  constructor
  · rintro (((h | h) | h) | h)
    · exact .inl h
    · exact .inr (.inl h)
    · exact .inr (.inr (.inl h))
    · exact .inr (.inr (.inr h))
  · rintro (h | h | h | h)
    · exact .inl (.inl (.inl h))
    · exact .inl (.inl (.inr h))
    · exact .inl (.inr h)
    · exact .inr h
theorem not_wds {u : UT} {x : Str} (h1 : x ≠ "paint") (h2 : x ≠ "counts") : ¬ x ∈ wds u := fun h => (wds_two u x h).elim h1 h2
theorem due_is {u : UT} {b : Bool} {n : Nat} (hn : n = 0 ↔ okO u.kn = true) : gv (fun i => (allW u b n).contains (five.getD i "")) (fun i => .str (five.getD i "")) 5 = (faultsL u.painted (u.kn.all okP) b (okO u.kn) (u.kn.all okC)).map .str := by
  refine five_is (has_word ?_) (has_word ?_) (has_word ?_) (has_word ?_) (has_word ?_)
  · rw [allW_mem]
    constructor
    · rintro (h | h | h | h)
      · exact absurd h (not_wds (by decide) (by decide))
      · exact h.1
      · exact absurd h.2 (by decide)
      · exact absurd h.2 (by decide)
    · exact fun h => .inr (.inl ⟨h, rfl⟩)
  · rw [allW_mem, show five.getD 1 "" = "paint" from rfl, wds_paint]
    constructor
    · rintro (h | h | h | h)
      · rw [h]; rfl
      · exact absurd h.2 (by decide)
      · exact absurd h.2 (by decide)
      · exact absurd h.2 (by decide)
    · intro h
      refine .inl ?_
      cases hh : u.kn.all okP with
      | false => rfl
      | true => rw [hh] at h; exact absurd h (by decide)
  · rw [allW_mem]
    constructor
    · rintro (h | h | h | h)
      · exact absurd h (not_wds (by decide) (by decide))
      · exact absurd h.2 (by decide)
      · exact h.1
      · exact absurd h.2 (by decide)
    · exact fun h => .inr (.inr (.inl ⟨h, rfl⟩))
  · rw [allW_mem]
    have e : (!okO u.kn) = true ↔ n ≠ 0 := by
      rw [Ne, hn]
      cases okO u.kn <;> simp
    rw [e]
    constructor
    · rintro (h | h | h | h)
      · exact absurd h (not_wds (by decide) (by decide))
      · exact absurd h.2 (by decide)
      · exact absurd h.2 (by decide)
      · exact h.1
    · exact fun h => .inr (.inr (.inr ⟨h, rfl⟩))
  · rw [allW_mem, show five.getD 4 "" = "counts" from rfl, wds_counts, okCS]
    constructor
    · rintro (h | h | h | h)
      · rw [h]; rfl
      · exact absurd h.2 (by decide)
      · exact absurd h.2 (by decide)
      · exact absurd h.2 (by decide)
    · intro h
      refine .inl ?_
      cases hh : u.kn.all okS with
      | false => rfl
      | true => rw [hh] at h; exact absurd h (by decide)
def R_due5 : List W → Mu → List PyData → Mu → Prop := fun ws μ ds μ' => ∃ (u : UT) (b : Bool), ws = [.dat u.d] ∧ u.size ≤ 4000 ∧ u.dep ≤ 205 ∧ (b = true ↔ okR (hts u 0)) ∧ ds = (faultsL u.painted (u.kn.all okP) b (okO u.kn) (u.kn.all okC)).map .str ∧ μ' = μ
theorem keys_at {u : UT} {j : Nat} (h : j < u.size) : (keysU u).getD j 0 = (u.kn.getD j .nil).key := by
  have hl : j < u.kn.length := by rw [kn_len]; exact h
  rw [keys_kn, List.getD_eq_getElem?_getD, List.getD_eq_getElem?_getD, List.getElem?_map, List.getElem?_eq_getElem hl]
  rfl
section
variable {P : Program} {wd : World} {K : PySem.W.Frag} {mg : Str → Option Value} {base : Heap}
theorem c_due5 (TX : Tx K mg) : CalL P wd K mg base 208 "_law_due" R_due5 := by
  refine cal_atL TX.d__law_due sc__law_due (fun ws μ w μ' ⟨_, _, e, _, _, _, _, e2⟩ => ⟨by rw [e]; rfl, e2⟩) fun X E C ws μ w μ' ⟨u, b, e1, hz, hd, hb, e2, e3⟩ => ?_
  subst e1 e2 e3
  have cl := (c_looked (P := P) (wd := wd) (base := base) TX 206).here E
  have ck := (c_ukeys (P := P) (wd := wd) (base := base) TX 206).here E
  have il := kn_len u
  have kl := keysU_len u
  have wl := wds_len u
  refine jss_asgL C 1 (jl_lst jd_nil) fun lr => ?_
  refine jss_asgL C 2 (jl_lst jd_nil) fun lw => ?_
  refine jss_asg C 3 (je_call C.toFx cl (ja_cons (je_v C.toFx 0) (ja_cons (je_v C.toFx 1) (ja_cons (je_v C.toFx 2) (ja_cons je_int ja_nil)))) ⟨u, lr, lw, 1, 0, [], [], 0, rfl, rfl, rfl, by decide, by omega, by show 0 + u.size + 1 ≤ _; omega, by show 0 + 3 * u.size ≤ _; omega, rfl, rfl⟩) ?_
  show JSs X _ ((lw, OD.l ((wds u).map .str)) :: (lr, OD.l ((lts u 0).map .int)) :: μ') _ _
  refine jss_swap (jss_frz 1 rfl ?_)
  have hne : lts u 0 ≠ [] := fun e => by have := lts_len u 0; rw [e] at this; simp at this
  obtain ⟨m1, hm1, le1⟩ := exists_min hne
  obtain ⟨m2, hm2, le2⟩ := exists_max hne
  have hmm : decide (m1 < m2) = !b := by
    have hb' : b = true ↔ m1 = m2 := by
      rw [hb, hts_lts]
      constructor
      · exact fun h => h _ (List.mem_reverse.mpr hm1) _ (List.mem_reverse.mpr hm2)
      · intro e a ha b hb'
        have ha' := List.mem_reverse.mp ha
        have hb'' := List.mem_reverse.mp hb'
        have := le1 a ha'
        have := le1 b hb''
        have := le2 a ha'
        have := le2 b hb''
        omega
    have h12 := le1 m2 hm2
    cases b with
    | true => rw [decide_eq_false (by have := hb'.mp rfl; omega)]; rfl
    | false =>
      rw [decide_eq_true (by
        have : ¬ m1 = m2 := fun e => Bool.false_ne_true (hb'.mpr e)
        omega)]
      rfl
  refine jss_ifM [some (.dat u.d), some (.dat (.list ((lts u 0).map .int))), some (.loc lw), some (wi (u.size : Int)), none, none, none] ((lw, OD.l ((wds u ++ wsIf u.painted "top").map .str)) :: μ') (b1 := u.painted) (μ1 := (lw, OD.l ((wds u).map .str)) :: μ') ?t1 (fun z => ?_) (fun z => ?_) ?_
  case t1 =>
    cases u with
    | nil => exact JT.cast (JW.t (jw_and (b1 := false) (b2 := false) (JT.cast (jt_gt (je_v C.toFx 3) je_int) (by decide)) fun z => absurd z Bool.false_ne_true)) rfl
    | node p l k th r c => exact JT.cast (JW.t (jw_and (b1 := true) (b2 := p) (JT.cast (jt_gt (je_v C.toFx 3) je_int) (decide_eq_true (by show (0 : Int) < ((l.size + 1 + r.size : Nat) : Int); omega))) fun _ => jw_and1 (jt_b (je_ix (d := .bool p) (fun _ _ => rfl) (je_v C.toFx 0) je_int rfl)))) (Bool.true_and _)
  · refine jss_expr (je_append (n := 0) (ds := (wds u).map .str) (je_v C.toFx 2) je_str rfl (by rw [List.length_map]; omega)) (jss_nil ?_)
    rw [z, List.map_append (l₁ := wds u)]
    rfl
  · refine jss_nil ?_
    rw [z]
    show _ = Out.nx _ ((lw, OD.l ((wds u ++ []).map .str)) :: μ')
    rw [List.append_nil]
    rfl
  have w1 := wsIf_len u.painted "top"
  have l1 : (wds u ++ wsIf u.painted "top").length ≤ 12001 := by rw [List.length_append]; omega
  have eW : ∀ n, allW u b n = wds u ++ wsIf u.painted "top" ++ wsIf (!b) "roads" ++ List.replicate n ("order" : Str) := fun _ => rfl
  have hdue : ∀ n, (n = 0 ↔ okO u.kn = true) → _ := fun n hn => due_is (u := u) (b := b) (n := n) hn
  simp only [eW] at hdue
  generalize wds u ++ wsIf u.painted "top" = Z1 at *
  refine jss_ifM [some (.dat u.d), some (.dat (.list ((lts u 0).map .int))), some (.loc lw), some (wi (u.size : Int)), none, none, none] ((lw, OD.l ((Z1 ++ wsIf (!b) "roads").map .str)) :: μ') (JT.cast (jt_lt (je_minL C.toFx (E.mg_eq TX.b_min) (je_v C.toFx 1) hm1 le1) (je_maxL C.toFx (E.mg_eq TX.b_max) (je_v C.toFx 1) hm2 le2)) hmm) (fun z => ?_) (fun z => ?_) ?_
  · refine jss_expr (je_append (n := 0) (ds := Z1.map .str) (je_v C.toFx 2) je_str rfl (by rw [List.length_map]; omega)) (jss_nil ?_)
    rw [z, List.map_append (l₁ := Z1)]
    rfl
  · refine jss_nil ?_
    rw [z]
    show _ = Out.nx _ ((lw, OD.l ((Z1 ++ []).map .str)) :: μ')
    rw [List.append_nil]
  have w2 := wsIf_len (!b) "roads"
  have l2 : (Z1 ++ wsIf (!b) "roads").length ≤ 12002 := by rw [List.length_append]; omega
  generalize Z1 ++ wsIf (!b) "roads" = Z2 at *
  refine jss_asg C 4 (w := .dat (.list ((keysU u).map .int))) (JL.je (jl_call C.toFx ck (ja_cons (je_v C.toFx 0) ja_nil) ⟨u, rfl, by omega, by omega, rfl, rfl⟩)) ?_
  refine jss_forR2M C (fun z => Md.noConfusion z) 5 (E.mg_eq TX.b_range) je_int (je_v C.toFx 3) (by decide) (by decide) (by omega) (by omega)
    (fun m ρ' μ2 => ∃ (n : Nat) (o5 : Option W), n ≤ m ∧ (n = 0 ↔ ∀ j, j < m → okAt u.kn j = true) ∧ ρ' = [some (.dat u.d), some (.dat (.list ((lts u 0).map .int))), some (.loc lw), some (wi (u.size : Int)), some (.dat (.list ((keysU u).map .int))), o5, none] ∧ μ2 = (lw, OD.l ((Z2 ++ List.replicate n ("order" : Str)).map .str)) :: μ') ⟨0, _, Nat.le_refl _, ⟨fun _ j hj => absurd hj (by omega), fun _ => rfl⟩, rfl, by rw [List.replicate_zero, List.append_nil]⟩ ?_ ?_
  · rintro m _ _ hm ⟨n, o5, hnm, hn, rfl, rfl⟩
    have h0 : m < u.size := by omega
    have h1 : m + 1 < u.size := by omega
    have k0 : atI ((keysU u).map PyData.int) ((1 : Int) + (m : Int) - 1) = some (.int (u.kn.getD m .nil).key) := by
      have := at_ints (l := keysU u) (i := (1 : Int) + (m : Int) - 1) (by omega) (by omega)
      rw [show ((1 : Int) + (m : Int) - 1).toNat = m by omega, keys_at h0] at this
      exact this
    have k1 : atI ((keysU u).map PyData.int) ((1 : Int) + (m : Int)) = some (.int (u.kn.getD (m + 1) .nil).key) := by
      have := at_ints (l := keysU u) (i := (1 : Int) + (m : Int)) (by omega) (by omega)
      rw [show ((1 : Int) + (m : Int)).toNat = m + 1 by omega, keys_at h1] at this
      exact this
    refine jss_if0 (jt_ge (je_ixl (fun _ _ => rfl) (je_v C.toFx 4) (je_sub (je_v C.toFx 5) je_int) k0) (je_ixl (fun _ _ => rfl) (je_v C.toFx 4) (je_v C.toFx 5) k1)) (fun z => ?_) (fun z => ?_)
    · have z' := of_decide_eq_true z
      refine jss_expr (je_append (n := 0) (ds := (Z2 ++ List.replicate n ("order" : Str)).map .str) (je_v C.toFx 2) je_str rfl (by rw [List.length_map, List.length_append, List.length_replicate]; omega)) (jss_end (jss_nil ⟨n + 1, _, by omega, ⟨fun h => by omega, fun h => ?_⟩, rfl, ?_⟩))
      · have hx := h m (by omega)
        unfold okAt at hx
        have := of_decide_eq_true hx
        omega
      · rw [show List.replicate (n + 1) ("order" : Str) = List.replicate n ("order" : Str) ++ [("order" : Str)] from List.replicate_succ', ← List.append_assoc, List.map_append (l₁ := Z2 ++ List.replicate n ("order" : Str))]
        rfl
    · have z' := of_decide_eq_false z
      have hm' : okAt u.kn m = true := by unfold okAt; exact decide_eq_true (by omega)
      refine jss_nil ⟨n, _, by omega, ?_, rfl, rfl⟩
      rw [hn]
      constructor
      · intro h j hj
        by_cases c : j = m
        · rw [c]; exact hm'
        · exact h j (by omega)
      · exact fun h j hj => h j (by omega)
  · rintro _ _ ⟨n, o5, hnm, hn, rfl, rfl⟩
    have hok : n = 0 ↔ okO u.kn = true := by
      rw [hn]
      unfold okO
      rw [List.all_eq_true, il]
      constructor
      · exact fun h j hj => h j (by have := List.mem_range.mp hj; omega)
      · exact fun h j hj => h j (List.mem_range.mpr (by omega))
    refine jss_frz 2 rfl ?_
    have hd5 := hdue n hok
    refine jss_retL (JL.cast (jl_compL (ds := five.map .str) C.toFx 6 (fun i => (Z2 ++ List.replicate n ("order" : Str)).contains (five.getD i "")) (fun i => .str (five.getD i "")) (je_lst (jd_cons je_str (jd_cons je_str (jd_cons je_str (jd_cons je_str (jd_cons je_str jd_nil)))))) (by decide) (by decide +kernel) rfl (by decide +kernel) (fun Y i d CY sy hi => ?t2) (fun Y i d CY sy hi hf => ?e2)) hd5) rfl
    case t2 =>
      obtain ⟨hlt, e⟩ := List.getElem?_eq_some_iff.mp hi
      rw [List.getElem_map] at e
      subst e
      have e2 : five.getD i "" = five[i]'(by rw [List.length_map] at hlt; exact hlt) := by
        rw [List.getD_eq_getElem?_getD, List.getElem?_eq_getElem (by rw [List.length_map] at hlt; exact hlt)]
        rfl
      rw [e2]
      exact jts_one (jt_inS (je_v CY 6) (je_v CY 2))
    case e2 =>
      obtain ⟨hlt, e⟩ := List.getElem?_eq_some_iff.mp hi
      rw [List.getElem_map] at e
      subst e
      have e2 : five.getD i "" = five[i]'(by rw [List.length_map] at hlt; exact hlt) := by
        rw [List.getD_eq_getElem?_getD, List.getElem?_eq_getElem (by rw [List.length_map] at hlt; exact hlt)]
        rfl
      rw [e2]
      exact je_v CY 6
end


end Kx
namespace Kx
open PySem PySem.Spec PyProof.Rows L2 RB
/-! ### lists of plain data; filters -/
def atom : PyData → Bool
  | .none => true | .bool _ => true | .int _ => true | _ => false
theorem lay_atoms : ∀ l : List PyData, (∀ d ∈ l, atom d = true) → PyData.canLayAll0 l = true
  | [], _ => by simp [PyData.canLayAll0]
  | d :: l, h => by
    unfold PyData.canLayAll0
    rw [lay_atoms l fun d hd => h d (List.mem_cons_of_mem _ hd), Bool.and_true]
    have h0 := h d List.mem_cons_self
    cases d <;> first | exact absurd h0 Bool.false_ne_true | simp [PyData.canLay0]
theorem dep_atoms : ∀ l : List PyData, (∀ d ∈ l, atom d = true) → PyData.depthAll l = 0
  | [], _ => by simp [PyData.depthAll]
  | d :: l, h => by
    unfold PyData.depthAll
    rw [dep_atoms l fun d hd => h d (List.mem_cons_of_mem _ hd)]
    have h0 := h d List.mem_cons_self
    cases d <;> first | exact absurd h0 Bool.false_ne_true | simp [PyData.depth]
theorem shaped_atoms (l : List PyData) (h : ∀ d ∈ l, atom d = true) : SeqAt.shaped (.list l) = true := by
  unfold SeqAt.shaped
  unfold PyData.canLay0 PyData.depth
  rw [lay_atoms l h, dep_atoms l h]
  rfl
theorem eqv_all_atoms : ∀ l : List PyData, (∀ d ∈ l, atom d = true) → PyData.eqvAll l l = true
  | [], _ => by simp [PyData.eqvAll]
  | d :: l, h => by
    unfold PyData.eqvAll
    rw [eqv_all_atoms l fun d hd => h d (List.mem_cons_of_mem _ hd), Bool.and_true]
    have h0 := h d List.mem_cons_self
    cases d <;> first | exact absurd h0 Bool.false_ne_true | simp [PyData.eqv]
theorem eqv_atoms (l : List PyData) (h : ∀ d ∈ l, atom d = true) : PyData.eqv (.list l) (.list l) = true := by
  unfold PyData.eqv
  exact eqv_all_atoms l h
theorem atoms_rep (n : Nat) : ∀ d ∈ List.replicate n (PyData.bool true), atom d = true := fun d hd => by rw [(List.mem_replicate.mp hd).2]; rfl
theorem gv_rep (n : Nat) : gv (fun _ => true) (fun _ => PyData.bool true) n = List.replicate n (PyData.bool true) := by
  rw [gv_true]
  induction n with
  | zero => rfl
  | succ n ih => rw [List.range_succ, List.map_append, ih, List.replicate_succ']; rfl
theorem flat_rep (n : Nat) : (List.replicate n [PyData.bool true]).flatten = List.replicate n (PyData.bool true) := by
  induction n with
  | zero => rfl
  | succ n ih => rw [List.replicate_succ, List.flatten_cons, ih]; rfl
theorem gv_filter (L : List PP) (P : PP → Bool) (g : PP → PyData) : ∀ n, n ≤ L.length → gv (fun i => P (L.getD i (0, .none))) (fun i => g (L.getD i (0, .none))) n = ((L.take n).filter P).map g
  | 0, _ => by rw [List.take_zero]; rfl
  | n + 1, h => by
    have hn : n < L.length := h
    have e : L.getD n (0, .none) = L[n] := by rw [List.getD_eq_getElem?_getD, List.getElem?_eq_getElem hn]; rfl
    unfold gv
    rw [gv_filter L P g n (by omega), List.take_succ_eq_append_getElem hn, List.filter_append, List.map_append, e]
    cases hp : P L[n] with
    | true => rw [if_pos rfl, List.filter_cons, if_pos hp]; rfl
    | false => rw [if_neg Bool.false_ne_true, List.filter_cons, if_neg (by rw [hp]; exact Bool.false_ne_true)]; simp
theorem gv_filter_all (L : List PP) (P : PP → Bool) (g : PP → PyData) : gv (fun i => P (L.getD i (0, .none))) (fun i => g (L.getD i (0, .none))) (L.map pd).length = (L.filter P).map g := by
  rw [List.length_map, gv_filter L P g L.length (Nat.le_refl _), List.take_length]
theorem get_pd {L : List PP} {n : Nat} {d : PyData} (h : (L.map pd)[n]? = some d) : d = pd (L.getD n (0, .none)) ∧ n < L.length := by
  have hn : n < (L.map pd).length := (List.getElem?_eq_some_iff.mp h).1
  rw [List.length_map] at hn
  rw [List.getElem?_map, List.getElem?_eq_getElem hn] at h
  rw [List.getD_eq_getElem?_getD, List.getElem?_eq_getElem hn]
  exact ⟨(Option.some.inj h).symm, hn⟩
theorem rise_node {p : Bool} {l r : T} {k : Int} {th : PyData} (h : Rise (T.node p l k th r).ino) : Rise l.ino ∧ Rise r.ino ∧ (∀ q ∈ l.ino, q.1 < k) ∧ (∀ q ∈ r.ino, k < q.1) := by
  have h' : (l.ino ++ (k, th) :: r.ino).Pairwise fun a b => a.1 < b.1 := h
  rw [List.pairwise_append, List.pairwise_cons] at h'
  obtain ⟨h1, ⟨h2, h3⟩, h4⟩ := h'
  exact ⟨h1, h3, fun q hq => h4 q hq (k, th) List.mem_cons_self, fun q hq => h2 q hq⟩
theorem pairD_al (c : Int) (k : Nat) : Al 13 (pairD c k) := by
  refine ⟨by exact of_decide_eq_true rfl, fun d hd => ?_⟩
  simp only [List.mem_cons, List.not_mem_nil, or_false] at hd
  rcases hd with rfl | rfl
  · exact trivial
  · exact thing_al _
theorem pd_al {c : Int} {n : Nat} {q : PP} (h : q ∈ psOf c n) : Al 13 (pd q) := by
  unfold psOf at h
  obtain ⟨k, _, rfl⟩ := List.mem_map.mp h
  exact pairD_al c k
def lastD : List PyData → PyData → PyData
  | [], b => b
  | x :: r, _ => lastD r x
theorem lastD_app (A : List PyData) (q : PyData) (B : List PyData) (b : PyData) : lastD (A ++ q :: B) b = lastD B q := by
  induction A generalizing b with
  | nil => rfl
  | cons x A ih => exact ih x
theorem at_last (x : PyData) (M : List PyData) : atI (x :: M) (-1) = some (lastD M x) := by
  obtain ⟨A, y, h1, h2⟩ : ∃ A y, x :: M = A ++ [y] ∧ lastD M x = y := by
    induction M generalizing x with
    | nil => exact ⟨[], x, rfl, rfl⟩
    | cons z M ih =>
      obtain ⟨A, y, h1, h2⟩ := ih z
      exact ⟨x :: A, y, by rw [h1]; rfl, h2⟩
  rw [h1, h2]
  exact atI_last A y
theorem lastD_mem (M : List PyData) (x : PyData) : lastD M x = x ∨ lastD M x ∈ M := by
  induction M generalizing x with
  | nil => exact .inl rfl
  | cons z M ih =>
    rcases ih z with h | h
    · exact .inr (by show lastD M z ∈ _; rw [h]; exact List.mem_cons_self)
    · exact .inr (List.mem_cons_of_mem _ h)
theorem filter_none {L : List PP} {P : PP → Bool} (h : ∀ q ∈ L, P q = false) : L.filter P = [] := by
  rw [List.filter_eq_nil_iff]
  exact fun q hq => by rw [h q hq]; exact Bool.false_ne_true
theorem headD_app (A : List PyData) (q : PyData) (B : List PyData) (b : PyData) : (A ++ q :: B).headD b = A.headD q := by
  cases A <;> rfl
theorem headD_mem (M : List PyData) (x : PyData) : M.headD x = x ∨ M.headD x ∈ M := by
  cases M with
  | nil => exact .inl rfl
  | cons z M => exact .inr List.mem_cons_self
theorem head_at (M : List PyData) (x : PyData) : atI (M ++ [x]) 0 = some (M.headD x) := by
  cases M with
  | nil => exact atI_nat (j := 0) rfl
  | cons z M => exact atI_nat (j := 0) rfl
theorem psOf_pd {c : Int} {n : Nat} {P : PP → Bool} {d : PyData} (h : d ∈ ((psOf c n).filter P).map pd) : ∃ q : PP, d = pd q ∧ Al 13 (pd q) := by
  obtain ⟨q, hq, rfl⟩ := List.mem_map.mp h
  exact ⟨q, rfl, pd_al (List.mem_filter.mp hq).1⟩
theorem filter_all {L : List PP} {P : PP → Bool} (h : ∀ q ∈ L, P q = true) : L.filter P = L := List.filter_eq_self.mpr h

/-! ### things that can be laid; == of pairs -/
theorem strOk_mem {x : Str} : PyData.strOk x = true ↔ ∀ c ∈ x.cps.toList, c < 0x110000 := by
  unfold PyData.strOk
  rw [← Array.all_toList, List.all_eq_true]
  exact ⟨fun h c hc => of_decide_eq_true (h c hc), fun h c hc => decide_eq_true (h c hc)⟩
theorem strOk_app {x y : Str} (h1 : PyData.strOk x = true) (h2 : PyData.strOk y = true) : PyData.strOk (x ++ y) = true := by
  rw [strOk_mem] at *
  intro c hc
  have e : (x ++ y).cps.toList = x.cps.toList ++ y.cps.toList := by
    show (x.cps ++ y.cps).toList = _
    rw [Array.toList_append]
  rw [e] at hc
  exact (List.mem_append.mp hc).elim (h1 c) (h2 c)
theorem strOk_cut {x : Str} {l h : Option Int} (h1 : PyData.strOk x = true) : PyData.strOk (cutS x l h) = true := by
  rw [strOk_mem] at *
  intro c hc
  unfold cutS at hc
  rw [List.toList_toArray] at hc
  exact h1 c (List.mem_of_mem_drop (List.mem_of_mem_take hc))
theorem strOk_mul3 {x : Str} (h1 : PyData.strOk x = true) : PyData.strOk (Txt.mul x 3) = true := by
  rw [strOk_mem] at *
  intro c hc
  unfold Txt.mul at hc
  rw [if_neg (by decide)] at hc
  split at hc
  · exact h1 c hc
  · have e : (((List.replicate (3 : Int).toNat x.cps).foldl (· ++ ·) #[] : Array Nat)).toList = x.cps.toList ++ x.cps.toList ++ x.cps.toList := by
      simp [List.replicate]
    rw [e] at hc
    rcases List.mem_append.mp hc with z | z
    · exact (List.mem_append.mp z).elim (h1 c) (h1 c)
    · exact h1 c z
theorem signs_ok : PyData.strOk (signs ++ signs) = true := by decide +kernel
theorem textD_ok (c n : Int) : PyData.strOk (textD c n) = true := by
  have h : PyData.strOk (textOf c n) = true := strOk_cut signs_ok
  unfold textD
  split
  · exact strOk_app (strOk_app h (strOk_mul3 (strOk_cut h))) (strOk_cut h)
  · exact h
theorem layAll : ∀ {l : List PyData}, (∀ d ∈ l, d.canLay0 = true) → PyData.canLayAll0 l = true
  | [], _ => by simp [PyData.canLayAll0]
  | d :: l, h => by
    unfold PyData.canLayAll0
    rw [h d List.mem_cons_self, layAll fun d hd => h d (List.mem_cons_of_mem _ hd)]
    rfl
theorem nest_lay (c : Int) : ∀ n, (nest c n).canLay0 = true
  | 0 => by unfold nest; simp [PyData.canLay0, PyData.canLayAll0]
  | n + 1 => by
    unfold nest PyData.canLay0
    refine layAll fun d hd => ?_
    simp only [List.mem_cons, List.not_mem_nil, or_false] at hd
    rcases hd with rfl | rfl
    · exact nest_lay c n
    · simp [PyData.canLay0]
theorem menu_lay : ∀ d ∈ menu, d.canLay0 = true := by
  have h : (menu.all fun d => d.canLay0) = true := by decide +kernel
  exact List.all_eq_true.mp h
theorem thing_lay (c : Int) : (thing c).canLay0 = true := by
  have m0 : 0 ≤ c % 12 := Int.emod_nonneg c (by decide)
  have m1 : c % 12 < 12 := Int.emod_lt_of_pos c (by decide)
  unfold thing
  split
  · unfold PyData.canLay0
    exact textD_ok _ _
  split
  · simp [PyData.canLay0]
  split
  · unfold PyData.canLay0
    refine layAll fun d hd => ?_
    rw [gv_true] at hd
    obtain ⟨k, _, rfl⟩ := List.mem_map.mp hd
    simp [PyData.canLay0]
  split
  · exact nest_lay _ _
  split
  · unfold PyData.canLay0
    refine layAll fun d hd => ?_
    simp only [List.mem_cons, List.not_mem_nil, or_false] at hd
    rcases hd with rfl | rfl | rfl | rfl
    · simp [PyData.canLay0]
    · unfold PyData.canLay0; exact textD_ok _ _
    · simp [PyData.canLay0]
    · decide +kernel
  · rw [List.getD_eq_getElem?_getD, List.getElem?_eq_getElem (by show _ < 7; omega)]
    exact menu_lay _ (List.getElem_mem _)
theorem al_depth : ∀ {n : Nat} {d : PyData}, Al n d → d.depth ≤ n
  | 0, _, h => h.elim
  | n + 1, .none, _ => by unfold PyData.depth; omega
  | n + 1, .bool _, _ => by unfold PyData.depth; omega
  | n + 1, .int _, _ => by unfold PyData.depth; omega
  | n + 1, .str _, _ => by unfold PyData.depth; omega
  | n + 1, .tuple ds, h => by
    unfold PyData.depth
    have go : ∀ l : List PyData, (∀ d ∈ l, d.depth ≤ n) → PyData.depthAll l ≤ n := by
      intro l
      induction l with
      | nil => intro _; unfold PyData.depthAll; omega
      | cons x l ih =>
        intro hl
        unfold PyData.depthAll
        have h1 := hl x List.mem_cons_self
        have h2 := ih fun d hd => hl d (List.mem_cons_of_mem _ hd)
        omega
    have := go ds fun d hd => al_depth (h.2 d hd)
    omega
/-- a pair that is alike itself and can be laid -/
def Ok1 (q : PP) : Prop := Al 13 (pd q) ∧ q.2.canLay0 = true
theorem pd_lay {q : PP} (h : Ok1 q) : (pd q).canLay0 = true := by
  unfold pd PyData.canLay0
  refine layAll fun d hd => ?_
  simp only [List.mem_cons, List.not_mem_nil, or_false] at hd
  rcases hd with rfl | rfl
  · simp [PyData.canLay0]
  · exact h.2
theorem ps_ok1 {c : Int} {n : Nat} {q : PP} (h : q ∈ psOf c n) : Ok1 q := by
  refine ⟨pd_al h, ?_⟩
  unfold psOf at h
  obtain ⟨k, _, rfl⟩ := List.mem_map.mp h
  exact thing_lay _
theorem shaped_pairs {L : List PP} (h : ∀ q ∈ L, Ok1 q) : SeqAt.shaped (.list (L.map pd)) = true := by
  unfold SeqAt.shaped
  rw [Bool.and_eq_true, decide_eq_true_iff]
  refine ⟨?_, ?_⟩
  · unfold PyData.canLay0
    refine layAll fun d hd => ?_
    obtain ⟨q, hq, rfl⟩ := List.mem_map.mp hd
    exact pd_lay (h q hq)
  · unfold PyData.depth
    have go : ∀ l : List PyData, (∀ d ∈ l, d.depth ≤ 13) → PyData.depthAll l ≤ 13 := by
      intro l
      induction l with
      | nil => intro _; unfold PyData.depthAll; omega
      | cons x l ih =>
        intro hl
        unfold PyData.depthAll
        have h1 := hl x List.mem_cons_self
        have h2 := ih fun d hd => hl d (List.mem_cons_of_mem _ hd)
        omega
    have := go (L.map pd) fun d hd => by
      obtain ⟨q, hq, rfl⟩ := List.mem_map.mp hd
      exact al_depth (h q hq).1
    omega
mutual
theorem eqv_rfl : ∀ d : PyData, d.canLay0 = true → PyData.eqv d d = true
  | .none, _ => by simp [PyData.eqv]
  | .bool b, _ => by simp [PyData.eqv]
  | .int i, _ => by simp [PyData.eqv]
  | .str x, _ => by simp [PyData.eqv]
  | .list ds, h => by unfold PyData.eqv; exact eqvAll_rfl ds (by simpa [PyData.canLay0] using h)
  | .tuple ds, h => by unfold PyData.eqv; exact eqvAll_rfl ds (by simpa [PyData.canLay0] using h)
  | .dict ds, h => by simp [PyData.canLay0] at h
theorem eqvAll_rfl : ∀ ds : List PyData, PyData.canLayAll0 ds = true → PyData.eqvAll ds ds = true
  | [], _ => by simp [PyData.eqvAll]
  | d :: ds, h => by
    unfold PyData.canLayAll0 at h
    rw [Bool.and_eq_true] at h
    unfold PyData.eqvAll
    rw [eqv_rfl d h.1, eqvAll_rfl ds h.2]
    rfl
end
theorem eqv_self {d : PyData} (h : SeqAt.shaped d = true) : PyData.eqv d d = true := eqv_rfl d (SeqAt.canLay_of_shaped h)


end Kx
namespace Kx
open PySem PySem.Spec PyProof.Rows L2 RB
/-! ### the law -/
def ofT : T → UT
  | .nil => .nil
  | .node p l k th r => .node p (ofT l) k th (ofT r) ((l.size + 1 + r.size : Nat) : Int)
theorem ofT_d : ∀ t : T, (ofT t).d = t.d
  | .nil => rfl
  | .node p l k th r => by
    show PyData.tuple [.bool p, (ofT l).d, .int k, th, (ofT r).d, .int _] = PyData.tuple [.bool p, l.d, .int k, th, r.d, .int _]
    rw [ofT_d l, ofT_d r]
theorem ofT_dep : ∀ t : T, (ofT t).dep = t.dep
  | .nil => rfl
  | .node p l k th r => by
    show max (ofT l).dep (ofT r).dep + 1 = max l.dep r.dep + 1
    rw [ofT_dep l, ofT_dep r]
theorem ofT_size : ∀ t : T, (ofT t).size = t.size
  | .nil => rfl
  | .node p l k th r => by
    show (ofT l).size + 1 + (ofT r).size = l.size + 1 + r.size
    rw [ofT_size l, ofT_size r]
section
variable {P : Program} {wd : World} {K : PySem.W.Frag} {mg : Str → Option Value} {base : Heap}
set_option maxHeartbeats 4000000 in
theorem ok_law (TX : Tx K mg) {f : Addr} {fd : FuncData} (F : Fun K "law" "law" s_law f fd) : FnOk P wd K mg base CX0 220 f fd ["_law_script"] (SpLaw K) := by
  refine law_of (k := 219) F sc_law fun X E C ns hl hbs => ?_
  have cc := (c_cell (P := P) (wd := wd) (base := base) TX).here E
  have crise := (c_rising (P := P) (wd := wd) (base := base) TX).here E
  have ctree := (c_tree (P := P) (wd := wd) (base := base) TX).here E
  have cchain := (c_chain (P := P) (wd := wd) (base := base) TX).here E
  have ckeys := (c_ukeys (P := P) (wd := wd) (base := base) TX 206).here E
  have cbent := (c_bent (P := P) (wd := wd) (base := base) TX 206).here E
  have cfaults := (c_faults (P := P) (wd := wd) (base := base) TX).here E
  have cdue := (c_due5 (P := P) (wd := wd) (base := base) TX).here E
  have mi := E.mg_eq TX.b_isinstance
  have ml := E.mg_eq TX.b_len
  have mL := E.mg_eq TX.b_list
  have hc : ∀ j, Builtin.Int.intBits (ns.getD j 0) ≤ 1048580 := fun j => Nat.le_trans (cell_bits hbs j) (by decide)
  have hin := tree_ino ns
  have hsz := tree_size ns
  have hmn := many_le ns
  generalize ht : treeOf ns = t at *
  refine jss_asg C 1 (w := .dat (ofT t).d) (je_call C.toFx ctree (ja_cons (je_v C.toFx 0) ja_nil) ⟨ns, rfl, hbs, by rw [ht, ofT_d], rfl⟩) ?_
  refine jss_ifS (fun ρ2 μ2 => ∃ (u : UT) (o2 : Option W), u.dep ≤ 200 ∧ u.size ≤ 1030 ∧ ρ2 = [some (.dat (.list (ns.map .int))), some (.dat u.d), o2, none, none, none, none, none, none, none] ∧ μ2 = [])
    (jt_eqi (je_mod (je_call C.toFx cc (ja_cons (je_v C.toFx 0) (ja_cons je_int ja_nil)) ⟨ns, 3, rfl, rfl, rfl⟩) je_int (by decide)) je_int) (fun _ => ?_) (fun _ => jss_nil ⟨_, _, rfl, ofT t, _, by rw [ofT_dep]; omega, by rw [ofT_size]; omega, rfl, rfl⟩) ?_
  · refine jss_asg C 2 (w := .dat (.list ((psOf (ns.getD 0 0) 400).map pd))) (JL.je (jl_call C.toFx crise (ja_cons (je_call C.toFx cc (ja_cons (je_v C.toFx 0) (ja_cons je_int ja_nil)) ⟨ns, 0, rfl, rfl, rfl⟩) (ja_cons je_int ja_nil)) ⟨ns.getD 0 0, 400, rfl, hc 0, by decide, (pd_list _ _).symm, rfl⟩)) ?_
    have c0 : 0 ≤ ns.getD 2 0 % 201 := Int.emod_nonneg _ (by decide)
    have c1 : ns.getD 2 0 % 201 < 201 := Int.emod_lt_of_pos _ (by decide)
    have hs := chainU_small (ns.getD 1 0) (psOf (ns.getD 0 0) 400) (ns.getD 2 0 % 201).toNat
    refine jss_asg C 1 (je_call C.toFx cchain (ja_cons (je_v C.toFx 2) (ja_cons (JE.cast (je_mod (je_call C.toFx cc (ja_cons (je_v C.toFx 0) (ja_cons je_int ja_nil)) ⟨ns, 2, rfl, rfl, rfl⟩) je_int (by decide)) (show wi _ = wi (((ns.getD 2 0 % 201).toNat : Nat) : Int) from congrArg wi (by omega))) (ja_cons (je_call C.toFx cc (ja_cons (je_v C.toFx 0) (ja_cons je_int ja_nil)) ⟨ns, 1, rfl, rfl, rfl⟩) ja_nil))) ⟨psOf (ns.getD 0 0) 400, (ns.getD 2 0 % 201).toNat, ns.getD 1 0, rfl, psOf_len _ _, by omega, rfl, rfl⟩) (jss_nil ⟨_, _, rfl, _, _, by omega, by omega, rfl, rfl⟩)
  clear hin hsz hmn ht
  rintro _ _ ⟨u, o2, hd, hu, rfl, rfl⟩
  have t0 : 0 ≤ ns.getD 3 0 / 8 % 4 := Int.emod_nonneg _ (by decide)
  have t1 : ns.getD 3 0 / 8 % 4 < 4 := Int.emod_lt_of_pos _ (by decide)
  refine jss_forR C 3 (E.mg_eq TX.b_range) (je_mod (je_fdiv (je_call C.toFx cc (ja_cons (je_v C.toFx 0) (ja_cons je_int ja_nil)) ⟨ns, 3, rfl, rfl, rfl⟩) je_int (div_small (by decide) (by decide))) je_int (by decide)) (by omega) (by omega)
    (fun m ρ' μ2 => ∃ (u : UT) (o3 o4 o5 o6 o7 : Option W), u.dep ≤ 200 ∧ u.size ≤ 1030 ∧ ρ' = [some (.dat (.list (ns.map .int))), some (.dat u.d), o2, o3, o4, o5, o6, o7, none, none] ∧ μ2 = []) ⟨u, _, _, _, _, _, hd, hu, rfl, rfl⟩ ?body ?behind
  case body =>
    clear hd hu u
    rintro m _ _ hm ⟨u, o3, o4, o5, o6, o7, hd, hu, rfl, rfl⟩
    have hm4 : m < 4 := by omega
    have kl := keysU_len u
    have ek : (((keysU u).map PyData.int).length : Int) = (u.size : Int) := by rw [List.length_map, kl]
    refine jss_asg C 4 (w := .dat (.list ((keysU u).map .int))) (JL.je (jl_call C.toFx ckeys (ja_cons (je_v C.toFx 1) ja_nil) ⟨u, rfl, by omega, by omega, rfl, rfl⟩)) ?_
    refine jss_asg C 5 (w := wi (ns.getD (4 + 3 * m) 0)) (je_call C.toFx cc (ja_cons (je_v C.toFx 0) (ja_cons (JE.cast (je_add je_int (je_mul je_int (je_v C.toFx 3) (mul_ok (n := 64) (m := 64) (bits_small (by decide) (by decide)) (bits_small (by omega) (by omega)) (by decide)))) (show wi _ = wi ((4 + 3 * m : Nat) : Int) from congrArg wi (by omega))) ja_nil)) ⟨ns, 4 + 3 * m, rfl, rfl, rfl⟩) ?_
    refine jss_asg C 6 (je_sub (je_mod (je_call C.toFx cc (ja_cons (je_v C.toFx 0) (ja_cons (JE.cast (je_add je_int (je_mul je_int (je_v C.toFx 3) (mul_ok (n := 64) (m := 64) (bits_small (by decide) (by decide)) (bits_small (by omega) (by omega)) (by decide)))) (show wi _ = wi ((5 + 3 * m : Nat) : Int) from congrArg wi (by omega))) ja_nil)) ⟨ns, 5 + 3 * m, rfl, rfl, rfl⟩) (je_sub (je_mul je_int (je_pow je_int je_int (pow10 (by decide))) (mul_ok (n := 64) (m := 300) (bits_small (by decide) (by decide)) (bits_lit (by decide +kernel)) (by decide))) je_int) (by decide +kernel)) (je_sub (je_pow je_int je_int (pow10 (by decide))) je_int)) ?_
    generalize ns.getD (5 + 3 * m) 0 % _ - _ = num
    generalize ns.getD (4 + 3 * m) 0 = cell
    refine jss_if0 (rest := []) (jt_l (je_v C.toFx 4)) (fun z => ?_) (fun _ => jss_nil ⟨u, _, _, _, _, _, hd, hu, rfl, rfl⟩)
    have hpos : 0 < u.size := by
      cases hk : keysU u with
      | nil => rw [hk] at z; exact absurd z (by decide)
      | cons a L => rw [hk, List.length_cons] at kl; omega
    refine jss_asg C 7 (w := wi (ns.getD (6 + 3 * m) 0)) (je_call C.toFx cc (ja_cons (je_v C.toFx 0) (ja_cons (JE.cast (je_add je_int (je_mul je_int (je_v C.toFx 3) (mul_ok (n := 64) (m := 64) (bits_small (by decide) (by decide)) (bits_small (by omega) (by omega)) (by decide)))) (show wi _ = wi ((6 + 3 * m : Nat) : Int) from congrArg wi (by omega))) ja_nil)) ⟨ns, 6 + 3 * m, rfl, rfl, rfl⟩) ?_
    generalize ns.getD (6 + 3 * m) 0 = way
    refine jss_ifS (fun ρ2 μ2 => ∃ num : Int, ρ2 = [some (.dat (.list (ns.map .int))), some (.dat u.d), o2, some (wi (m : Int)), some (.dat (.list ((keysU u).map .int))), some (wi cell), some (wi num), some (wi way), none, none] ∧ μ2 = [])
      (JW.t (jw_and (b2 := decide (0 < way / 5 % 4)) (jt_eqi (je_mod (je_v C.toFx 7) je_int (by decide)) je_int) fun _ => jw_and1 (jt_gt (je_mod (je_fdiv (je_v C.toFx 7) je_int (div_small (by decide) (by decide))) je_int (by decide)) je_int))) (fun _ => ?_) (fun _ => jss_nil ⟨_, _, rfl, num, rfl, rfl⟩) ?_
    · have m0 : 0 ≤ num % (u.size : Int) := Int.emod_nonneg _ (by omega)
      have m1 : num % (u.size : Int) < (u.size : Int) := Int.emod_lt_of_pos _ (by omega)
      exact jss_asg C 6 (je_sub (je_add (je_ixl (fun _ _ => rfl) (je_v C.toFx 4) (je_mod (je_v C.toFx 6) (JE.cast (je_len C.toFx ml (je_v C.toFx 4)) (congrArg wi ek)) (by omega)) (at_ints (l := keysU u) m0 (by omega))) (je_mod (je_fdiv (je_v C.toFx 7) je_int (div_small (by decide) (by decide))) je_int (by decide))) je_int) (jss_nil ⟨_, _, rfl, _, rfl, rfl⟩)
    clear num
    rintro _ _ ⟨num, rfl, rfl⟩
    have hb := bentU_small u (cell % (u.size : Int)) (way % 5) num
    exact jss_asg C 1 (je_callN (o := OD.l [.int (cell % (u.size : Int))]) (o2 := OD.l [.int (bentU u (cell % (u.size : Int)) (way % 5) num).2]) C.toFx cbent (jan_cons (je_v C.toFx 1) (jan_here (JL.jn (jl_lst (jd_cons (je_mod (je_v C.toFx 5) (JE.cast (je_len C.toFx ml (je_v C.toFx 4)) (congrArg wi ek)) (by omega)) jd_nil))) (fun l => ja_cons (je_mod (je_v C.toFx 7) je_int (by decide)) (ja_cons (je_v C.toFx 6) ja_nil)))) (fun l => ⟨u, l, 0, cell % (u.size : Int), way % 5, num, rfl, rfl, by omega, rfl, rfl⟩)) (jss_end (jss_nil ⟨_, _, _, _, _, _, by omega, by omega, rfl, rfl⟩))
  case behind =>
    clear hd hu u
    rintro _ _ ⟨u, o3, o4, o5, o6, o7, hd, hu, rfl, rfl⟩
    have hne : hts u 0 ≠ [] := fun e => by have := hts_len u 0; rw [e] at this; simp at this
    obtain ⟨b, hb⟩ : ∃ b : Bool, b = true ↔ okR (hts u 0) := by
      by_cases h : okR (hts u 0)
      · exact ⟨true, fun _ => h, fun _ => rfl⟩
      · exact ⟨false, fun z => absurd z Bool.false_ne_true, fun z => absurd z h⟩
    refine jss_asg C 8 (w := .dat (.list ((faultsL u.painted (u.kn.all okP) b (okO u.kn) (u.kn.all okC)).map .str))) (JL.je (jl_call C.toFx cfaults (ja_cons (je_v C.toFx 1) ja_nil) ⟨u, b, rfl, by omega, hb, rfl, rfl⟩)) ?_
    have hsh := faults_shaped u.painted (u.kn.all okP) b (okO u.kn) (u.kn.all okC)
    have hln := faultsL_len u.painted (u.kn.all okP) b (okO u.kn) (u.kn.all okC)
    have hR : R_due5 [.dat u.d] [] ((faultsL u.painted (u.kn.all okP) b (okO u.kn) (u.kn.all okC)).map .str) [] := ⟨u, b, rfl, by omega, by omega, hb, rfl, rfl⟩
    generalize faultsL u.painted (u.kn.all okP) b (okO u.kn) (u.kn.all okC) = L at *
    have hM : (L.map PyData.str).length ≤ 5 := by rw [List.length_map]; exact hln
    refine jss_if0 (b1 := false) (JT.cast (jw_or (b2 := false) (jt_not (jt_b (je_isList C.toFx mi mL (je_v C.toFx 8)))) fun _ => jw_or1 (JT.cast (jt_ned C.toFx (d := .list (List.replicate (L.map PyData.str).length (.bool true))) (d2 := .list (List.replicate (L.map PyData.str).length (.bool true))) (JE.cast (JL.je (jl_compL (ds := L.map PyData.str) C.toFx 9 (fun _ => true) (fun _ => .bool true) (je_v C.toFx 8) (by omega) (by decide +kernel) rfl (by decide +kernel) (fun Y n d CY sy hn => jts_nil) (fun Y n d CY sy hn hf => ?c1))) (by rw [gv_rep])) (JE.cast (JL.je (jl_rep (jl_lst (jd_cons je_bl jd_nil)) (fun l => je_len C.toFx ml (je_v C.toFx 8)) ⟨by omega, by omega⟩ (by show 1 * _ ≤ _; omega))) (by rw [Int.toNat_natCast, flat_rep])) (shaped_atoms _ (atoms_rep _)) (shaped_atoms _ (atoms_rep _))) (by rw [eqv_atoms _ (atoms_rep _)]; rfl))).t rfl) (fun h => absurd h Bool.false_ne_true) (fun _ => ?_)
    case c1 =>
      obtain ⟨z, _, rfl⟩ := List.mem_map.mp (List.mem_of_getElem? hn)
      exact je_isi (d := .str z) (T := "str") CY ((E.sub sy).mg_eq TX.b_isinstance) ((E.sub sy).mg_eq TX.b_str) (by decide +kernel) (je_v CY 9) (show kitB (tyName (PyData.str z)) "str" = some true from by show kitB "str" "str" = some true; decide +kernel)
    exact jss_ret (JE.cast (je_eqd C.toFx (je_v C.toFx 8) (JL.je (jl_call C.toFx cdue (ja_cons (je_v C.toFx 1) ja_nil) hR)) hsh hsh) (congrArg wb (eqv_self hsh))) ⟨_, rfl⟩
end


end Kx
namespace Kx
open PySem PySem.Spec PyProof.Rows L2 RB
set_option maxHeartbeats 4000000 in
theorem all_mk {l : PySem.W.OpenLaw} {w : World} {K : PySem.W.Frag} {h : Heap} {mg : Str → Option Value} {fa : Addr} (X : K.In h) (G : h.Ns mainGlobals mg) (hfa : mg "law" = some (.ref fa))
    {f0 : Addr} {od0 an0 : Option Addr} {sl0 : Array (Option Value)} {oc0 kV0 dc0 pm0 cd0 ct0 : Value} (a0 : PySem.W.nsIn K mainGlobals "size_of" = some (some (.ref f0))) (l0 : K.lookup f0 = some ⟨oc0, od0, .func (PySem.W.fnOf "size_of" "size_of" (defArgs s_size_of) (defBody s_size_of) (defScope s_size_of) .none kV0 dc0 pm0 an0 cd0 ct0), sl0⟩) (c0 : PySem.W.codeIn K cd0 "size_of" = true) (k0 : PySem.W.keepIn K (.ref f0) = true)
    {f1 : Addr} {od1 an1 : Option Addr} {sl1 : Array (Option Value)} {oc1 kV1 dc1 pm1 cd1 ct1 : Value} (a1 : PySem.W.nsIn K mainGlobals "is_painted" = some (some (.ref f1))) (l1 : K.lookup f1 = some ⟨oc1, od1, .func (PySem.W.fnOf "is_painted" "is_painted" (defArgs s_is_painted) (defBody s_is_painted) (defScope s_is_painted) .none kV1 dc1 pm1 an1 cd1 ct1), sl1⟩) (c1 : PySem.W.codeIn K cd1 "is_painted" = true) (k1 : PySem.W.keepIn K (.ref f1) = true)
    {f2 : Addr} {od2 an2 : Option Addr} {sl2 : Array (Option Value)} {oc2 kV2 dc2 pm2 cd2 ct2 : Value} (a2 : PySem.W.nsIn K mainGlobals "faults_of" = some (some (.ref f2))) (l2 : K.lookup f2 = some ⟨oc2, od2, .func (PySem.W.fnOf "faults_of" "faults_of" (defArgs s_faults_of) (defBody s_faults_of) (defScope s_faults_of) .none kV2 dc2 pm2 an2 cd2 ct2), sl2⟩) (c2 : PySem.W.codeIn K cd2 "faults_of" = true) (k2 : PySem.W.keepIn K (.ref f2) = true)
    {f3 : Addr} {od3 an3 : Option Addr} {sl3 : Array (Option Value)} {oc3 kV3 dc3 pm3 cd3 ct3 : Value} (a3 : PySem.W.nsIn K mainGlobals "_knots_of" = some (some (.ref f3))) (l3 : K.lookup f3 = some ⟨oc3, od3, .func (PySem.W.fnOf "_knots_of" "_knots_of" (defArgs s__knots_of) (defBody s__knots_of) (defScope s__knots_of) .none kV3 dc3 pm3 an3 cd3 ct3), sl3⟩) (c3 : PySem.W.codeIn K cd3 "_knots_of" = true) (k3 : PySem.W.keepIn K (.ref f3) = true)
    {f4 : Addr} {od4 an4 : Option Addr} {sl4 : Array (Option Value)} {oc4 kV4 dc4 pm4 cd4 ct4 : Value} (a4 : PySem.W.nsIn K mainGlobals "_paint_holds" = some (some (.ref f4))) (l4 : K.lookup f4 = some ⟨oc4, od4, .func (PySem.W.fnOf "_paint_holds" "_paint_holds" (defArgs s__paint_holds) (defBody s__paint_holds) (defScope s__paint_holds) .none kV4 dc4 pm4 an4 cd4 ct4), sl4⟩) (c4 : PySem.W.codeIn K cd4 "_paint_holds" = true) (k4 : PySem.W.keepIn K (.ref f4) = true)
    {f5 : Addr} {od5 an5 : Option Addr} {sl5 : Array (Option Value)} {oc5 kV5 dc5 pm5 cd5 ct5 : Value} (a5 : PySem.W.nsIn K mainGlobals "_roads_hold" = some (some (.ref f5))) (l5 : K.lookup f5 = some ⟨oc5, od5, .func (PySem.W.fnOf "_roads_hold" "_roads_hold" (defArgs s__roads_hold) (defBody s__roads_hold) (defScope s__roads_hold) .none kV5 dc5 pm5 an5 cd5 ct5), sl5⟩) (c5 : PySem.W.codeIn K cd5 "_roads_hold" = true) (k5 : PySem.W.keepIn K (.ref f5) = true)
    {f6 : Addr} {od6 an6 : Option Addr} {sl6 : Array (Option Value)} {oc6 kV6 dc6 pm6 cd6 ct6 : Value} (a6 : PySem.W.nsIn K mainGlobals "_heights_of" = some (some (.ref f6))) (l6 : K.lookup f6 = some ⟨oc6, od6, .func (PySem.W.fnOf "_heights_of" "_heights_of" (defArgs s__heights_of) (defBody s__heights_of) (defScope s__heights_of) .none kV6 dc6 pm6 an6 cd6 ct6), sl6⟩) (c6 : PySem.W.codeIn K cd6 "_heights_of" = true) (k6 : PySem.W.keepIn K (.ref f6) = true)
    {f7 : Addr} {od7 an7 : Option Addr} {sl7 : Array (Option Value)} {oc7 kV7 dc7 pm7 cd7 ct7 : Value} (a7 : PySem.W.nsIn K mainGlobals "_order_holds" = some (some (.ref f7))) (l7 : K.lookup f7 = some ⟨oc7, od7, .func (PySem.W.fnOf "_order_holds" "_order_holds" (defArgs s__order_holds) (defBody s__order_holds) (defScope s__order_holds) .none kV7 dc7 pm7 an7 cd7 ct7), sl7⟩) (c7 : PySem.W.codeIn K cd7 "_order_holds" = true) (k7 : PySem.W.keepIn K (.ref f7) = true)
    {f8 : Addr} {od8 an8 : Option Addr} {sl8 : Array (Option Value)} {oc8 kV8 dc8 pm8 cd8 ct8 : Value} (a8 : PySem.W.nsIn K mainGlobals "_counts_hold" = some (some (.ref f8))) (l8 : K.lookup f8 = some ⟨oc8, od8, .func (PySem.W.fnOf "_counts_hold" "_counts_hold" (defArgs s__counts_hold) (defBody s__counts_hold) (defScope s__counts_hold) .none kV8 dc8 pm8 an8 cd8 ct8), sl8⟩) (c8 : PySem.W.codeIn K cd8 "_counts_hold" = true) (k8 : PySem.W.keepIn K (.ref f8) = true)
    {f9 : Addr} {od9 an9 : Option Addr} {sl9 : Array (Option Value)} {oc9 kV9 dc9 pm9 cd9 ct9 : Value} (a9 : PySem.W.nsIn K mainGlobals "_law_cell_at" = some (some (.ref f9))) (l9 : K.lookup f9 = some ⟨oc9, od9, .func (PySem.W.fnOf "_law_cell_at" "_law_cell_at" (defArgs s__law_cell_at) (defBody s__law_cell_at) (defScope s__law_cell_at) .none kV9 dc9 pm9 an9 cd9 ct9), sl9⟩) (c9 : PySem.W.codeIn K cd9 "_law_cell_at" = true) (k9 : PySem.W.keepIn K (.ref f9) = true)
    {f10 : Addr} {od10 an10 : Option Addr} {sl10 : Array (Option Value)} {oc10 kV10 dc10 pm10 cd10 ct10 : Value} (a10 : PySem.W.nsIn K mainGlobals "_law_text" = some (some (.ref f10))) (l10 : K.lookup f10 = some ⟨oc10, od10, .func (PySem.W.fnOf "_law_text" "_law_text" (defArgs s__law_text) (defBody s__law_text) (defScope s__law_text) .none kV10 dc10 pm10 an10 cd10 ct10), sl10⟩) (c10 : PySem.W.codeIn K cd10 "_law_text" = true) (k10 : PySem.W.keepIn K (.ref f10) = true)
    {f11 : Addr} {od11 an11 : Option Addr} {sl11 : Array (Option Value)} {oc11 kV11 dc11 pm11 cd11 ct11 : Value} (a11 : PySem.W.nsIn K mainGlobals "_law_thing" = some (some (.ref f11))) (l11 : K.lookup f11 = some ⟨oc11, od11, .func (PySem.W.fnOf "_law_thing" "_law_thing" (defArgs s__law_thing) (defBody s__law_thing) (defScope s__law_thing) .none kV11 dc11 pm11 an11 cd11 ct11), sl11⟩) (c11 : PySem.W.codeIn K cd11 "_law_thing" = true) (k11 : PySem.W.keepIn K (.ref f11) = true)
    {f12 : Addr} {od12 an12 : Option Addr} {sl12 : Array (Option Value)} {oc12 kV12 dc12 pm12 cd12 ct12 : Value} (a12 : PySem.W.nsIn K mainGlobals "_law_rising" = some (some (.ref f12))) (l12 : K.lookup f12 = some ⟨oc12, od12, .func (PySem.W.fnOf "_law_rising" "_law_rising" (defArgs s__law_rising) (defBody s__law_rising) (defScope s__law_rising) .none kV12 dc12 pm12 an12 cd12 ct12), sl12⟩) (c12 : PySem.W.codeIn K cd12 "_law_rising" = true) (k12 : PySem.W.keepIn K (.ref f12) = true)
    {f13 : Addr} {od13 an13 : Option Addr} {sl13 : Array (Option Value)} {oc13 kV13 dc13 pm13 cd13 ct13 : Value} (a13 : PySem.W.nsIn K mainGlobals "_law_bits" = some (some (.ref f13))) (l13 : K.lookup f13 = some ⟨oc13, od13, .func (PySem.W.fnOf "_law_bits" "_law_bits" (defArgs s__law_bits) (defBody s__law_bits) (defScope s__law_bits) .none kV13 dc13 pm13 an13 cd13 ct13), sl13⟩) (c13 : PySem.W.codeIn K cd13 "_law_bits" = true) (k13 : PySem.W.keepIn K (.ref f13) = true)
    {f14 : Addr} {od14 an14 : Option Addr} {sl14 : Array (Option Value)} {oc14 kV14 dc14 pm14 cd14 ct14 : Value} (a14 : PySem.W.nsIn K mainGlobals "_law_grown" = some (some (.ref f14))) (l14 : K.lookup f14 = some ⟨oc14, od14, .func (PySem.W.fnOf "_law_grown" "_law_grown" (defArgs s__law_grown) (defBody s__law_grown) (defScope s__law_grown) .none kV14 dc14 pm14 an14 cd14 ct14), sl14⟩) (c14 : PySem.W.codeIn K cd14 "_law_grown" = true) (k14 : PySem.W.keepIn K (.ref f14) = true)
    {f15 : Addr} {od15 an15 : Option Addr} {sl15 : Array (Option Value)} {oc15 kV15 dc15 pm15 cd15 ct15 : Value} (a15 : PySem.W.nsIn K mainGlobals "_law_tree" = some (some (.ref f15))) (l15 : K.lookup f15 = some ⟨oc15, od15, .func (PySem.W.fnOf "_law_tree" "_law_tree" (defArgs s__law_tree) (defBody s__law_tree) (defScope s__law_tree) .none kV15 dc15 pm15 an15 cd15 ct15), sl15⟩) (c15 : PySem.W.codeIn K cd15 "_law_tree" = true) (k15 : PySem.W.keepIn K (.ref f15) = true)
    {f16 : Addr} {od16 an16 : Option Addr} {sl16 : Array (Option Value)} {oc16 kV16 dc16 pm16 cd16 ct16 : Value} (a16 : PySem.W.nsIn K mainGlobals "_law_keys" = some (some (.ref f16))) (l16 : K.lookup f16 = some ⟨oc16, od16, .func (PySem.W.fnOf "_law_keys" "_law_keys" (defArgs s__law_keys) (defBody s__law_keys) (defScope s__law_keys) .none kV16 dc16 pm16 an16 cd16 ct16), sl16⟩) (c16 : PySem.W.codeIn K cd16 "_law_keys" = true) (k16 : PySem.W.keepIn K (.ref f16) = true)
    {f17 : Addr} {od17 an17 : Option Addr} {sl17 : Array (Option Value)} {oc17 kV17 dc17 pm17 cd17 ct17 : Value} (a17 : PySem.W.nsIn K mainGlobals "_law_bent" = some (some (.ref f17))) (l17 : K.lookup f17 = some ⟨oc17, od17, .func (PySem.W.fnOf "_law_bent" "_law_bent" (defArgs s__law_bent) (defBody s__law_bent) (defScope s__law_bent) .none kV17 dc17 pm17 an17 cd17 ct17), sl17⟩) (c17 : PySem.W.codeIn K cd17 "_law_bent" = true) (k17 : PySem.W.keepIn K (.ref f17) = true)
    {f18 : Addr} {od18 an18 : Option Addr} {sl18 : Array (Option Value)} {oc18 kV18 dc18 pm18 cd18 ct18 : Value} (a18 : PySem.W.nsIn K mainGlobals "_law_chain" = some (some (.ref f18))) (l18 : K.lookup f18 = some ⟨oc18, od18, .func (PySem.W.fnOf "_law_chain" "_law_chain" (defArgs s__law_chain) (defBody s__law_chain) (defScope s__law_chain) .none kV18 dc18 pm18 an18 cd18 ct18), sl18⟩) (c18 : PySem.W.codeIn K cd18 "_law_chain" = true) (k18 : PySem.W.keepIn K (.ref f18) = true)
    {f19 : Addr} {od19 an19 : Option Addr} {sl19 : Array (Option Value)} {oc19 kV19 dc19 pm19 cd19 ct19 : Value} (a19 : PySem.W.nsIn K mainGlobals "_law_looked" = some (some (.ref f19))) (l19 : K.lookup f19 = some ⟨oc19, od19, .func (PySem.W.fnOf "_law_looked" "_law_looked" (defArgs s__law_looked) (defBody s__law_looked) (defScope s__law_looked) .none kV19 dc19 pm19 an19 cd19 ct19), sl19⟩) (c19 : PySem.W.codeIn K cd19 "_law_looked" = true) (k19 : PySem.W.keepIn K (.ref f19) = true)
    {f20 : Addr} {od20 an20 : Option Addr} {sl20 : Array (Option Value)} {oc20 kV20 dc20 pm20 cd20 ct20 : Value} (a20 : PySem.W.nsIn K mainGlobals "_law_due" = some (some (.ref f20))) (l20 : K.lookup f20 = some ⟨oc20, od20, .func (PySem.W.fnOf "_law_due" "_law_due" (defArgs s__law_due) (defBody s__law_due) (defScope s__law_due) .none kV20 dc20 pm20 an20 cd20 ct20), sl20⟩) (c20 : PySem.W.codeIn K cd20 "_law_due" = true) (k20 : PySem.W.keepIn K (.ref f20) = true)
    {f21 : Addr} {od21 an21 : Option Addr} {sl21 : Array (Option Value)} {oc21 kV21 dc21 pm21 cd21 ct21 : Value} (a21 : PySem.W.nsIn K mainGlobals "law" = some (some (.ref f21))) (l21 : K.lookup f21 = some ⟨oc21, od21, .func (PySem.W.fnOf "law" "law" (defArgs s_law) (defBody s_law) (defScope s_law) .none kV21 dc21 pm21 an21 cd21 ct21), sl21⟩) (c21 : PySem.W.codeIn K cd21 "law" = true) (k21 : PySem.W.keepIn K (.ref f21) = true)
    {t0 : Tok} (kg0 : PySem.W.nsIn K mainGlobals "PAINT" = some (some (.int 0 t0)))
    {t1 : Tok} (kg1 : PySem.W.nsIn K mainGlobals "LEFT" = some (some (.int 1 t1)))
    {t2 : Tok} (kg2 : PySem.W.nsIn K mainGlobals "KEY" = some (some (.int 2 t2)))
    {t3 : Tok} (kg3 : PySem.W.nsIn K mainGlobals "RIGHT" = some (some (.int 4 t3)))
    {t4 : Tok} (kg4 : PySem.W.nsIn K mainGlobals "COUNT" = some (some (.int 5 t4)))
    (z0 : PySem.W.nsIn K mainGlobals "int" = some none)
    (z1 : PySem.W.nsIn K mainGlobals "isinstance" = some none)
    (z2 : PySem.W.nsIn K mainGlobals "len" = some none)
    (z3 : PySem.W.nsIn K mainGlobals "list" = some none)
    (z4 : PySem.W.nsIn K mainGlobals "max" = some none)
    (z5 : PySem.W.nsIn K mainGlobals "min" = some none)
    (z6 : PySem.W.nsIn K mainGlobals "range" = some none)
    (z7 : PySem.W.nsIn K mainGlobals "str" = some none)
    (z8 : PySem.W.nsIn K mainGlobals "tuple" = some none)
    : ∃ fd : FuncData, (∀ (s : Shared) (v : Value), BindsTo s fd ⟨[v], []⟩ [("_law_script", v)]) ∧ ∀ base : Heap, K.In base → base.Ns mainGlobals mg → FnOk l.prog w K mg base CX0 220 fa fd ["_law_script"] (SpLaw K) := by
  have e := hfa.symm.trans (PySem.W.mg_of X G a21)
  cases e
  have F0 := fun_mk (st := s_size_of) l0 c0 k0
  have b0 := F0.binds (ps := p_size_of) fun _ _ _ _ _ _ us hl => match us, hl with | [_], _ => rfl
  have F1 := fun_mk (st := s_is_painted) l1 c1 k1
  have b1 := F1.binds (ps := p_is_painted) fun _ _ _ _ _ _ us hl => match us, hl with | [_], _ => rfl
  have F2 := fun_mk (st := s_faults_of) l2 c2 k2
  have b2 := F2.binds (ps := p_faults_of) fun _ _ _ _ _ _ us hl => match us, hl with | [_], _ => rfl
  have F3 := fun_mk (st := s__knots_of) l3 c3 k3
  have b3 := F3.binds (ps := p__knots_of) fun _ _ _ _ _ _ us hl => match us, hl with | [_], _ => rfl
  have F4 := fun_mk (st := s__paint_holds) l4 c4 k4
  have b4 := F4.binds (ps := p__paint_holds) fun _ _ _ _ _ _ us hl => match us, hl with | [_], _ => rfl
  have F5 := fun_mk (st := s__roads_hold) l5 c5 k5
  have b5 := F5.binds (ps := p__roads_hold) fun _ _ _ _ _ _ us hl => match us, hl with | [_], _ => rfl
  have F6 := fun_mk (st := s__heights_of) l6 c6 k6
  have b6 := F6.binds (ps := p__heights_of) fun _ _ _ _ _ _ us hl => match us, hl with | [_], _ => rfl
  have F7 := fun_mk (st := s__order_holds) l7 c7 k7
  have b7 := F7.binds (ps := p__order_holds) fun _ _ _ _ _ _ us hl => match us, hl with | [_], _ => rfl
  have F8 := fun_mk (st := s__counts_hold) l8 c8 k8
  have b8 := F8.binds (ps := p__counts_hold) fun _ _ _ _ _ _ us hl => match us, hl with | [_], _ => rfl
  have F9 := fun_mk (st := s__law_cell_at) l9 c9 k9
  have b9 := F9.binds (ps := p__law_cell_at) fun _ _ _ _ _ _ us hl => match us, hl with | [_, _], _ => rfl
  have F10 := fun_mk (st := s__law_text) l10 c10 k10
  have b10 := F10.binds (ps := p__law_text) fun _ _ _ _ _ _ us hl => match us, hl with | [_, _], _ => rfl
  have F11 := fun_mk (st := s__law_thing) l11 c11 k11
  have b11 := F11.binds (ps := p__law_thing) fun _ _ _ _ _ _ us hl => match us, hl with | [_], _ => rfl
  have F12 := fun_mk (st := s__law_rising) l12 c12 k12
  have b12 := F12.binds (ps := p__law_rising) fun _ _ _ _ _ _ us hl => match us, hl with | [_, _], _ => rfl
  have F13 := fun_mk (st := s__law_bits) l13 c13 k13
  have b13 := F13.binds (ps := p__law_bits) fun _ _ _ _ _ _ us hl => match us, hl with | [_, _], _ => rfl
  have F14 := fun_mk (st := s__law_grown) l14 c14 k14
  have b14 := F14.binds (ps := p__law_grown) fun _ _ _ _ _ _ us hl => match us, hl with | [_, _, _, _], _ => rfl
  have F15 := fun_mk (st := s__law_tree) l15 c15 k15
  have b15 := F15.binds (ps := p__law_tree) fun _ _ _ _ _ _ us hl => match us, hl with | [_], _ => rfl
  have F16 := fun_mk (st := s__law_keys) l16 c16 k16
  have b16 := F16.binds (ps := p__law_keys) fun _ _ _ _ _ _ us hl => match us, hl with | [_], _ => rfl
  have F17 := fun_mk (st := s__law_bent) l17 c17 k17
  have b17 := F17.binds (ps := p__law_bent) fun _ _ _ _ _ _ us hl => match us, hl with | [_, _, _, _], _ => rfl
  have F18 := fun_mk (st := s__law_chain) l18 c18 k18
  have b18 := F18.binds (ps := p__law_chain) fun _ _ _ _ _ _ us hl => match us, hl with | [_, _, _], _ => rfl
  have F19 := fun_mk (st := s__law_looked) l19 c19 k19
  have b19 := F19.binds (ps := p__law_looked) fun _ _ _ _ _ _ us hl => match us, hl with | [_, _, _, _], _ => rfl
  have F20 := fun_mk (st := s__law_due) l20 c20 k20
  have b20 := F20.binds (ps := p__law_due) fun _ _ _ _ _ _ us hl => match us, hl with | [_], _ => rfl
  have F21 := fun_mk (st := s_law) l21 c21 k21
  have b21 := F21.binds (ps := p_law) fun _ _ _ _ _ _ us hl => match us, hl with | [_], _ => rfl
  have T : Tx K mg := ⟨⟨_, _, F0, PySem.W.mg_of X G a0, b0⟩, ⟨_, _, F1, PySem.W.mg_of X G a1, b1⟩, ⟨_, _, F2, PySem.W.mg_of X G a2, b2⟩, ⟨_, _, F3, PySem.W.mg_of X G a3, b3⟩, ⟨_, _, F4, PySem.W.mg_of X G a4, b4⟩, ⟨_, _, F5, PySem.W.mg_of X G a5, b5⟩, ⟨_, _, F6, PySem.W.mg_of X G a6, b6⟩, ⟨_, _, F7, PySem.W.mg_of X G a7, b7⟩, ⟨_, _, F8, PySem.W.mg_of X G a8, b8⟩, ⟨_, _, F9, PySem.W.mg_of X G a9, b9⟩, ⟨_, _, F10, PySem.W.mg_of X G a10, b10⟩, ⟨_, _, F11, PySem.W.mg_of X G a11, b11⟩, ⟨_, _, F12, PySem.W.mg_of X G a12, b12⟩, ⟨_, _, F13, PySem.W.mg_of X G a13, b13⟩, ⟨_, _, F14, PySem.W.mg_of X G a14, b14⟩, ⟨_, _, F15, PySem.W.mg_of X G a15, b15⟩, ⟨_, _, F16, PySem.W.mg_of X G a16, b16⟩, ⟨_, _, F17, PySem.W.mg_of X G a17, b17⟩, ⟨_, _, F18, PySem.W.mg_of X G a18, b18⟩, ⟨_, _, F19, PySem.W.mg_of X G a19, b19⟩, ⟨_, _, F20, PySem.W.mg_of X G a20, b20⟩, ⟨_, PySem.W.mg_of X G kg0⟩, ⟨_, PySem.W.mg_of X G kg1⟩, ⟨_, PySem.W.mg_of X G kg2⟩, ⟨_, PySem.W.mg_of X G kg3⟩, ⟨_, PySem.W.mg_of X G kg4⟩, PySem.W.mg_none_of X G z0, PySem.W.mg_none_of X G z1, PySem.W.mg_none_of X G z2, PySem.W.mg_none_of X G z3, PySem.W.mg_none_of X G z4, PySem.W.mg_none_of X G z5, PySem.W.mg_none_of X G z6, PySem.W.mg_none_of X G z7, PySem.W.mg_none_of X G z8⟩
  exact ⟨PySem.W.fnOf "law" "law" (defArgs s_law) (defBody s_law) (defScope s_law) .none kV21 dc21 pm21 an21 cd21 ct21, fun s v => .of_eq rfl, fun base _ _ => ok_law T F21⟩

end Kx
open PySem PySem.W PyProof.Rows
set_option maxRecDepth 100000 in
set_option maxHeartbeats 0 in
theorem PySem.Challenge.cw_redpaint_k05_faults_holds : PySem.Challenge.rw_redpaint_k05_faults.Holds := by
  w_on; o_law; k_head; (case hw => w_witness2)
  k_fill
  refine L2.walk_ofB (l := PySem.Challenge.rw_redpaint_k05_faults) (n := 63) (k := 220) (x := "_law_script") (CX := fun _ => L2.CX0) (sp := fun w => Kx.SpLaw _) rfl (by decide) rfl ⟨rfl, by decide, by decide⟩ (fun w h Y => PySem.W.kIn_of Y) ?F (fun _ _ a ns hl hb _ hS => ⟨a, ns, rfl, hS, hl, hb, fun _ => rfl⟩) (fun _ _ _ _ _ h => h)
  case F =>
    intro w mg fa h KX G hmg
    refine' Kx.all_mk KX G hmg ?a0 ?l0 ?c0 ?k0 ?a1 ?l1 ?c1 ?k1 ?a2 ?l2 ?c2 ?k2 ?a3 ?l3 ?c3 ?k3 ?a4 ?l4 ?c4 ?k4 ?a5 ?l5 ?c5 ?k5 ?a6 ?l6 ?c6 ?k6 ?a7 ?l7 ?c7 ?k7 ?a8 ?l8 ?c8 ?k8 ?a9 ?l9 ?c9 ?k9 ?a10 ?l10 ?c10 ?k10 ?a11 ?l11 ?c11 ?k11 ?a12 ?l12 ?c12 ?k12 ?a13 ?l13 ?c13 ?k13 ?a14 ?l14 ?c14 ?k14 ?a15 ?l15 ?c15 ?k15 ?a16 ?l16 ?c16 ?k16 ?a17 ?l17 ?c17 ?k17 ?a18 ?l18 ?c18 ?k18 ?a19 ?l19 ?c19 ?k19 ?a20 ?l20 ?c20 ?k20 ?a21 ?l21 ?c21 ?k21 ?kg0 ?kg1 ?kg2 ?kg3 ?kg4 ?z0 ?z1 ?z2 ?z3 ?z4 ?z5 ?z6 ?z7 ?z8
    (case a0 => k_is)
    (case l0 => k_is)
    (case c0 => k_is)
    (case k0 => k_is)
    (case a1 => k_is)
    (case l1 => k_is)
    (case c1 => k_is)
    (case k1 => k_is)
    (case a2 => k_is)
    (case l2 => k_is)
    (case c2 => k_is)
    (case k2 => k_is)
    (case a3 => k_is)
    (case l3 => k_is)
    (case c3 => k_is)
    (case k3 => k_is)
    (case a4 => k_is)
    (case l4 => k_is)
    (case c4 => k_is)
    (case k4 => k_is)
    (case a5 => k_is)
    (case l5 => k_is)
    (case c5 => k_is)
    (case k5 => k_is)
    (case a6 => k_is)
    (case l6 => k_is)
    (case c6 => k_is)
    (case k6 => k_is)
    (case a7 => k_is)
    (case l7 => k_is)
    (case c7 => k_is)
    (case k7 => k_is)
    (case a8 => k_is)
    (case l8 => k_is)
    (case c8 => k_is)
    (case k8 => k_is)
    (case a9 => k_is)
    (case l9 => k_is)
    (case c9 => k_is)
    (case k9 => k_is)
    (case a10 => k_is)
    (case l10 => k_is)
    (case c10 => k_is)
    (case k10 => k_is)
    (case a11 => k_is)
    (case l11 => k_is)
    (case c11 => k_is)
    (case k11 => k_is)
    (case a12 => k_is)
    (case l12 => k_is)
    (case c12 => k_is)
    (case k12 => k_is)
    (case a13 => k_is)
    (case l13 => k_is)
    (case c13 => k_is)
    (case k13 => k_is)
    (case a14 => k_is)
    (case l14 => k_is)
    (case c14 => k_is)
    (case k14 => k_is)
    (case a15 => k_is)
    (case l15 => k_is)
    (case c15 => k_is)
    (case k15 => k_is)
    (case a16 => k_is)
    (case l16 => k_is)
    (case c16 => k_is)
    (case k16 => k_is)
    (case a17 => k_is)
    (case l17 => k_is)
    (case c17 => k_is)
    (case k17 => k_is)
    (case a18 => k_is)
    (case l18 => k_is)
    (case c18 => k_is)
    (case k18 => k_is)
    (case a19 => k_is)
    (case l19 => k_is)
    (case c19 => k_is)
    (case k19 => k_is)
    (case a20 => k_is)
    (case l20 => k_is)
    (case c20 => k_is)
    (case k20 => k_is)
    (case a21 => k_is)
    (case l21 => k_is)
    (case c21 => k_is)
    (case k21 => k_is)
    (case kg0 => k_is)
    (case kg1 => k_is)
    (case kg2 => k_is)
    (case kg3 => k_is)
    (case kg4 => k_is)
    (case z0 => k_is)
    (case z1 => k_is)
    (case z2 => k_is)
    (case z3 => k_is)
    (case z4 => k_is)
    (case z5 => k_is)
    (case z6 => k_is)
    (case z7 => k_is)
    (case z8 => k_is)
