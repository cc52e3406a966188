import PyProof.Rows.All
import Wide.All
import OpenK.AllK
import Wide.FinOn
import PyProof.EqAt
import PyProof.EqKinds
import PyProof.TupleCall
import Open.SpecLaws
import KE.OsGo
import HandS.ForSpec
import HandS.ForMost
import HandS.Walk
import HandS.Zip
import HandS.Lambda
import HandS.Nested
import KE.SortKeyHeap
import HandS.SortKw
import HandS.Exc
import KE.KMinKey
import HandS.EndTab
import KE.HD4
import HandS.HeadWalk
import HandS.HeadHook4
import HandS.Conv
import KE.SortData
import HandS.Deep
import KE.KEqDeep
import PySem.Challenge.RW_nearpoints_s01_answers
set_option Elab.async false
set_option linter.all false
set_option maxHeartbeats 4000000
section
set_option maxRecDepth 100000
set_option maxHeartbeats 2000000
/-! What a def keeps of the heap; comprehensions that keep it. -/
namespace Np
open PySem PySem.Spec PyProof.Rows L2
/-- a relation of what is kept, from one heap to a later one -/
structure Keep (R : Hp → Hp → Prop) : Prop where
  refl : ∀ H, R H H
  trans : ∀ {H H1 H2}, R H H1 → R H1 H2 → R H H2
  lst : ∀ {H H' : Hp} {b : Addr} {xs : List V}, R H H' → H b = some (.lst xs) → H' b = some (.lst xs)
  tup : ∀ {H H' : Hp} {b : Addr} {xs : List V}, R H H' → H b = some (.tup xs) → H' b = some (.tup xs)
  sq : ∀ {K : PySem.W.Frag} {H H' : Hp} {a : Addr} {xs : List V}, R H H' → SqL K H a xs → SqL K H' a xs
  new : ∀ {H : Hp} {p : Addr} {o : HO}, H p = none → R H (upd H p o)
  free : ∀ {H H' : Hp} {p : Addr}, R H H' → H' p = none → H p = none
  put : ∀ {H H' : Hp} {p : Addr} {o : HO}, R H H' → H p = none → (H' p = none ∨ ∃ xs, H' p = some (.lst xs)) → R H (upd H' p o)
theorem keep_same : Keep Same where
  refl := Same.refl
  trans := Same.trans
  lst := fun r h => r _ _ h
  tup := fun r h => r _ _ h
  sq := fun r h => r.seq h
  new := fun h b o e => by rw [upd_ne (ne_of_none e h)]; exact e
  free := fun r h => r.free h
  put := fun r h _ b o e => by rw [upd_ne (ne_of_none e h)]; exact r b o e

/-- lists but that at D are kept -/
def LK (D : Addr) (H H' : Hp) : Prop := ∀ b xs, b ≠ D → H b = some (.lst xs) → H' b = some (.lst xs)
theorem LK.upd {D : Addr} {H : Hp} {o : HO} : LK D H (upd H D o) := fun b xs hb e => by rw [upd_ne hb]; exact e
theorem Keep.lk {R : Hp → Hp → Prop} (kp : Keep R) {D : Addr} {H H' : Hp} (r : R H H') : LK D H H' := fun b xs _ e => kp.lst r e
theorem get_snoc {α : Type} {us : List α} {v w : α} {j n : Nat} (hn : us.length = n) (h : (us ++ [v])[j]? = some w) : us[j]? = some w ∨ (j = n ∧ w = v) := by
  rcases Nat.lt_trichotomy j us.length with g | g | g
  · rw [List.getElem?_append_left g] at h; exact .inl h
  · rw [List.getElem?_append_right (by omega)] at h
    have : j - us.length = 0 := by omega
    rw [this] at h
    exact .inr ⟨by omega, (Option.some.inj h).symm⟩
  · rw [List.getElem?_append_right (by omega)] at h
    have : ([v] : List α)[j - us.length]? = none := by rw [List.getElem?_eq_none_iff]; simp; omega
    rw [this] at h; cases h

/-- a list comprehension without a test: each turn keeps the heap and gives a value of which T tells -/
theorem lc_all {R : Hp → Hp → Prop} (kp : Keep R) {J : It} {n : Nat} {G : Hp → Prop} {Y : Nat → Hp → V → Hp → Prop} (w : Walk J n G Y) {g : TG} {te : TE} {vs : List Nat} {σ : L2.St} {H : Hp} {Qd : Addr → Hp → Prop}
    (T : Addr → Nat → V → Hp → Prop) (mono : ∀ D i v H H', LK D H H' → T D i v H → T D i v H') (hG : ∀ H', R H H' → G H') (hn : n < sizeLine)
    (hs : ∀ D i x H0 H' (Qf : VK), i < n → R H H0 → (∃ us, H0 D = some (.lst us)) → Y i H0 x H' → (∀ v H4, R H0 H4 → T D i v H4 → Qf v H4) →
      g x (wipe σ vs) H' fun σ2 H2 => wipe σ2 vs = wipe σ vs ∧ te σ2 H2 Qf)
    (hd : ∀ D us H', R H H' → H D = none → H' D = some (.lst us) → us.length = n → (∀ i v, us[i]? = some v → T D i v H') → Qd D H') :
    ∀ D, H D = none → ∃ W : Nat → Nat → Hp → Prop, (∃ m, W 0 m (upd H D (.lst []))) ∧ ∀ i m H, W i m H →
      (J.stop i H ∧ Qd D H) ∨ (J.go i H ∧ ∃ Nx : Hp → Prop, (∀ H', Nx H' → ∃ m', m' < m ∧ W (i + 1) m' H') ∧ ∀ x H', J.yld i H x H' → g x (wipe σ vs) H' fun σ2 H2 => wipe σ2 vs = wipe σ vs ∧ tYes σ2 H2 fun b H3 =>
        if b = true then te σ2 H3 fun y H4 => ∃ acc, H4 D = some (.lst acc) ∧ acc.length < sizeLine ∧ Nx (upd H4 D (.lst (acc ++ [y]))) else Nx H3) := by
  intro D hD
  refine lc_it w (Qd := fun H => Qd D H) (tt := tYes) (fun i H' => R H H' ∧ ∃ us, H' D = some (.lst us) ∧ us.length = i ∧ ∀ j v, us[j]? = some v → T D j v H')
    ⟨kp.new hD, [], upd_same, rfl, fun j v e => by simp at e⟩ (fun i H' _ ⟨r, _⟩ => hG H' r) ?_ ?_
  · rintro i x H0 H' hi ⟨r, us, e1, e2, e3⟩ y
    have q : ∀ v H4, R H0 H4 → T D i v H4 → ∃ acc, H4 D = some (.lst acc) ∧ acc.length < sizeLine ∧ (R H (upd H4 D (.lst (acc ++ [v]))) ∧ ∃ us, upd H4 D (.lst (acc ++ [v])) D = some (.lst us) ∧ us.length = i + 1 ∧ ∀ j v', us[j]? = some v' → T D j v' (upd H4 D (.lst (acc ++ [v])))) := by
      intro v H4 r4 t4
      refine ⟨us, kp.lst r4 e1, by omega, kp.put (kp.trans r r4) hD (.inr ⟨_, kp.lst r4 e1⟩), us ++ [v], upd_same, by simp [e2], ?_⟩
      intro j v' hj
      rcases get_snoc e2 hj with g | ⟨g1, g2⟩
      · exact mono _ _ _ _ _ LK.upd (mono _ _ _ _ _ (kp.lk r4) (e3 j v' g))
      · rw [g1, g2]; exact mono _ _ _ _ _ LK.upd t4
    exact hs D i x H0 H' _ hi r ⟨us, e1⟩ y q
  · rintro H' ⟨r, us, e1, e2, e3⟩
    exact hd D us H' r hD e1 e2 e3

/-- .. of whole numbers -/
theorem lc_ints {R : Hp → Hp → Prop} (kp : Keep R) {J : It} {n : Nat} {G : Hp → Prop} {Y : Nat → Hp → V → Hp → Prop} (w : Walk J n G Y) {g : TG} {te : TE} {vs : List Nat} {σ : L2.St} {H : Hp} {Qd : Addr → Hp → Prop}
    (zs : List Int) (hz : zs.length = n) (hG : ∀ H', R H H' → G H') (hn : n < sizeLine)
    (hs : ∀ i x z H0 H' (Qf : VK), zs[i]? = some z → R H H0 → Y i H0 x H' → (∀ H4, R H0 H4 → Qf (.int z) H4) →
      g x (wipe σ vs) H' fun σ2 H2 => wipe σ2 vs = wipe σ vs ∧ te σ2 H2 Qf)
    (hd : ∀ D H', R H H' → H D = none → H' D = some (.lst (zs.map V.int)) → Qd D H') :
    ∀ D, H D = none → ∃ W : Nat → Nat → Hp → Prop, (∃ m, W 0 m (upd H D (.lst []))) ∧ ∀ i m H, W i m H →
      (J.stop i H ∧ Qd D H) ∨ (J.go i H ∧ ∃ Nx : Hp → Prop, (∀ H', Nx H' → ∃ m', m' < m ∧ W (i + 1) m' H') ∧ ∀ x H', J.yld i H x H' → g x (wipe σ vs) H' fun σ2 H2 => wipe σ2 vs = wipe σ vs ∧ tYes σ2 H2 fun b H3 =>
        if b = true then te σ2 H3 fun y H4 => ∃ acc, H4 D = some (.lst acc) ∧ acc.length < sizeLine ∧ Nx (upd H4 D (.lst (acc ++ [y]))) else Nx H3) := by
  refine lc_all kp w (fun _ i v _ => ∃ z, zs[i]? = some z ∧ v = .int z) (fun _ _ _ _ _ _ h => h) hG hn ?_ ?_
  · intro D i x H0 H' Qf hi r _ y q
    have hi' : i < zs.length := by omega
    refine hs i x zs[i] H0 H' Qf (by simp [hi']) r y (fun H4 r4 => q _ _ r4 ⟨zs[i], by simp [hi'], rfl⟩)
  · intro D us H' r hD e1 e2 e3
    refine hd D H' r hD ?_
    rw [e1]
    congr 2
    apply List.ext_getElem?
    intro i
    rw [List.getElem?_map]
    cases e : us[i]? with
    | none =>
      have : zs[i]? = none := by rw [List.getElem?_eq_none_iff] at e ⊢; omega
      rw [this]; rfl
    | some v =>
      obtain ⟨z, hz', rfl⟩ := e3 i v e
      rw [hz']; rfl
/-- .. of values that are no objects of their own -/
theorem lc_vals {R : Hp → Hp → Prop} (kp : Keep R) {J : It} {n : Nat} {G : Hp → Prop} {Y : Nat → Hp → V → Hp → Prop} (w : Walk J n G Y) {g : TG} {te : TE} {vs : List Nat} {σ : L2.St} {H : Hp} {Qd : Addr → Hp → Prop}
    (zs : List V) (hz : zs.length = n) (hG : ∀ H', R H H' → G H') (hn : n < sizeLine)
    (hs : ∀ i x z H0 H' (Qf : VK), zs[i]? = some z → R H H0 → Y i H0 x H' → (∀ H4, R H0 H4 → Qf z H4) →
      g x (wipe σ vs) H' fun σ2 H2 => wipe σ2 vs = wipe σ vs ∧ te σ2 H2 Qf)
    (hd : ∀ D H', R H H' → H D = none → H' D = some (.lst zs) → Qd D H') :
    ∀ D, H D = none → ∃ W : Nat → Nat → Hp → Prop, (∃ m, W 0 m (upd H D (.lst []))) ∧ ∀ i m H, W i m H →
      (J.stop i H ∧ Qd D H) ∨ (J.go i H ∧ ∃ Nx : Hp → Prop, (∀ H', Nx H' → ∃ m', m' < m ∧ W (i + 1) m' H') ∧ ∀ x H', J.yld i H x H' → g x (wipe σ vs) H' fun σ2 H2 => wipe σ2 vs = wipe σ vs ∧ tYes σ2 H2 fun b H3 =>
        if b = true then te σ2 H3 fun y H4 => ∃ acc, H4 D = some (.lst acc) ∧ acc.length < sizeLine ∧ Nx (upd H4 D (.lst (acc ++ [y]))) else Nx H3) := by
  refine lc_all kp w (fun _ i v _ => zs[i]? = some v) (fun _ _ _ _ _ _ h => h) hG hn ?_ ?_
  · intro D i x H0 H' Qf hi r _ y q
    have hi' : i < zs.length := by omega
    refine hs i x zs[i] H0 H' Qf (by simp [hi']) r y (fun H4 r4 => q _ _ r4 (by simp [hi']))
  · intro D us H' r hD e1 e2 e3
    refine hd D H' r hD ?_
    rw [e1]
    congr 2
    apply List.ext_getElem?
    intro i
    cases e : us[i]? with
    | none =>
      have : zs[i]? = none := by rw [List.getElem?_eq_none_iff] at e ⊢; omega
      rw [this]
    | some v => exact (e3 i v e).symm
end Np
end
section
set_option maxRecDepth 100000
set_option maxHeartbeats 2000000
/-! A lambda with parameters as a value: made, handed on, called. -/
namespace Np
open PySem PySem.Spec PyProof.Rows L2 LamX NdefX
/-- at f stands the lambda that F tells (names, cells, code), its body b -/
def LamO (f : Addr) (F : NF) (b : Expr) : HO :=
  .ext fun h => ∃ pm ctv : Value, h.get? f = some (PySem.W.kla_obj F.name F.qual F.params b F.scope F.cl pm F.c ctv)
theorem lamO_ne {f : Addr} {F : NF} {b : Expr} (ps : Array Value) : LamO f F b ≠ .tbl ps := by
  intro z
  unfold LamO at z
  cases z
/-- what is kept where lambdas are made: all but the tables T, which still are tables -/
structure KpT (T : List (Addr × Str)) (H H' : Hp) : Prop where
  ext : ExtN H H'
  free : ∀ b, H' b = none → H b = none
  tabs : Tabs T H → Tabs T H'
theorem keep_tabs (T : List (Addr × Str)) : Keep (KpT T) where
  refl := fun H => ⟨ExtN.refl H, fun _ h => h, fun h => h⟩
  trans := fun r1 r2 => ⟨r1.ext.trans r2.ext, fun b h => r1.free b (r2.free b h), fun h => r2.tabs (r1.tabs h)⟩
  lst := fun r h => r.ext _ _ h (fun ps z => by cases z)
  tup := fun r h => r.ext _ _ h (fun ps z => by cases z)
  sq := fun r h => by
    rcases h with h | h
    · left
      rcases h with h | ⟨o, h⟩
      · exact .inl (r.ext _ _ h (fun ps z => by cases z))
      · exact .inr ⟨o, r.ext _ _ h (fun ps z => by cases z)⟩
    · exact .inr h
  new := fun h => ⟨fun b o e _ => (upd_ne (ne_of_none e h)).trans e, fun b h' => upd_none h', fun t => t.ext fun b o e => (upd_ne (ne_of_none e h)).trans e⟩
  free := fun r h => r.free _ h
  put := fun {H H' p o} r h hl => by
    have off : ∀ b u, H' b = some u → (∀ xs, u ≠ .lst xs) → upd H' p o b = some u := fun b u e n => by
      refine (upd_ne ?_).trans e
      rintro rfl
      rcases hl with hl | ⟨xs, hl⟩
      · rw [hl] at e; cases e
      · rw [hl] at e; exact n xs (Option.some.inj e).symm
    refine ⟨fun b u e n => (upd_ne (ne_of_none e h)).trans (r.ext b u e n), fun b e => r.free b (upd_none e), fun t q hq => ?_⟩
    obtain ⟨ps, a1, a2, a3⟩ := r.tabs t q hq
    refine ⟨ps, off _ _ a1 (fun xs z => by cases z), a2, fun pos cv hc => ?_⟩
    obtain ⟨c, e1, e2⟩ := a3 pos cv hc
    exact ⟨c, e1, off _ _ e2 (fun xs z => by unfold CodeO at z; cases z)⟩
theorem same_tabs {T : List (Addr × Str)} {H H' : Hp} (r : Same H H') : KpT T H H' := ⟨fun b o e _ => r b o e, fun b h => r.free h, fun t => t.ext r⟩
section
variable {X : Cx} {pins : List (Addr × Obj)} {σ : L2.St} {H : Hp} {s : Shared}
/-- the lambda is laid and told of -/
theorem lam_laid {F : NF} {b : Expr} {h' : Heap} {tk : Nat} {pm ctv : Value} (I : Inv X pins σ H { s with heap := h', toks := tk }) :
    Inv X pins σ (upd H h'.objs.size (LamO h'.objs.size F b)) { s with heap := h'.push (PySem.W.kla_obj F.name F.qual F.params b F.scope F.cl pm F.c ctv), toks := tk } := by
  have at_ : (h'.push (PySem.W.kla_obj F.name F.qual F.params b F.scope F.cl pm F.c ctv)).get? h'.objs.size = some (PySem.W.kla_obj F.name F.qual F.params b F.scope F.cl pm F.c ctv) := Heap.get?_push_size _ rfl
  exact I.laid (a := h'.objs.size) (t' := tk) (fun c u e => Heap.get?_push_of_some _ e) (Nat.le_refl _)
    ⟨⟨pm, ctv, at_⟩, ⟨_, at_⟩, fun h1 h2 ⟨pm', ct', z⟩ st => ⟨pm', ct', st _ z⟩⟩
/-- a lambda's making -/
theorem lam_made {T : List (Addr × Str)} {c P : Addr} {params : Arguments} {body : Expr} {scope : Scope} {pos : Pos} {E : Value → Shared → Prop} {Q : Value → Shared → Prop}
    (I : Inv X pins σ H s) (TB : TabB X.base X.mg c P) (hcode : X.env.code = .ref c)
    (hm : (P, X.env.qual ++ "<lambda>") ∈ T) (hu : ∀ p ∈ T, p.1 = P → p.2 = X.env.qual ++ "<lambda>") (hT : Tabs T H)
    (hdef : defaultsOf params X.env = ([], [])) (hfree : ∀ y ∈ scope.names, y.2 = .free → ∃ c, X.env.cells.lookup y.1 = some c)
    (h : ∀ (f c' : Addr) (H1 : Hp) (s' : Shared), Inv X pins σ H1 s' → KpT T H H1 → H f = none →
      H1 f = some (LamO f ⟨"<lambda>", X.env.qual ++ "<lambda>", params, [], scope, cloFrom X.env.cells scope.names [], c'⟩ body) →
      H1 c' = some (CodeO c' (X.env.qual ++ "<lambda>")) → Q (.ref f) s') :
    wpAny (model X.prog X.w) X.A (eval (.Lambda params body scope pos) X.env) Q E s := by
  obtain ⟨ps, tabP, trip, told⟩ := hT _ hm
  refine PySem.W.kla_eval hdef ?_
  have atP : s.heap.get? P = some { cls := .none, data := .fields ps } := I.hok P _ tabP
  cases hit : codeAmong pos ps.toList with
  | some cv =>
    obtain ⟨c', rfl, co⟩ := told pos cv hit
    refine PySem.W.kla_makeFunctionHit (mg := X.mg) (closure_ok hfree) I.ok.glob (I.mod.glob.keeps I.bk) hcode (TB.code.keeps I.bk) atP trip hit (TB.bm.keeps I.bk) fun ctv h' tk kept big => ?_
    have J : Inv X pins σ H { s with heap := h', toks := tk } := I.kept kept
    have new : H h'.objs.size = none := J.hok.fresh (Nat.le_refl _)
    have kp := (keep_tabs T).new (o := LamO h'.objs.size ⟨"<lambda>", X.env.qual ++ "<lambda>", params, [], scope, cloFrom X.env.cells scope.names [], c'⟩ body) new
    exact h _ c' _ _ (lam_laid (F := ⟨"<lambda>", X.env.qual ++ "<lambda>", params, [], scope, cloFrom X.env.cells scope.names [], c'⟩) J) kp new upd_same (kp.ext _ _ co codeO_ne)
  | none =>
    refine PySem.W.kla_makeFunction (mg := X.mg) (closure_ok hfree) I.ok.glob (I.mod.glob.keeps I.bk) hcode (TB.code.keeps I.bk) atP trip hit TB.gP (TB.bm.keeps I.bk) fun c' ctv h' tk kept above below rec tab => ?_
    obtain ⟨c2, oc, vs, t, e2, hoc, hd, hv⟩ := rec
    cases e2
    have newC : H c' = none := I.hok.fresh above
    have J := inv_table (t' := tk) (more := #[rawInt pos.line, rawInt pos.col, .ref c']) (h' := h') I tabP (fun b o hb e => kept b o hb e) tab above ⟨oc, vs, t, hoc, hd, hv⟩
    generalize hH1 : upd (upd H P (.tbl (ps ++ #[rawInt pos.line, rawInt pos.col, .ref c']))) c' (CodeO c' (X.env.qual ++ "<lambda>")) = H1 at J
    have co : H1 c' = some (CodeO c' (X.env.qual ++ "<lambda>")) := by rw [← hH1]; exact upd_same
    have kx : ExtN H H1 := fun b o e n => by
      rw [← hH1, upd_ne (ne_of_none e newC), upd_ne (fun z => ?_)]
      · exact e
      · rw [z, tabP] at e; exact n ps (Option.some.inj e).symm
    have kf : ∀ b, H1 b = none → H b = none := fun b e => by rw [← hH1] at e; exact upd_none (upd_none e)
    have kt : Tabs T H1 := fun q hq => by
      obtain ⟨qs, a1, a2, a3⟩ := hT q hq
      have keepC : ∀ c0, H c0 = some (CodeO c0 q.2) → H1 c0 = some (CodeO c0 q.2) := fun c0 e => kx _ _ e codeO_ne
      by_cases hb : q.1 = P
      · rw [hb, tabP] at a1
        cases a1
        have eL : (ps ++ #[rawInt pos.line, rawInt pos.col, .ref c']).toList = ps.toList ++ [rawInt pos.line, rawInt pos.col, .ref c'] := by simp
        refine ⟨ps ++ #[rawInt pos.line, rawInt pos.col, .ref c'], ?_, by rw [eL]; exact PySem.TriplesOk_snoc _ _ _ _ trip, fun p' cv hcv => ?_⟩
        · rw [hb, ← hH1, upd_ne (ne_of_none tabP newC)]; exact upd_same
        · rw [eL] at hcv
          rcases among_app _ trip hcv with z | z
          · obtain ⟨c0, e1, e2⟩ := a3 p' cv z
            exact ⟨c0, e1, keepC c0 e2⟩
          · exact ⟨c', z, by rw [hu q hq hb]; exact co⟩
      · refine ⟨qs, ?_, a2, fun p' cv hcv => ?_⟩
        · rw [← hH1, upd_ne (ne_of_none a1 newC), upd_ne hb]; exact a1
        · obtain ⟨c0, e1, e2⟩ := a3 p' cv hcv
          exact ⟨c0, e1, keepC c0 e2⟩
    have k1 : KpT T H H1 := ⟨kx, kf, fun _ => kt⟩
    have new : H1 h'.objs.size = none := J.hok.fresh (Nat.le_refl _)
    have k2 := (keep_tabs T).new (o := LamO h'.objs.size ⟨"<lambda>", X.env.qual ++ "<lambda>", params, [], scope, cloFrom X.env.cells scope.names [], c'⟩ body) new
    exact h _ c' _ _ (lam_laid (F := ⟨"<lambda>", X.env.qual ++ "<lambda>", params, [], scope, cloFrom X.env.cells scope.names [], c'⟩) J) ((keep_tabs T).trans k1 k2) (k1.free _ new) upd_same (k2.ext _ _ co codeO_ne)
/-- the reading of a lambda as a value -/
def tLamV (T : List (Addr × Str)) (mk : Addr → NF) (b : Expr) : TE := fun σ H Q => Tabs T H ∧
  ∀ (f c' : Addr) (H1 : Hp), KpT T H H1 → H f = none → H1 f = some (LamO f (mk c') b) → H1 c' = some (CodeO c' (mk c').qual) → Q (.ref f) H1
theorem pe_lam {T : List (Addr × Str)} {c P : Addr} {params : Arguments} {body : Expr} {scope : Scope} {pos : Pos}
    (TB : TabB X.base X.mg c P) (hcode : X.env.code = .ref c) (hm : (P, X.env.qual ++ "<lambda>") ∈ T) (hu : ∀ p ∈ T, p.1 = P → p.2 = X.env.qual ++ "<lambda>")
    (hfree : ∀ y ∈ scope.names, y.2 = .free → X.env.scope.names.lookup y.1 = some .cell ∨ X.env.scope.names.lookup y.1 = some .free)
    (hdef : defaultsOf params X.env = ([], []) := by rfl) :
    PE X (.Lambda params body scope pos) (tLamV T (fun c' => ⟨"<lambda>", X.env.qual ++ "<lambda>", params, [], scope, cloFrom X.env.cells scope.names [], c'⟩) body) := by
  refine ⟨fun pins s σ H Q I h => ?_⟩
  obtain ⟨hT, h⟩ := h
  refine lam_made I TB hcode hm hu hT hdef (fun y hy e => (hfree y hy e).elim (fun z => I.ok.has _ (.inl z)) fun z => I.ok.has _ (.inr z)) fun f c' H1 s' I1 kp f0 f1 c1 => ?_
  exact ⟨.ref f, H1, I1, rfl, h f c' H1 kp f0 f1 c1⟩
end
/-! ### what a lambda promises -/
/-- the lambda F with the body b at f keeps sp: ws, what its cells hold -/
structure LOk (P : Program) (w : World) (K : PySem.W.Frag) (mg : Str → Option Value) (base : Heap) (k : Nat) (f : Addr) (F : NF) (b : Expr) (ps fr : List Str) (sp : List (Option V) → Sp) : Prop where
  len : ∀ ws vs H Q E, sp ws vs H Q E → vs.length = ps.length
  run : ∀ (A : Around) (outer : List Env) (s : Shared) (H : Hp) (us : List Value) (vs : List V) (ws : List (Option V)) (Q : VK) (E : XK), Room k A → Env0 P w K mg base A outer s H →
    H f = some (LamO f F b) → H F.c = some (CodeO F.c F.qual) → CellsAt F.cl fr ws s.heap H → Vals vs us → sp ws vs H Q E →
    codeAny (model P w) A (.call (.ref f) ⟨us, []⟩) (CR CX0 outer P w H s Q E) s
section
variable {P : Program} {w : World} {K : PySem.W.Frag} {mg : Str → Option Value} {base : Heap} {N ps fr : List Str} {F : NF} {b : Expr} {f : Addr} {k : Nat} {sp : List (Option V) → Sp}
theorem lok_of (S : NScope N ps fr F.scope)
    (hb : ∀ (pm ctv : Value) (us : List Value), us.length = ps.length → bindArgs (PySem.W.kla_fn F.name F.qual F.params b F.scope F.cl pm (.ref F.c) ctv) ⟨us, []⟩ = pure (ps.zip us))
    (len : ∀ ws vs H Q E, sp ws vs H Q E → vs.length = ps.length)
    (hbody : ∀ (A : Around) (outer : List Env) (s : Shared) (H : Hp) (vs : List V) (ws : List (Option V)) (Q : VK) (E : XK), Room k (A.deeper (envF F f s.heap.objs.size)) → ws.length = fr.length → sp ws vs H Q E →
      ∃ t, PE (ncx CX0 P w K mg base N F f A outer s H E) b t ∧ t (startF N vs ws) H Q) :
    LOk P w K mg base (k + 1) f F b ps fr sp := by
  refine ⟨len, fun A outer s H us vs ws Q E hr e0 hf hc C r hsp => ?_⟩
  have hl := len _ _ _ _ _ hsp
  obtain ⟨⟨pm, ctv, at_⟩, _, _⟩ := e0.hok f _ hf
  have noLim : s.heap.NoLimit := e0.mod.nolimit.keeps fun c o e => (e0.bs c o e).1
  refine PySem.W.kla_callFunE hr.depth at_ rfl S.co S.gen rfl (codeO_at e0.hok hc) ?_
  rw [hb pm ctv us (by rw [← r.length]; exact hl)]
  refine wpAny_pure (wpAny_newFunctionEnv S.nocell (fun ⟨n, _⟩ hy => S.par n (List.of_mem_zip hy).1) (fun g gns gsb => ⟨noLim.fresh _ gsb, ?_⟩) S.kind)
  show codeAny _ _ (.expr b (envF F f s.heap.objs.size)) _ _
  have old : ∀ c o, s.heap.get? c = some o → g.get? c = some o := fun c o e => gsb.extBut c o (Nat.ne_of_lt (Heap.lt_size e)) (Heap.get?_push_of_some _ e)
  obtain ⟨t, ht, hq⟩ := hbody A outer s H vs ws Q E (hr.deeper _) C.len hsp
  have I : Inv (ncx CX0 P w K mg base N F f A outer s H E) [] (startF N vs ws) H { s with heap := g, toks := s.toks + (ps.zip us).length } := inv_startN S hr.hd e0 hl r C gns old
  refine PySem.W.kla_codeExpr (wpAny_mono (ht.run [] _ (startF N vs ws) H Q I hq) (fun u s' hs => ?_) fun e s' hs => hs)
  obtain ⟨v, H', J, rv, q⟩ := hs
  exact ⟨v, H', J.os, J.bare, J.base, J.hok, rv, q⟩
end
end Np
end
section
set_option autoImplicit false
set_option maxRecDepth 100000
set_option maxHeartbeats 2000000
/-! sorted(xs, key=f) where f gives a new list. -/
namespace Np
open PySem PySem.W PySem.Calls PyProof.Rows
section
variable {prog : Program} {w : World} {A : Around} {E : Value → Shared → Prop} {s : Shared} {a kS : Addr} {b : Bool} {vs : List Value} {e1 : Nat} {P : PySem.Fin → Shared → Prop} {kz : List PyData}
/-- a call that keeps what was there; its answer reads as k, by lists that are new -/
def KeyNew (k : PyData) (s1 : Shared) (v : Value) (s2 : Shared) : Prop :=
  ∃ (g : Heap) (tk : Nat), s2 = { s1 with heap := g, toks := tk } ∧ (∀ c o, s1.heap.get? c = some o → g.get? c = some o) ∧ ∃ as, Reads g v k as ∧ ∀ x ∈ as, s1.heap.get? x = none
theorem keyN_rest {f : Value} {h0 : Heap} (kp : KeepsBut a h0 s.heap) (noS : h0.get? kS = none) (atS : s.heap.get? kS = some (seqObj "list" #[] 0)) (atA : s.heap.get? a = some (seqObj "list" #[] e1)) (neq : kS ≠ a)
    (same : kz.length = vs.length) (line : vs.length ≤ sizeLine) (ali : AllAlike kz) (sor : Sortable kz) (deep : ∀ d, d ∈ kz → A.units + d.depth < cLine)
    (turn : ∀ (i : Nat) (v : Value) (k : PyData), vs[i]? = some v → kz[i]? = some k → ∀ (g : Heap) (tk : Nat), KeepsBut a h0 g →
      wpAny (model prog w) A (call f [v]) (KeyNew k { s with heap := g, toks := tk }) (fun _ _ => False) { s with heap := g, toks := tk })
    (fin : ∀ g tk out c, KeepsBut a h0 g → g.get? a = some (seqObj "list" (List.toArray out) c) → KeyedOut b kz vs out → P (.done (.ret .none)) { s with heap := g, toks := tk }) :
    wpAny (model prog w) A (ksk_rest a f b vs.toArray e1 (.ref kS)) P E s := by
  unfold ksk_rest
  refine wpAny_bind (wpAny_rule ?_)
  first
    | rw [List.forIn_toArray]
    | (rw [← Array.forIn_toList]; simp only [List.toList_toArray])
  refine wpAny_bind (ksk_fold (fun i s' => ∃ g tk kA n, s' = { s with heap := g, toks := tk } ∧ KeepsBut a h0 g ∧ g.get? kS = some (seqObj "list" kA n) ∧ g.get? a = some (seqObj "list" #[] e1) ∧
      EachIs (fun v k => (∃ as, Reads g v k as ∧ kS ∉ as) ∧ alike k k = true) kA.toList (kz.take i)) vs 0 s ⟨s.heap, s.toks, #[], 0, rfl, kp, atS, atA, .nil⟩ ?one ?all)
  case one =>
    rintro j x s' hx ⟨g, tk, kA, n, rfl, kg, gS, gA, each⟩
    simp only [Nat.zero_add] at each ⊢
    have lt : j < vs.length := (List.getElem?_eq_some_iff.mp hx).1
    obtain ⟨k, kj⟩ : ∃ k, kz[j]? = some k := ⟨_, List.getElem?_eq_getElem (by omega)⟩
    have self : alike k k = true := ali k (List.mem_of_getElem? kj) k (List.mem_of_getElem? kj)
    have few : kA.size ≤ vs.length := by
      have := each.length
      rw [Array.length_toList, List.length_take] at this
      omega
    refine wpAny_bind (wpAny_attempt (wpAny_mono (turn j x k hx kj g tk kg) (fun v s'' made => ?_) fun _ _ no => no.elim))
    obtain ⟨g2, tk2, rfl, kept, as, rd, new⟩ := made
    try dsimp only
    have hS : g2.get? kS = some (seqObj "list" kA n) := kept _ _ gS
    have hA : g2.get? a = some (seqObj "list" #[] e1) := kept _ _ gA
    have off : kS ∉ as := fun z => by
      have := new kS z
      rw [show ({ s with heap := g, toks := tk } : Shared).heap.get? kS = some (seqObj "list" kA n) from gS] at this
      cases this
    have but := Heap.SameBut.update g2 kS (Obj.mapSeq (·.push v))
    obtain ⟨n2, hS2⟩ : ∃ n2, (g2.update kS (Obj.mapSeq (·.push v))).get? kS = some (seqObj "list" (kA.push v) n2) := ⟨_, get?_update_seq hS (·.push v)⟩
    refine wpAny_bind (listUpdate_at hS rfl ?_ (Nat.le_trans few line) (Nat.le_trans (Nat.le_of_eq (Array.size_push ..)) (Nat.succ_le_succ (Nat.le_trans few line))))
    have stay : ∀ (u : Value) (d : PyData), (∃ as, Reads g2 u d as ∧ kS ∉ as) ∧ alike d d = true → (∃ as, Reads (g2.update kS (Obj.mapSeq (·.push v))) u d as ∧ kS ∉ as) ∧ alike d d = true := fun u d ⟨⟨as, r, n⟩, q⟩ =>
      ⟨⟨as, Reads.keepBut (a := kS) (fun c o hc e => (but.2 c hc).trans e) (fun o e => by rw [hS] at e; rw [← Option.some.inj e]) d u as q r n, n⟩, q⟩
    refine wpAny_pure ⟨rfl, _, _, kA.push v, n2, rfl, (kg.trans_all kept).same but (.inr noS), hS2, (but.2 a neq.symm).trans hA, ?_⟩
    have l1 : (kA.push v).toList = kA.toList ++ [v] := by simp
    have l2 : kz.take (j + 1) = kz.take j ++ [k] := by rw [List.take_add_one, kj]; simp
    rw [l1, l2]
    refine each_snoc (R := fun (u : Value) (d : PyData) => (∃ as, Reads (g2.update kS (Obj.mapSeq (·.push v))) u d as ∧ kS ∉ as) ∧ alike d d = true) (stay v k ⟨⟨as, rd, off⟩, self⟩) ?_
    exact each.mono fun u d ⟨⟨as, r, n⟩, q⟩ => stay u d ⟨⟨as, PyProof.Rows.Reads.keeps kept r, n⟩, q⟩
  case all =>
    rintro s' ⟨g, tk, kA, n, rfl, kg, gS, gA, each⟩
    rw [show kz.take (0 + vs.length) = kz from List.take_of_length_le (by omega)] at each
    have told : EachIs (fun v k => ∃ as, Reads g v k as) kA.toList kz := each.mono fun v k q => q.1.imp fun _ z => z.1
    have cnt : kA.size = vs.length := by
      have := told.length
      rw [Array.length_toList] at this
      omega
    try dsimp only
    refine wpAny_bind (listItems_at gS rfl ?_)
    exact keyH_end (κ := dataKind g kz) (h₁ := h0) kg noS gS gA neq (SortsAt.data (s := { s with heap := g, toks := tk }) told ali sor deep) cnt line fun g3 tk3 c k3 n3 => fin g3 tk3 _ c k3 n3 ⟨g, kA.toList, ali, rfl, told⟩
end
section
variable {prog : Program} {w : World} {A : Around} {E : Value → Shared → Prop} {s : Shared} {β : Type} {vs : List Value} {bs : List β} {R : Value → β → Prop}
/-- sorted(xs, key=f) -/
theorem sorted_keyN {l f : Addr} {Q : Value → Shared → Prop} (k : β → PyData) (isl : s.heap.IsList l vs.toArray) (ea : EachIs R vs bs) (ali : AllAlike (bs.map k)) (sor : Sortable (bs.map k)) (line : bs.length ≤ sizeLine)
    (deep : ∀ x, x ∈ bs → A.units + 2 + (k x).depth < cLine)
    (turn : ∀ (i : Nat) (v : Value) (x : β), vs[i]? = some v → bs[i]? = some x → R v x → ∀ (g : Heap) (tk : Nat), (∀ c o, s.heap.get? c = some o → g.get? c = some o) →
      wpAny (model prog w) A.in1.in1 (call (.ref f) [v]) (KeyNew (k x) { s with heap := g, toks := tk }) (fun _ _ => False) { s with heap := g, toks := tk })
    (fin : ∀ out c g tk, (∀ c o, s.heap.get? c = some o → g.get? c = some o) → g.get? (s.heap.objs.size + 1) = some (seqObj "list" (List.toArray out) c) → out.length = bs.length → EachIs R out (bs.mergeSort (dataLe false k)) →
      Q (.ref (s.heap.objs.size + 1)) { s with heap := g, toks := tk }) :
    wpAny (model prog w) A (call (.builtin "sorted") [.ref l] [(Str.ofString "key", .ref f)]) Q E s := by
  have up : ∀ {g : Heap}, KeepsBut (s.heap.objs.size + 1) (copyHeap s.heap vs) g → ∀ c o, s.heap.get? c = some o → g.get? c = some o := fun {g} kp c o q =>
    kp c o (Nat.ne_of_lt (Nat.lt_succ_of_lt (Heap.lt_size q))) (copyHeap_old q)
  have lenv : vs.length ≤ sizeLine := by rw [ea.length]; exact line
  have lenk : (bs.map k).length = vs.length := by rw [List.length_map]; exact ea.length.symm
  refine sorted_of_sort isl lenv (ksk_s1 _ _) (fun x => ksk_l1 _ _) fun E' => ?_
  rw [ksk_t1]
  generalize hc : copyHeap s.heap vs = ch at *
  have at1 : ch.get? (s.heap.objs.size + 1) = some (seqObj "list" vs.toArray 0) := by rw [← hc]; exact copyHeap_at s.heap vs
  have lt1 : s.heap.objs.size + 1 < ch.objs.size := Heap.lt_size at1
  obtain ⟨e1, at2⟩ : ∃ e1, (ch.update (s.heap.objs.size + 1) (Obj.mapSeq fun _ => (#[] : Array Value))).get? (s.heap.objs.size + 1) = some (seqObj "list" #[] e1) := ⟨_, get?_update_seq at1 fun _ => #[]⟩
  unfold ksk_tree
  refine wpAny_bind (listItems_at at1 rfl ?_)
  refine wpAny_bind (listUpdate_at at1 rfl ?_ (by rw [List.size_toArray]; exact lenv) (Nat.zero_le _))
  refine wpAny_bind (seqEpoch_at at2 rfl ?_)
  refine wpAny_bind (wpAny_newTuple ?_ lenv)
  refine wpAny_bind (wpAny_newList ?_ (Nat.zero_le _))
  refine wpAny_holding ?_
  have big : ((ch.update (s.heap.objs.size + 1) (Obj.mapSeq fun _ => (#[] : Array Value))).push (seqObj "tuple" vs.toArray 0)).objs.size = ch.objs.size + 1 := by rw [size_push', Heap.size_update]
  refine keyN_rest (kz := bs.map k) (h0 := ch) (vs := vs) (b := false) (s := { s with heap := ((ch.update (s.heap.objs.size + 1) (Obj.mapSeq fun _ => (#[] : Array Value))).push (seqObj "tuple" vs.toArray 0)).push (seqObj "list" #[] 0) })
    (fun c o hb q => sortingHeap_old hb q) (Heap.get?_none_of_le (by rw [big]; exact Nat.le_succ _)) (Heap.get?_push_size _ rfl)
    (Heap.get?_push_of_some _ (Heap.get?_push_of_some _ at2)) (fun z => Nat.ne_of_gt (Nat.lt_succ_of_lt lt1) (big.symm.trans z)) lenk lenv ali sor (bound_map (A := A.in1.in1) deep) (fun i v d hv hd g tk kp => ?_) fun g tk out c kp hD ko => ⟨rfl, ?_⟩
  · rw [List.getElem?_map] at hd
    cases hx : bs[i]? with
    | none => rw [hx] at hd; cases hd
    | some x =>
      rw [hx] at hd
      obtain rfl : k x = d := Option.some.inj hd
      have both : (v, x) ∈ vs.zip bs := List.mem_of_getElem? (i := i) (by rw [List.getElem?_zip_eq_some]; exact ⟨hv, hx⟩)
      exact turn i v x hv hx (ea.zip _ both) g tk (up kp)
  · exact fin out c g tk (up kp) hD ((ko.length lenk).trans ea.length) (keyedOut_each k ko ea)
end
end Np
end
section
set_option maxRecDepth 100000
set_option maxHeartbeats 2000000
/-! sorted(xs, key=f) as a rule of the hand layer, f's answers new lists of whole numbers. -/
namespace Np
open PySem PySem.Spec PyProof.Rows L2
section
variable {X : Cx} {pins : List (Addr × Obj)} {σ : L2.St} {H : Hp} {s : Shared}
/-- an address that is nobody's -/
structure Nobody (X : Cx) (pins : List (Addr × Obj)) (c : Addr) : Prop where
  sz : X.s_0.heap.objs.size ≤ c
  loc : c ≠ X.env.locals
  cel : ∀ x d, X.env.cells.lookup x = some d → d ≠ c
  pin : ∀ p ∈ X.pn ++ pins, p.1 ≠ c
  fr : c ∉ X.fs
theorem nobody_of (I : Inv X pins σ H s) {c : Addr} (h : s.heap.objs.size ≤ c) : Nobody X pins c where
  sz := Nat.le_trans I.sz h
  loc := fun z => by
    have := I.lt
    rw [← z] at this
    exact absurd (Nat.lt_of_lt_of_le this h) (Nat.lt_irrefl _)
  cel := fun x d e z => by
    obtain ⟨v, o, ho, _⟩ := I.cell x d e
    have := Heap.lt_size ho
    rw [z] at this
    exact absurd (Nat.lt_of_lt_of_le this h) (Nat.lt_irrefl _)
  pin := fun p hp z => by
    have := Heap.lt_size (I.pin p hp).1
    rw [z] at this
    exact absurd (Nat.lt_of_lt_of_le this h) (Nat.lt_irrefl _)
  fr := I.nofs h
theorem Nobody.stack (I : Inv X pins σ H s) {c : Addr} (n : Nobody X pins c) : c ∉ frs X.stack := fun z => by
  rcases List.mem_cons.mp (I.stkSub c z) with e | e
  · exact n.loc e
  · exact n.fr e
/-- records of nobody's may change; one of them may be told of from then on -/
theorem inv_nobody {ch : List Addr} {h' : Heap} {H' : Hp} (I : Inv X pins σ H s) (hn : ∀ c ∈ ch, Nobody X pins c ∧ H c = none)
    (same : ∀ b o, b ∉ ch → s.heap.get? b = some o → h'.get? b = some o)
    (off : ∀ b, b ∉ ch → H' b = H b) (new : ∀ c ∈ ch, ∀ u, H' c = some u → ObjOk X.prog X.w H' h' c u) {tk : Nat} :
    Inv X pins σ H' { s with heap := h', toks := tk } := by
  have nin : ∀ b u, H b = some u → b ∉ ch := fun b u e z => by rw [(hn b z).2] at e; cases e
  refine I.step (g' := s.gens) (d' := s.drawn) (ch := ch) (fun b hb => ⟨.inr (hn b hb).1.sz, (hn b hb).1.loc, (hn b hb).1.cel, (hn b hb).1.pin⟩)
    (fun b o _ _ hb e _ => same b o hb e) (fun b o _ _ hb e _ => ⟨o.slots, same b o hb e⟩) (fun b o hb e n => by rw [off b hb]; exact n)
    (fun b o hb e => ⟨o, same b o hb e⟩) (fun b xs e => by rw [off b (nin b _ e)]; exact e) (fun b o u e => by rw [off b (nin b _ e)]; exact e)
    (fun b ps e => ⟨#[], by rw [off b (nin b _ e), e]; simp⟩) (fun m hm => ?_) (fun b u e => ?_) I.bare
  · obtain ⟨ob, es, ep, ho, r⟩ := hm
    exact ⟨ob, es, ep, same _ ob (fun z => (hn _ z).1.loc rfl) ho, r⟩
  · by_cases hb : b ∈ ch
    · exact new b hb u e
    · rw [off b hb] at e
      refine (I.hok b u e).stay (fun d v hd q => same d v (fun z => ?_) q) (fun d q => by rw [off d (nin d _ q)]; exact q) (fun d xs q => by rw [off d (nin d _ q)]; exact q)
      rcases hd with rfl | hd
      · exact hb z
      · exact nin d _ hd z
end
section
variable {X : Cx} {pins : List (Addr × Obj)} {σ : L2.St}
/-- how f may be called from within a built-in: sp tells what is wanted -/
def RunIn (X : Cx) (pins : List (Addr × Obj)) (σ : L2.St) (R : Hp → Hp → Prop) (H : Hp) (f : Addr) (sp : List V → Hp → VK → Prop) : Prop :=
  ∀ (s : Shared) (H' : Hp) (us : List Value) (vs : List V) (Q : VK), Inv X pins σ H' s → R H H' → Vals vs us → sp vs H' Q →
    codeAny (model X.prog X.w) X.A.in1.in1 (.call (.ref f) ⟨us, []⟩) (CR CX0 X.stack X.prog X.w H' s Q E0) s
def listD (ns : List Int) : PyData := .list (ns.map PyData.int)
theorem keys_read {H : Hp} {s : Shared} (I : Inv X pins σ H s) {p : Addr} {ns : List Int} (h : H p = some (.lst (ns.map V.int))) : Reads s.heap (.ref p) (listD ns) [p] := by
  obtain ⟨z, its, n, r, e⟩ := I.hok p _ h
  exact .list e rfl rfl ((intsAre_of r).reads s.heap)
theorem each_map {α β γ : Type} {R : α → β → Prop} {S : α → γ → Prop} {g : β → γ} (h : ∀ a b, R a b → S a (g b)) : ∀ {as : List α} {bs : List β}, PySem.W.EachIs R as bs → PySem.W.EachIs S as (bs.map g)
  | _, _, .nil => .nil
  | _, _, .cons r e => .cons (h _ _ r) (each_map h e)
theorem each_vals {β : Type} {Rl : V → β → Prop} : ∀ {xs : List V} {vs : List Value} {bs : List β}, Vals xs vs → PySem.W.EachIs Rl xs bs → PySem.W.EachIs (fun v y => ∃ x, RelV x v ∧ Rl x y) vs bs
  | _, _, _, .nil, .nil => .nil
  | _, _, _, .cons r rs, .cons e es => .cons ⟨_, r, e⟩ (each_vals rs es)
theorem vals_each {β : Type} {Rl : V → β → Prop} : ∀ {vs : List Value} {bs : List β}, PySem.W.EachIs (fun v y => ∃ x, RelV x v ∧ Rl x y) vs bs → ∃ zs, Vals zs vs ∧ PySem.W.EachIs Rl zs bs
  | _, _, .nil => ⟨[], .nil, .nil⟩
  | _, _, .cons ⟨x, r, e⟩ es => let ⟨zs, h1, h2⟩ := vals_each es; ⟨x :: zs, .cons r h1, .cons e h2⟩
theorem alike_ints : ∀ (xs ys : List Int), xs.length = ys.length → PySem.W.alike (listD xs) (listD ys) = true
  | [], [], _ => rfl
  | [], _ :: _, h => by simp at h
  | _ :: _, [], h => by simp at h
  | x :: xs, y :: ys, h => by
    have := alike_ints xs ys (by simpa using h)
    simp only [listD, List.map_cons, PySem.W.alike, PySem.W.alikeAll] at this ⊢
    simpa using this

theorem keyI_rest {β : Type} {R : Hp → Hp → Prop} (kp : Keep R) {H : Hp} {s : Shared} {a kS f : Addr} {e1 : Nat} {vs : List Value} {xs : List V} {bs : List β} {k : β → List Int} {m : Nat} {P : PySem.Fin → Shared → Prop} {E : Value → Shared → Prop} {sp : List V → Hp → VK → Prop}
    (I : Inv X pins σ H s) (nS : Nobody X pins kS) (nA : Nobody X pins a) (hS0 : H kS = none) (hA0 : H a = none) (neq : kS ≠ a)
    (atS : s.heap.get? kS = some (seqObj "list" #[] 0)) (atA : s.heap.get? a = some (seqObj "list" #[] e1))
    (rv : Vals xs vs) (same : xs.length = bs.length) (line : xs.length ≤ sizeLine) (hm : ∀ y ∈ bs, (k y).length = m) (deep : ∀ y ∈ bs, X.A.in1.in1.units + (listD (k y)).depth < cLine)
    (run : RunIn X pins σ R H f sp)
    (turn : ∀ (i : Nat) (x : V) (y : β) (H' : Hp) (Q' : VK), xs[i]? = some x → bs[i]? = some y → R H H' →
      (∀ H2 p, R H' H2 → H' p = none → H2 p = some (.lst ((k y).map V.int)) → Q' (.ref p) H2) → sp [x] H' Q')
    (fin : ∀ (s' : Shared) (H' : Hp) (h3 : Heap) (tk c : Nat) (out : List Value), Inv X pins σ H' s' → R H H' → H' kS = none → H' a = none → (∀ b o, b ≠ a → b ≠ kS → s'.heap.get? b = some o → h3.get? b = some o) →
      h3.get? a = some (seqObj "list" (List.toArray out) c) → PySem.W.KeyedOut false (bs.map fun y => listD (k y)) vs out → P (.done (.ret .none)) { s' with heap := h3, toks := tk }) :
    wpAny (model X.prog X.w) X.A.in1.in1 (ksk_rest a (.ref f) false vs.toArray e1 (.ref kS)) P E s := by
  have lenv : vs.length = bs.length := by rw [← rv.length]; exact same
  have linev : vs.length ≤ sizeLine := by rw [← rv.length]; exact line
  unfold ksk_rest
  refine wpAny_bind (wpAny_rule ?_)
  first
    | rw [List.forIn_toArray]
    | (rw [← Array.forIn_toList]; simp only [List.toList_toArray])
  refine wpAny_bind (ksk_fold (fun i s' => ∃ H' kA n, Inv X pins σ H' s' ∧ R H H' ∧ H' kS = none ∧ H' a = none ∧ s'.heap.get? kS = some (seqObj "list" kA n) ∧ s'.heap.get? a = some (seqObj "list" #[] e1) ∧
      PySem.W.EachIs (fun (v : Value) (ns : List Int) => ∃ p, v = .ref p ∧ H' p = some (.lst (ns.map V.int))) kA.toList ((bs.map k).take i)) vs 0 s ⟨H, #[], 0, I, kp.refl H, hS0, hA0, atS, atA, .nil⟩ ?one ?all)
  case one =>
    rintro j v s' hv ⟨H', kA, n, I', r, fS, fA, gS, gA, each⟩
    simp only [Nat.zero_add] at each ⊢
    have lt : j < vs.length := (List.getElem?_eq_some_iff.mp hv).1
    obtain ⟨y, yj⟩ : ∃ y, bs[j]? = some y := ⟨_, List.getElem?_eq_getElem (by omega)⟩
    obtain ⟨x, xj⟩ : ∃ x, xs[j]? = some x := ⟨_, List.getElem?_eq_getElem (by omega)⟩
    obtain ⟨v', hv', rx⟩ := rv.get xj
    rw [hv] at hv'
    cases hv'
    have few : kA.size ≤ vs.length := by
      have := each.length
      rw [Array.length_toList, List.length_take, List.length_map] at this
      omega
    have go := run s' H' [v] [x] (fun u H2 => ∃ p, u = .ref p ∧ R H' H2 ∧ H' p = none ∧ H2 p = some (.lst ((k y).map V.int))) I' r (.cons rx .nil)
      (turn j x y H' _ xj yj r (fun H2 p r2 h1 h2 => ⟨p, rfl, r2, h1, h2⟩))
    refine wpAny_bind (wpAny_attempt (wpAny_call (codeAny_mono go fun res s2 hq => ?_)))
    cases res with
    | error e => exact False.elim hq
    | ok fl =>
      cases fl with
      | next => exact False.elim hq
      | brk => exact False.elim hq
      | cont => exact False.elim hq
      | ret u =>
        obtain ⟨w', H2, os, bare, un, hok, ru, p, rfl, r2, fp, atp⟩ := hq
        obtain ⟨hh, gg, dd, tt, os'⟩ := s2
        obtain rfl : os' = s'.os := os
        have I2 := I'.call (h' := hh) (g' := gg) (d' := dd) (t' := tt) (ch := []) un hok bare (fun b z => absurd z (by simp))
        obtain rfl : u = Value.ref p := ru
        have kS2 : hh.get? kS = some (seqObj "list" kA n) := un.keep kS _ gS fS (nS.stack I') (by simp)
        have kA2 : hh.get? a = some (seqObj "list" #[] e1) := un.keep a _ gA fA (nA.stack I') (by simp)
        have fS2 : H2 kS = none := un.free kS _ gS fS (by simp)
        have fA2 : H2 a = none := un.free a _ gA fA (by simp)
        try dsimp only
        have but := Heap.SameBut.update hh kS (Obj.mapSeq (·.push (Value.ref p)))
        obtain ⟨n2, kS3⟩ : ∃ n2, (hh.update kS (Obj.mapSeq (·.push (Value.ref p)))).get? kS = some (seqObj "list" (kA.push (Value.ref p)) n2) := ⟨_, get?_update_seq kS2 (·.push (Value.ref p))⟩
        refine wpAny_bind (listUpdate_at kS2 rfl ?_ (Nat.le_trans few linev) (Nat.le_trans (Nat.le_of_eq (Array.size_push ..)) (Nat.succ_le_succ (Nat.le_trans few linev))))
        refine wpAny_pure ⟨rfl, H2, kA.push (Value.ref p), n2, ?_, kp.trans r r2, fS2, fA2, kS3, (but.2 a neq.symm).trans kA2, ?_⟩
        · exact inv_nobody (ch := [kS]) (H' := H2) (tk := tt) I2 (fun c hc => by rw [List.mem_singleton.mp hc]; exact ⟨nS, fS2⟩) (fun b o hb e => (but.2 b (fun z => hb (by simp [z]))).trans e) (fun b _ => rfl)
            (fun c hc u hu => by rw [List.mem_singleton.mp hc, fS2] at hu; cases hu)
        · have l1 : (kA.push (Value.ref p)).toList = kA.toList ++ [Value.ref p] := by simp
          have l2 : (bs.map k).take (j + 1) = (bs.map k).take j ++ [k y] := by
            rw [List.take_add_one, List.getElem?_map, yj]; rfl
          rw [l1, l2]
          exact PySem.W.each_snoc ⟨p, rfl, atp⟩ (each.mono fun u ns ⟨p', e, h'⟩ => ⟨p', e, kp.lst r2 h'⟩)
  case all =>
    rintro s' ⟨H', kA, n, I', r, fS, fA, gS, gA, each⟩
    rw [show (bs.map k).take (0 + vs.length) = bs.map k from List.take_of_length_le (by rw [List.length_map]; omega)] at each
    have told : PySem.W.EachIs (fun v d => ∃ as, Reads s'.heap v d as) kA.toList (bs.map fun y => listD (k y)) := by
      have e2 : (bs.map fun y => listD (k y)) = (bs.map k).map listD := by rw [List.map_map]; rfl
      rw [e2]
      exact each_map (fun v ns ⟨p, e, h'⟩ => ⟨[p], by rw [e]; exact keys_read I' h'⟩) each
    have ali : PySem.W.AllAlike (bs.map fun y => listD (k y)) := by
      intro d hd d' hd'
      obtain ⟨y, hy, rfl⟩ := List.mem_map.mp hd
      obtain ⟨y', hy', rfl⟩ := List.mem_map.mp hd'
      exact alike_ints _ _ (by rw [hm y hy, hm y' hy'])
    have sor : PySem.W.Sortable (bs.map fun y => listD (k y)) := by
      right
      intro d hd
      obtain ⟨y, hy, rfl⟩ := List.mem_map.mp hd
      exact ⟨(fun z => by unfold listD at z; cases z), (fun _ z => by unfold listD at z; cases z)⟩
    have dp : ∀ d, d ∈ (bs.map fun y => listD (k y)) → X.A.in1.in1.units + d.depth < cLine := by
      intro d hd
      obtain ⟨y, hy, rfl⟩ := List.mem_map.mp hd
      exact deep y hy
    have cnt : kA.size = vs.length := by
      have := each.length
      rw [Array.length_toList, List.length_map] at this
      omega
    try dsimp only
    refine wpAny_bind (listItems_at gS rfl ?_)
    obtain ⟨G, g1, g2⟩ := restrict s'.heap fun b => decide (b ≠ kS)
    have gk : ∀ b, b ≠ kS → G.get? b = s'.heap.get? b := fun b hb => g1 b (decide_eq_true hb)
    have gn : G.get? kS = none := g2 kS (by simp)
    refine PySem.W.keyH_end (κ := PySem.W.dataKind s'.heap (bs.map fun y => listD (k y))) (h₁ := G) (fun b o hb e => ?_) gn gS gA neq (PySem.W.SortsAt.data told ali sor dp) cnt linev fun h3 tk3 c k3 n3 => ?_
    · by_cases hk : b = kS
      · rw [hk, gn] at e; cases e
      · rw [← gk b hk]; exact e
    · exact fin s' H' h3 tk3 c _ I' r fS fA (fun b o hb hk e => k3 b o hb ((gk b hk).trans e)) n3 ⟨s'.heap, kA.toList, ali, rfl, told⟩

theorem depth_ints : ∀ ns : List Int, PyData.depthAll (ns.map PyData.int) ≤ 1
  | [] => by simp [PyData.depthAll]
  | n :: ns => by
    have := depth_ints ns
    simp only [List.map_cons, PyData.depthAll, PyData.depth]
    omega
theorem depth_listD (ns : List Int) : (listD ns).depth ≤ 2 := by
  have := depth_ints ns
  simp only [listD, PyData.depth]
  omega
/-- **sorted(xs, key=f)**, f's answers new lists of whole numbers, all as long as each other -/
theorem sorted_lists {β : Type} {R : Hp → Hp → Prop} (kp : Keep R) {H : Hp} {s : Shared} {a0 f : Addr} {xs : List V} {bs : List β} {k : β → List Int} {m : Nat} {Q : VK} {sp : List V → Hp → VK → Prop} {Rl : V → β → Prop}
    (I : Inv X pins σ H s) (hl : SqL X.K H a0 xs) (ea : PySem.W.EachIs Rl xs bs) (hm : ∀ y ∈ bs, (k y).length = m) (hu : X.A.units + 100 < cLine)
    (run : RunIn X pins σ R H f sp)
    (turn : ∀ (i : Nat) (x : V) (y : β) (H' : Hp) (Q' : VK), xs[i]? = some x → bs[i]? = some y → R H H' →
      (∀ H2 p, R H' H2 → H' p = none → H2 p = some (.lst ((k y).map V.int)) → Q' (.ref p) H2) → sp [x] H' Q')
    (fin : ∀ (H' : Hp) (p : Addr) (zs : List V), R H H' → H p = none → H' p = some (.lst zs) → PySem.W.EachIs Rl zs (bs.mergeSort (PySem.W.dataLe false fun y => listD (k y))) → Q (.ref p) H') :
    wpAny (model X.prog X.w) X.A (call (.builtin "sorted") [.ref a0] [(Str.ofString "key", .ref f)]) (EP X pins σ Q) X.xe s := by
  obtain ⟨vs, rv, hpl, line⟩ := I.list hl
  have lenx := ea.length
  have linev : vs.length ≤ sizeLine := by rw [← rv.length]; exact line
  refine PySem.W.sorted_of_sort hpl.isList linev (ksk_s1 _ _) (fun x => ksk_l1 _ _) fun E' => ?_
  rw [ksk_t1]
  have c_old : ∀ b o, s.heap.get? b = some o → (PySem.W.copyHeap s.heap vs).get? b = some o := fun b o q => PySem.W.copyHeap_old q
  generalize hc : PySem.W.copyHeap s.heap vs = ch at *
  have at1 : ch.get? (s.heap.objs.size + 1) = some (seqObj "list" vs.toArray 0) := by rw [← hc]; exact PySem.W.copyHeap_at s.heap vs
  have lt1 : s.heap.objs.size + 1 < ch.objs.size := Heap.lt_size at1
  obtain ⟨e1, at2⟩ : ∃ e1, (ch.update (s.heap.objs.size + 1) (Obj.mapSeq fun _ => (#[] : Array Value))).get? (s.heap.objs.size + 1) = some (seqObj "list" #[] e1) := ⟨_, get?_update_seq at1 fun _ => #[]⟩
  unfold ksk_tree
  refine wpAny_bind (listItems_at at1 rfl ?_)
  refine wpAny_bind (listUpdate_at at1 rfl ?_ (by rw [List.size_toArray]; exact linev) (Nat.zero_le _))
  refine wpAny_bind (seqEpoch_at at2 rfl ?_)
  refine wpAny_bind (wpAny_newTuple ?_ linev)
  refine wpAny_bind (wpAny_newList ?_ (Nat.zero_le _))
  refine wpAny_holding ?_
  have big : ((ch.update (s.heap.objs.size + 1) (Obj.mapSeq fun _ => (#[] : Array Value))).push (seqObj "tuple" vs.toArray 0)).objs.size = ch.objs.size + 1 := by rw [size_push', Heap.size_update]
  have old : ∀ b o, s.heap.get? b = some o → (((ch.update (s.heap.objs.size + 1) (Obj.mapSeq fun _ => (#[] : Array Value))).push (seqObj "tuple" vs.toArray 0)).push (seqObj "list" #[] 0)).get? b = some o := fun b o e =>
    PySem.W.sortingHeap_old (Nat.ne_of_lt (Nat.lt_succ_of_lt (Heap.lt_size e))) (c_old b o e)
  have I1 : Inv X pins σ H { s with heap := ((ch.update (s.heap.objs.size + 1) (Obj.mapSeq fun _ => (#[] : Array Value))).push (seqObj "tuple" vs.toArray 0)).push (seqObj "list" #[] 0) } := I.kept (t' := s.toks) old
  have nA : Nobody X pins (s.heap.objs.size + 1) := nobody_of I (Nat.le_succ _)
  have fA : H (s.heap.objs.size + 1) = none := I.hok.fresh (Nat.le_succ _)
  have geS : s.heap.objs.size ≤ ((ch.update (s.heap.objs.size + 1) (Obj.mapSeq fun _ => (#[] : Array Value))).push (seqObj "tuple" vs.toArray 0)).objs.size := by
    rw [big]; exact Nat.le_of_lt (Nat.lt_succ_of_lt (Nat.lt_of_succ_lt lt1))
  have nS := nobody_of I geS
  have fS := I.hok.fresh geS
  refine keyI_rest kp (sp := sp) (f := f) (bs := bs) (k := k) (m := m) (xs := xs) I1 nS nA fS fA (fun z => Nat.ne_of_gt (Nat.lt_succ_of_lt lt1) (big.symm.trans z)) (Heap.get?_push_size _ rfl)
    (Heap.get?_push_of_some _ (Heap.get?_push_of_some _ at2)) rv lenx line hm (fun y hy => ?_) run turn (fun s' H' h3 tk c out I' r fS' fA' kept atA ko => ⟨rfl, ?_⟩)
  · have := depth_listD (k y)
    show X.A.units + 1 + 1 + _ < _
    omega
  · have lenv : vs.length = bs.length := by rw [← rv.length]; exact lenx
    have eo : PySem.W.EachIs (fun v y => ∃ x, RelV x v ∧ Rl x y) out (bs.mergeSort (PySem.W.dataLe false fun y => listD (k y))) := by
      exact PySem.W.keyedOut_each (fun y => listD (k y)) ko (each_vals rv ea)
    obtain ⟨zs, hz1, hz2⟩ : ∃ zs, Vals zs out ∧ PySem.W.EachIs Rl zs (bs.mergeSort (PySem.W.dataLe false fun y => listD (k y))) := vals_each eo
    have zl : zs.length ≤ sizeLine := by
      rw [hz1.length, ko.length (by rw [List.length_map]; exact lenv.symm)]; exact linev
    have J : Inv X pins σ (upd H' (s.heap.objs.size + 1) (.lst zs)) { s' with heap := h3, toks := tk } := by
      refine inv_nobody (ch := [s.heap.objs.size + 1, ((ch.update (s.heap.objs.size + 1) (Obj.mapSeq fun _ => (#[] : Array Value))).push (seqObj "tuple" vs.toArray 0)).objs.size]) I' ?_ ?_ ?_ ?_
      · intro c' hc'
        rcases List.mem_cons.mp hc' with rfl | hc'
        · exact ⟨nA, fA'⟩
        · rw [List.mem_singleton.mp hc']; exact ⟨nS, fS'⟩
      · intro b o hb e
        exact kept b o (fun z => hb (by simp [z])) (fun z => hb (by simp [z])) e
      · intro b hb
        exact upd_ne (fun z => hb (by simp [z]))
      · intro c' hc' u hu
        rcases List.mem_cons.mp hc' with rfl | hc'
        · rw [upd_same] at hu
          cases hu
          exact ⟨zl, out, c, hz1, atA⟩
        · rw [List.mem_singleton.mp hc', upd_ne (fun z => Nat.ne_of_gt (Nat.lt_succ_of_lt lt1) (big.symm.trans z)), fS'] at hu
          cases hu
    exact ⟨.ref _, _, J, rfl, fin _ _ zs (kp.put r fA (.inl fA')) fA upd_same hz2⟩
end
end Np
end
section
set_option maxRecDepth 100000
set_option maxHeartbeats 2000000
namespace Np
open PySem PySem.Spec PyProof.Rows L2 LamX NdefX
section
variable {X : Cx} {pins : List (Addr × Obj)} {σ : L2.St}
theorem KpT.lam {T : List (Addr × Str)} {H H' : Hp} {f : Addr} {F : NF} {b : Expr} (r : KpT T H H') (h : H f = some (LamO f F b)) : H' f = some (LamO f F b) := r.ext _ _ h lamO_ne
theorem KpT.code {T : List (Addr × Str)} {H H' : Hp} {c : Addr} {q : Str} (r : KpT T H H') (h : H c = some (CodeO c q)) : H' c = some (CodeO c q) := r.ext _ _ h codeO_ne
/-- a lambda may be called from within a built-in -/
theorem run_lam {T : List (Addr × Str)} {H : Hp} {k : Nat} {f : Addr} {F : NF} {b : Expr} {ps fr : List Str} {js : List Nat} {sp : List (Option V) → Sp} (Fn : LOk X.prog X.w X.K X.mg X.base k f F b ps fr sp) (hr : Room k X.A.in1.in1)
    (cp : X.Ok → Caps X F.cl fr js) (hf : H f = some (LamO f F b)) (hc : H F.c = some (CodeO F.c F.qual)) :
    RunIn X pins σ (KpT T) H f (fun vs H' Q => sp (js.map (slotAt σ)) vs H' Q E0) := fun s H' us vs Q I r rv q =>
  Fn.run _ _ s H' us vs _ Q E0 hr I.env0.in1.in1 (r.lam hf) (r.code hc) (cells_of I (cp I.ok)) rv q
/-- a built-in called with keywords, where the slots matter -/
theorem pe_callKs {x : Str} {id : String} {ks : List Str} {e : Expr} {es : List Expr} {kws : List Keyword} {t tk : TA} {p pos : Pos} {r : L2.St → List V → List V → Hp → VK → Prop}
    (hc : ∀ (pins : List (Addr × Obj)) (s : Shared) (σ : L2.St) (H : Hp) (xs zs : List V) (us ws : List Value) (Q : VK), Inv X pins σ H s → Vals xs us → Vals zs ws → r σ xs zs H Q →
      wpAny (model X.prog X.w) X.A (call (.builtin id) us (ks.zip ws)) (EP X pins σ Q) X.xe s)
    (hg : Gl X x) (hm : X.mg x = none) (hv : bootBuiltins x = some (.builtin id)) (ha : PA X (e :: es) t) (hk : PK X kws tk) (hn : x ≠ "__name__" := by decide) (hdb : (x == ("__debug__" : Str)) = false := by decide)
    (he : backTo pos (starEach (e :: es) X.env) = (false, eval e X.env) :: backTo pos (starEach es X.env) := by rfl) (hpl : (backTo pos (starEach (e :: es) X.env)).any (·.1) = false := by rfl)
    (hall : (backToKw pos (keywordEach kws X.env)).all (·.1.isSome) = true := by rfl) (hno : (backToKw pos (keywordEach kws X.env)).any (·.1.isNone) = false := by rfl) (hks : (backToKw pos (keywordEach kws X.env)).filterMap (·.1) = ks := by rfl) :
    PE X (.Call (.Name x p) (e :: es) kws pos) (fun σ H Q => t σ H fun vs H1 => tk σ H1 fun zs H2 => r σ vs zs H2 Q) := by
  refine ⟨fun pins s σ H Q I h => wpAny_Call_Name_kw (ld_blt I hg hm hv ?_ hn hdb)⟩
  refine PyProof.Rows.callWith_kw (thn (ha.run pos pins s σ H _ I h) fun us s1 ⟨vs, H1, I1, r1, q1⟩ => ?_) he hpl hall hno
  refine thn (hk.run pos pins s1 σ H1 _ I1 q1) fun ws s2 ⟨zs, H2, I2, r2, q2⟩ => ?_
  rw [hks]
  exact hc pins s2 σ H2 vs zs us ws Q I2 r1 r2 q2
/-- what sorted(xs, key=a lambda) asks, behind its arguments -/
def rSortL (K : PySem.W.Frag) (T : List (Addr × Str)) (mk : Addr → NF) (b : Expr) (js : List Nat) (sp : List (Option V) → Sp) (σ : L2.St) : List V → List V → Hp → VK → Prop := fun vs zs H Q =>
  ∃ (a0 f c' : Addr) (xs : List V) (bs : List (List Int)) (k : List Int → List Int) (m : Nat) (Rl : V → List Int → Prop), vs = [.ref a0] ∧ zs = [.ref f] ∧ SqL K H a0 xs ∧
    H f = some (LamO f (mk c') b) ∧ H (mk c').c = some (CodeO (mk c').c (mk c').qual) ∧ PySem.W.EachIs Rl xs bs ∧ (∀ y ∈ bs, (k y).length = m) ∧
    (∀ (i : Nat) (x : V) (y : List Int) (H' : Hp) (Q' : VK), xs[i]? = some x → bs[i]? = some y → KpT T H H' →
      (∀ H2 p, KpT T H' H2 → H' p = none → H2 p = some (.lst ((k y).map V.int)) → Q' (.ref p) H2) → sp (js.map (slotAt σ)) [x] H' Q' E0) ∧
    (∀ (H' : Hp) (p : Addr) (zs : List V), KpT T H H' → H p = none → H' p = some (.lst zs) → PySem.W.EachIs Rl zs (bs.mergeSort (PySem.W.dataLe false fun y => listD (k y))) → Q (.ref p) H')
theorem pe_sortL {T : List (Addr × Str)} {mk : Addr → NF} {b e lam : Expr} {js : List Nat} {sp : List (Option V) → Sp} {k : Nat} {ps fr : List Str} {cl : List (Str × Addr)} {ta : TA} {tl : TE} {p pos kpos : Pos}
    (Fn : ∀ f c', LOk X.prog X.w X.K X.mg X.base k f (mk c') b ps fr sp) (hcl : ∀ c', (mk c').cl = cl) (hr : Room (k + 2) X.A) (cp : X.Ok → Caps X cl fr js)
    (hg : Gl X "sorted") (hm : X.mg "sorted" = none) (ha : PA X [e] ta) (hl : PE X lam tl)
    (h1 : backTo pos (starEach [e] X.env) = (false, eval e X.env) :: backTo pos (starEach [] X.env) := by rfl) (h2 : (backTo pos (starEach [e] X.env)).any (·.1) = false := by rfl) :
    PE X (.Call (.Name "sorted" p) [e] [⟨some "key", lam, kpos⟩] pos)
      (fun σ H Q => ta σ H fun vs H1 => tCons tl tNil σ H1 fun zs H2 => rSortL X.K T mk b js sp σ vs zs H2 Q) := by
  refine pe_callKs (id := "sorted") (ks := [Str.ofString "key"]) (r := rSortL X.K T mk b js sp) ?_ hg hm (by decide +kernel) ha (pk_cons hl pk_nil) (by decide) (by decide) h1 h2
  intro pins s σ H vs zs us ws Q I rv rz h
  obtain ⟨a0, f, c', xs, bs, kk, m, Rl, rfl, rfl, hs, hf, hc, ea, hm', turn, fin⟩ := h
  obtain rfl := Vals.ref1 rv
  obtain rfl := Vals.ref1 rz
  refine sorted_lists (keep_tabs T) (m := m) (sp := fun vs H' Q => sp (js.map (slotAt σ)) vs H' Q E0) I hs ea hm' (by have := hr.un; omega) ?_ turn fin
  exact run_lam (Fn f c') (Room.in1 (Room.in1 hr)) (fun ok => by rw [hcl]; exact cp ok) hf hc
end
end Np
end
section
set_option maxRecDepth 100000
set_option maxHeartbeats 2000000
/-! max(xs, key=f) as a rule of the hand layer. -/
namespace Np
open PySem PySem.Spec PyProof.Rows L2 LamX NdefX
section
variable {X : Cx} {pins : List (Addr × Obj)} {σ : L2.St}
/-- how f may be called from within one built-in -/
def RunIn1 (X : Cx) (pins : List (Addr × Obj)) (σ : L2.St) (R : Hp → Hp → Prop) (H : Hp) (f : Addr) (sp : List V → Hp → VK → Prop) : Prop :=
  ∀ (s : Shared) (H' : Hp) (us : List Value) (vs : List V) (Q : VK), Inv X pins σ H' s → R H H' → Vals vs us → sp vs H' Q →
    codeAny (model X.prog X.w) X.A.in1 (.call (.ref f) ⟨us, []⟩) (CR CX0 X.stack X.prog X.w H' s Q E0) s
/-- i is the first of the greatest up to j -/
def Best (kf : Nat → Int) (i j : Nat) : Prop := i ≤ j ∧ ∀ j', j' ≤ j → kf j' ≤ kf i ∧ (j' < i → kf j' < kf i)
theorem maxI_loop {R : Hp → Hp → Prop} (kp : Keep R) {H : Hp} {l f I S : Addr} {xs : List V} {kf : Nat → Int} {Rr : Result → Shared → Prop} {sp : List V → Hp → VK → Prop}
    (hl : SqL X.K H l xs) (nI : Nobody X pins I) (nS : Nobody X pins S) (hlI : l ≠ I) (hSI : S ≠ I) (hh : X.A.handled = none)
    (run : RunIn1 X pins σ R H f sp)
    (turn : ∀ (i : Nat) (x : V) (H' : Hp) (Q' : VK), xs[i]? = some x → R H H' → (∀ H2, R H' H2 → Q' (.int (kf i)) H2) → sp [x] H' Q')
    (fin : ∀ (i : Nat) (x : V) (v : Value) (s' : Shared) (H' : Hp), xs[i]? = some x → RelV x v → Best kf i (xs.length - 1) → Inv X pins σ H' s' → R H H' → Rr (.ok (.ret v)) s') :
    ∀ (r j i : Nat) (s' : Shared) (H' : Hp) (x : V) (vb : Value) (tb : Tok) (c : Nat), xs.length - (j + 1) = r → j + 1 ≤ xs.length → Inv X pins σ H' s' → R H H' → H' I = none → H' S = none →
      s'.heap.get? S = some (seqObj "list" #[vb, .int (kf i) tb] c) → s'.heap.IsListIter I l (j + 1) → xs[i]? = some x → RelV x vb → Best kf i j →
      codeAny (model X.prog X.w) X.A (.builtin "max.loop" ⟨[.ref I, .ref f, .ref S], []⟩) Rr s' := by
  have nm : (toString "max" ++ toString ".loop" : String) = "max.loop" := by decide
  intro r
  induction r with
  | zero =>
    intro j i s' H' x vb tb c hr hj J rr fI fS atS hit hx rx best
    obtain ⟨its, rv, hpl, line⟩ := J.list (kp.sq rr hl)
    have sz : its.toArray.size = xs.length := by rw [List.size_toArray, rv.length]
    have W := Walks.list (prog := X.prog) (w := X.w) (A := X.A.in1) hh I l hlI its.toArray
    have hin : j + 1 = xs.length := by omega
    refine codeAny_builtin PySem.F.entry_max_loop ?_
    rw [Around.under_plainId PySem.F.plain_max_loop _]
    show wpAny _ X.A.in1 (seqItems? (.ref S) >>= _) _ _ _
    refine wpAny_bind (wpAny_seqItems atS rfl ?_)
    show wpAny _ X.A.in1 (tryCatch (pyNext (.ref I)) _ >>= _) _ _ _
    refine wpAny_bind (wpAny_tryCatch (W.done _ _ _ ⟨by rw [sz, ← hin]; exact hit, hpl.isList⟩ fun h' tk' kept => ?_))
    have J1 : Inv X pins σ H' { s' with heap := h', toks := tk' } := inv_nobody (ch := [I]) (tk := tk') J (fun c hc => by rw [List.mem_singleton.mp hc]; exact ⟨nI, fI⟩) (fun b o hb e => kept b o hb e) (fun b _ => rfl)
      (fun c hc u hu => by rw [List.mem_singleton.mp hc, fI] at hu; cases hu)
    have atS1 := kept S _ (by simpa using hSI) atS
    have but := Heap.SameBut.update h' S (Obj.mapSeq fun _ => (#[] : Array Value))
    show wpAny _ X.A.in1 (updateSeq S (fun _ => #[]) >>= _) _ _ _
    refine wpAny_bind ?_
    refine wpAny_updateSeq atS1 rfl (wpAny_bind (wpAny_letGo (wpAny_pure ?_)))
    refine fin i x vb _ H' hx rx ?_ (inv_nobody (ch := [S]) (tk := tk') J1 (fun c hc => by rw [List.mem_singleton.mp hc]; exact ⟨nS, fS⟩) (fun b o hb e => (but.2 b (fun z => hb (by simp [z]))).trans e) (fun b _ => rfl)
      (fun c hc u hu => by rw [List.mem_singleton.mp hc, fS] at hu; cases hu)) rr
    rw [show xs.length - 1 = j by omega]; exact best
  | succ r ih =>
    intro j i s' H' x vb tb c hr hj J rr fI fS atS hit hx rx best
    obtain ⟨its, rv, hpl, line⟩ := J.list (kp.sq rr hl)
    have sz : its.toArray.size = xs.length := by rw [List.size_toArray, rv.length]
    have W := Walks.list (prog := X.prog) (w := X.w) (A := X.A.in1) hh I l hlI its.toArray
    have hlt : j + 1 < xs.length := by omega
    refine codeAny_builtin PySem.F.entry_max_loop ?_
    rw [Around.under_plainId PySem.F.plain_max_loop _]
    show wpAny _ X.A.in1 (seqItems? (.ref S) >>= _) _ _ _
    refine wpAny_bind (wpAny_seqItems atS rfl ?_)
    show wpAny _ X.A.in1 (tryCatch (pyNext (.ref I)) _ >>= _) _ _ _
    refine wpAny_bind (wpAny_tryCatch (W.item (j + 1) _ _ _ (by rw [sz]; exact hlt) ⟨hit, hpl.isList⟩ fun v h' tk' hP st kept => ?_))
    have hv : its[j + 1]? = some v := by simpa using hP
    obtain ⟨oI, atI, oc, od⟩ := id st.1
    obtain ⟨y, hy⟩ : ∃ y, xs[j + 1]? = some y := ⟨_, List.getElem?_eq_getElem hlt⟩
    obtain ⟨v', hv', ry⟩ := rv.get hy
    rw [hv] at hv'
    cases hv'
    have J1 : Inv X pins σ H' { s' with heap := h', toks := tk' } := inv_nobody (ch := [I]) (tk := tk') J (fun c hc => by rw [List.mem_singleton.mp hc]; exact ⟨nI, fI⟩) (fun b o hb e => kept b o hb e) (fun b _ => rfl)
      (fun c hc u hu => by rw [List.mem_singleton.mp hc, fI] at hu; cases hu)
    have atS1 := kept S _ (by simpa using hSI) atS
    have go := run { s' with heap := h', toks := tk' } H' [v] [y] (fun u H2 => u = .int (kf (j + 1)) ∧ R H' H2) J1 rr (.cons ry .nil) (turn (j + 1) y H' _ hy rr (fun H2 r2 => ⟨rfl, r2⟩))
    show wpAny _ X.A.in1 (tryCatch (holding [v] (call (.ref f) [v])) _ >>= _) _ _ _
    refine wpAny_bind (wpAny_tryCatch (wpAny_holding (wpAny_call (codeAny_mono go fun res s2 hq => ?_))))
    cases res with
    | error e => exact False.elim hq
    | ok fl =>
      cases fl with
      | next => exact False.elim hq
      | brk => exact False.elim hq
      | cont => exact False.elim hq
      | ret u =>
        obtain ⟨w', H2, os, bare, un, hok, ru, rfl, r2⟩ := hq
        obtain ⟨hh2, gg, dd, tt, os'⟩ := s2
        obtain rfl : os' = s'.os := os
        have J2 := J1.call (h' := hh2) (g' := gg) (d' := dd) (t' := tt) (ch := []) un hok bare (fun b z => absurd z (by simp))
        obtain ⟨t2, rfl⟩ : ∃ t2, u = .int (kf (j + 1)) t2 := ru
        have atS2 : hh2.get? S = some (seqObj "list" #[vb, .int (kf i) tb] c) := un.keep S _ atS1 fS (nS.stack J1) (by simp)
        have atI2 : hh2.get? I = some oI := un.keep I _ atI fI (nI.stack J1) (by simp)
        have fI2 : H2 I = none := un.free I _ atI fI (by simp)
        have fS2 : H2 S = none := un.free S _ atS1 fS (by simp)
        have rr2 := kp.trans rr r2
        show wpAny _ X.A.in1 (tryCatch (holding [v, .int (kf (j + 1)) t2] (richCompare .Gt (.int (kf (j + 1)) t2) (.int (kf i) tb) >>= _)) _ >>= _) _ _ _
        refine wpAny_bind (wpAny_tryCatch (wpAny_holding (wpAny_bind (CmpOf.ints_gt (prog := X.prog) (w := X.w) (A := X.A.in1) (P := fun i v => ∃ t, v = .int (kf i) t) kf (fun i v h => h) (j + 1) i _ _ _ _ _ ⟨t2, rfl⟩ ⟨tb, rfl⟩ ?_))))
        refine wpAny_bind (wpAny_holding (wpAny_truthy_bool ?_))
        refine wpAny_bind (wpAny_letGo (wpAny_pure ?_))
        by_cases gt : kf (j + 1) > kf i
        · have but := Heap.SameBut.update hh2 S (Obj.mapSeq fun _ => #[v, .int (kf (j + 1)) t2])
          obtain ⟨c2, atS3⟩ : ∃ c2, (hh2.update S (Obj.mapSeq fun _ => #[v, .int (kf (j + 1)) t2])).get? S = some (seqObj "list" #[v, .int (kf (j + 1)) t2] c2) := ⟨_, get?_update_seq atS2 fun _ => #[v, .int (kf (j + 1)) t2]⟩
          simp only [gt, decide_true, if_true]
          refine wpAny_bind ?_
          refine wpAny_updateSeq atS2 rfl (wpAny_bind (wpAny_letGo ?_))
          rw [nm]
          refine wpAny_pure ⟨plainId_quiet PySem.F.plain_max_loop _, ih (j + 1) (j + 1) _ H2 y v t2 c2 (by omega) (by omega) ?_ rr2 fI2 fS2 atS3 ⟨oI, (but.2 I hSI.symm).trans atI2, oc, od⟩ hy ry ⟨Nat.le_refl _, fun j' hj' => ?_⟩⟩
          · exact inv_nobody (ch := [S]) (tk := tt) J2 (fun c hc => by rw [List.mem_singleton.mp hc]; exact ⟨nS, fS2⟩) (fun b o hb e => (but.2 b (fun z => hb (by simp [z]))).trans e) (fun b _ => rfl)
              (fun c hc u hu => by rw [List.mem_singleton.mp hc, fS2] at hu; cases hu)
          · by_cases e : j' = j + 1
            · subst e; exact ⟨Int.le_refl _, fun z => absurd z (Nat.lt_irrefl _)⟩
            · have := (best.2 j' (by omega)).1
              exact ⟨by omega, fun _ => by omega⟩
        · simp only [gt, decide_false, Bool.false_eq_true, if_false]
          refine wpAny_bind (wpAny_letGo ?_)
          rw [nm]
          refine wpAny_pure ⟨plainId_quiet PySem.F.plain_max_loop _, ih (j + 1) i _ H2 x vb tb c (by omega) (by omega) J2 rr2 fI2 fS2 atS2 ⟨oI, atI2, oc, od⟩ hx rx ⟨by have := best.1; omega, fun j' hj' => ?_⟩⟩
          by_cases e : j' = j + 1
          · subst e; exact ⟨by omega, fun z => by have := best.1; omega⟩
          · exact best.2 j' (by omega)

/-- **max(xs, key=f)**, f's answers whole numbers -/
theorem max_key {R : Hp → Hp → Prop} (kp : Keep R) {H : Hp} {s : Shared} {l f : Addr} {xs : List V} {kf : Nat → Int} {Q : VK} {sp : List V → Hp → VK → Prop}
    (J : Inv X pins σ H s) (hl : SqL X.K H l xs) (hne : 0 < xs.length) (hh : X.A.handled = none) (run : RunIn1 X pins σ R H f sp)
    (turn : ∀ (i : Nat) (x : V) (H' : Hp) (Q' : VK), xs[i]? = some x → R H H' → (∀ H2, R H' H2 → Q' (.int (kf i)) H2) → sp [x] H' Q')
    (fin : ∀ (i : Nat) (x : V) (H' : Hp), xs[i]? = some x → Best kf i (xs.length - 1) → R H H' → Q x H') :
    wpAny (model X.prog X.w) X.A (call (.builtin "max") [.ref l] [(Str.ofString "key", .ref f)]) (EP X pins σ Q) X.xe s := by
  have nm : (toString "max" ++ toString ".loop" : String) = "max.loop" := by decide
  obtain ⟨its, rv, hpl, line⟩ := J.list hl
  obtain ⟨ol, atl, _⟩ := id hpl
  have ltl : l < s.heap.objs.size := Heap.lt_size hpl.choose_spec.choose_spec.1
  refine kmk_tree PySem.F.kind_max PySem.F.plain_max PySem.F.entry_max (kmk_max_key _ _) ?_
  show wpAny _ X.A.in1 (Builtin.Builtins.bindParams "max" ["key", "default"] 0 ⟨[], [(Str.ofString "key", .ref f)]⟩ >>= _) _ _ s
  refine wpAny_bind (wpAny_of_eq (show Builtin.Builtins.bindParams "max" ["key", "default"] 0 ⟨[], [(Str.ofString "key", .ref f)]⟩ = pure [some (.ref f), none] from rfl) ?_)
  refine wpAny_bind (wpAny_pure ?_)
  refine wpAny_bind (wpAny_pyIter_list hpl.isList ?_)
  refine wpAny_bind (wpAny_newList ?_ (Nat.zero_le _))
  rw [nm]
  generalize hP : s.heap.push { cls := .type "list_iterator", data := .fields #[.ref l, .int 0 0] } = h1
  have sz1 : h1.objs.size = s.heap.objs.size + 1 := by rw [← hP]; exact size_push' ..
  have old : ∀ b o, s.heap.get? b = some o → (h1.push (seqObj "list" #[] 0)).get? b = some o := fun b o e => Heap.get?_push_of_some _ (by rw [← hP]; exact Heap.get?_push_of_some _ e)
  have J1 : Inv X pins σ H { s with heap := h1.push (seqObj "list" #[] 0) } := J.kept (t' := s.toks) old
  have nI : Nobody X pins s.heap.objs.size := nobody_of J (Nat.le_refl _)
  have fI : H s.heap.objs.size = none := J.hok.fresh (Nat.le_refl _)
  have geS : s.heap.objs.size ≤ h1.objs.size := by rw [sz1]; exact Nat.le_succ _
  have nS : Nobody X pins h1.objs.size := nobody_of J geS
  have fS : H h1.objs.size = none := J.hok.fresh geS
  have hlI : l ≠ s.heap.objs.size := Nat.ne_of_lt ltl
  have hSI : h1.objs.size ≠ s.heap.objs.size := by rw [sz1]; exact Nat.ne_of_gt (Nat.lt_succ_self _)
  have gI : (h1.push (seqObj "list" #[] 0)).get? s.heap.objs.size = some { cls := .type "list_iterator", data := .fields #[.ref l, .int 0 0] } := Heap.get?_push_of_some _ (by rw [← hP]; exact Heap.get?_push_size _ rfl)
  have gS : (h1.push (seqObj "list" #[] 0)).get? h1.objs.size = some (seqObj "list" #[] 0) := Heap.get?_push_size _ rfl
  refine wpAny_pure ⟨plainId_quiet PySem.F.plain_max_loop _, ?_⟩
  obtain ⟨its1, rv1, hpl1, _⟩ := J1.list hl
  have szi : its1.toArray.size = xs.length := by rw [List.size_toArray, rv1.length]
  have W := Walks.list (prog := X.prog) (w := X.w) (A := X.A.in1) hh s.heap.objs.size l hlI its1.toArray
  refine codeAny_builtin PySem.F.entry_max_loop ?_
  rw [Around.under_plainId PySem.F.plain_max_loop _]
  show wpAny _ X.A.in1 (seqItems? (.ref _) >>= _) _ _ _
  refine wpAny_bind (wpAny_seqItems gS rfl ?_)
  show wpAny _ X.A.in1 (tryCatch (pyNext (.ref s.heap.objs.size)) _ >>= _) _ _ _
  refine wpAny_bind (wpAny_tryCatch (W.item 0 _ _ _ (by rw [szi]; exact hne) ⟨⟨_, gI, rfl, rfl⟩, hpl1.isList⟩ fun v h' tk' hPv st kept => ?_))
  have hv : its1[0]? = some v := by simpa using hPv
  obtain ⟨oI, atI, oc, od⟩ := id st.1
  obtain ⟨y, hy⟩ : ∃ y, xs[0]? = some y := ⟨_, List.getElem?_eq_getElem hne⟩
  obtain ⟨v', hv', ry⟩ := rv1.get hy
  rw [hv] at hv'
  cases hv'
  have J2 : Inv X pins σ H { s with heap := h', toks := tk' } := inv_nobody (ch := [s.heap.objs.size]) (tk := tk') J1 (fun c hc => by rw [List.mem_singleton.mp hc]; exact ⟨nI, fI⟩) (fun b o hb e => kept b o hb e) (fun b _ => rfl)
    (fun c hc u hu => by rw [List.mem_singleton.mp hc, fI] at hu; cases hu)
  have atS1 := kept _ _ (by simpa using hSI) gS
  have go := run { s with heap := h', toks := tk' } H [v] [y] (fun u H2 => u = .int (kf 0) ∧ R H H2) J2 (kp.refl H) (.cons ry .nil) (turn 0 y H _ hy (kp.refl H) (fun H2 r2 => ⟨rfl, r2⟩))
  show wpAny _ X.A.in1 (tryCatch (holding [v] (call (.ref f) [v])) _ >>= _) _ _ _
  refine wpAny_bind (wpAny_tryCatch (wpAny_holding (wpAny_call (codeAny_mono go fun res s2 hq => ?_))))
  cases res with
  | error e => exact False.elim hq
  | ok fl =>
    cases fl with
    | next => exact False.elim hq
    | brk => exact False.elim hq
    | cont => exact False.elim hq
    | ret u =>
      obtain ⟨w', H2, os, bare, un, hok, ru, rfl, r2⟩ := hq
      obtain ⟨hh2, gg, dd, tt, os'⟩ := s2
      obtain rfl : os' = s.os := os
      have J3 := J2.call (h' := hh2) (g' := gg) (d' := dd) (t' := tt) (ch := []) un hok bare (fun b z => absurd z (by simp))
      obtain ⟨t2, rfl⟩ : ∃ t2, u = .int (kf 0) t2 := ru
      have atS2 : hh2.get? h1.objs.size = some (seqObj "list" #[] 0) := un.keep _ _ atS1 fS (nS.stack J2) (by simp)
      have atI2 : hh2.get? s.heap.objs.size = some oI := un.keep _ _ atI fI (nI.stack J2) (by simp)
      have fI2 := un.free _ _ atI fI (by simp)
      have fS2 := un.free _ _ atS1 fS (by simp)
      have but := Heap.SameBut.update hh2 h1.objs.size (Obj.mapSeq fun _ => #[v, .int (kf 0) t2])
      obtain ⟨c2, atS3⟩ : ∃ c2, (hh2.update h1.objs.size (Obj.mapSeq fun _ => #[v, .int (kf 0) t2])).get? h1.objs.size = some (seqObj "list" #[v, .int (kf 0) t2] c2) := ⟨_, get?_update_seq atS2 fun _ => #[v, .int (kf 0) t2]⟩
      show wpAny _ X.A.in1 (updateSeq h1.objs.size (fun _ => #[v, .int (kf 0) t2]) >>= _) _ _ _
      refine wpAny_bind ?_
      refine wpAny_updateSeq atS2 rfl ?_
      rw [nm]
      refine wpAny_pure ⟨plainId_quiet PySem.F.plain_max_loop _, maxI_loop kp hl nI nS hlI hSI hh run turn (fun i x v s' H' hx rx b J' r => ⟨x, H', J', rx, fin i x H' hx b r⟩) _ 0 0 _ H2 y v t2 c2 rfl hne ?_ r2 fI2 fS2 atS3 ⟨oI, (but.2 _ hSI.symm).trans atI2, oc, od⟩ hy ry ⟨Nat.le_refl _, fun j' hj' => ?_⟩⟩
      · exact inv_nobody (ch := [h1.objs.size]) (tk := tt) J3 (fun c hc => by rw [List.mem_singleton.mp hc]; exact ⟨nS, fS2⟩) (fun b o hb e => (but.2 b (fun z => hb (by simp [z]))).trans e) (fun b _ => rfl)
          (fun c hc u hu => by rw [List.mem_singleton.mp hc, fS2] at hu; cases hu)
      · obtain rfl : j' = 0 := by omega
        exact ⟨Int.le_refl _, fun z => absurd z (Nat.lt_irrefl _)⟩

/-- what max(xs, key=a lambda) asks, behind its arguments -/
def rMaxL (K : PySem.W.Frag) (T : List (Addr × Str)) (mk : Addr → NF) (b : Expr) (js : List Nat) (sp : List (Option V) → Sp) (σ : L2.St) : List V → List V → Hp → VK → Prop := fun vs zs H Q =>
  ∃ (l f c' : Addr) (xs : List V) (kf : Nat → Int), vs = [.ref l] ∧ zs = [.ref f] ∧ SqL K H l xs ∧ 0 < xs.length ∧ H f = some (LamO f (mk c') b) ∧ H (mk c').c = some (CodeO (mk c').c (mk c').qual) ∧
    (∀ (i : Nat) (x : V) (H' : Hp) (Q' : VK), xs[i]? = some x → KpT T H H' → (∀ H2, KpT T H' H2 → Q' (.int (kf i)) H2) → sp (js.map (slotAt σ)) [x] H' Q' E0) ∧
    (∀ (i : Nat) (x : V) (H' : Hp), xs[i]? = some x → Best kf i (xs.length - 1) → KpT T H H' → Q x H')
theorem pe_maxL {T : List (Addr × Str)} {mk : Addr → NF} {b e lam : Expr} {js : List Nat} {sp : List (Option V) → Sp} {k : Nat} {ps fr : List Str} {cl : List (Str × Addr)} {ta : TA} {tl : TE} {p pos kpos : Pos}
    (Fn : ∀ f c', LOk X.prog X.w X.K X.mg X.base k f (mk c') b ps fr sp) (hcl : ∀ c', (mk c').cl = cl) (hr : Room (k + 1) X.A) (cp : X.Ok → Caps X cl fr js)
    (hg : Gl X "max") (hm : X.mg "max" = none) (ha : PA X [e] ta) (hl : PE X lam tl)
    (h1 : backTo pos (starEach [e] X.env) = (false, eval e X.env) :: backTo pos (starEach [] X.env) := by rfl) (h2 : (backTo pos (starEach [e] X.env)).any (·.1) = false := by rfl) :
    PE X (.Call (.Name "max" p) [e] [⟨some "key", lam, kpos⟩] pos)
      (fun σ H Q => ta σ H fun vs H1 => tCons tl tNil σ H1 fun zs H2 => rMaxL X.K T mk b js sp σ vs zs H2 Q) := by
  refine pe_callKs (id := "max") (ks := [Str.ofString "key"]) (r := rMaxL X.K T mk b js sp) ?_ hg hm (by decide +kernel) ha (pk_cons hl pk_nil) (by decide) (by decide) h1 h2
  intro pins s σ H vs zs us ws Q I rv rz h
  obtain ⟨l, f, c', xs, kf, rfl, rfl, hs, hne, hf, hc, turn, fin⟩ := h
  obtain rfl := Vals.ref1 rv
  obtain rfl := Vals.ref1 rz
  refine max_key (keep_tabs T) (kf := kf) (sp := fun vs H' Q => sp (js.map (slotAt σ)) vs H' Q E0) I hs hne hr.hd ?_ turn fin
  intro s' H' us vs Q' J r rvv q
  exact (Fn f c').run _ _ s' H' us vs _ Q' E0 (Room.in1 hr) J.env0.in1 (r.lam hf) (r.code hc) (cells_of J (by rw [hcl]; exact cp J.ok)) rvv q
end
end Np
end
section
set_option maxRecDepth 100000
set_option maxHeartbeats 2000000
set_option autoImplicit false
/-! The end of a row against a function, where the program's defs make lambdas: their code objects' tables are told of. -/
namespace Np
open PySem PySem.Spec PyProof.Rows L2 LamX
open PySem.W (Codec OpenSpec WData Well WellAll ReadsW ReadsAllW)
mutual
theorem dw_same {K : PySem.W.Frag} {H H' : Hp} (r : Same H H') : ∀ {v : V} {d : WData}, Dw K H v d → Dw K H' v d
  | _, _, .non => .non
  | _, _, .bl b => .bl b
  | _, _, .int i => .int i
  | _, _, .str x => .str x
  | _, _, .byt b => .byt b
  | _, _, .lst h hs => .lst (r.seq h) (dw_sameAll r hs)
  | _, _, .tup h hs => .tup (by
      rcases h with h | h
      · left
        rcases h with h | ⟨o, h⟩
        · exact .inl (r _ _ h)
        · exact .inr ⟨o, r _ _ h⟩
      · exact .inr h) (dw_sameAll r hs)
theorem dw_sameAll {K : PySem.W.Frag} {H H' : Hp} (r : Same H H') : ∀ {vs : List V} {ds : List WData}, DwAll K H vs ds → DwAll K H' vs ds
  | _, _, .nil => .nil
  | _, _, .cons h hs => .cons (dw_same r h) (dw_sameAll r hs)
end
/-- the tables that stand empty behind the top -/
structure TabsAt (K : PySem.W.Frag) (h : Heap) (cs : List (Addr × Addr)) : Prop where
  at_ : ∀ p ∈ cs, h.get? p.2 = some { cls := .none, data := .fields #[] }
  no : ∀ p ∈ cs, K.lookup p.2 = none
  hd : ∀ p ∈ cs, PySem.W.CodeHd h p.1 p.2
theorem spec_callT {P : Program} {w : World} {K : PySem.W.Frag} {mg mb : Str → Option Value} {k : Nat} {fa : Addr} {fd : FuncData} {ps : List Str} {sp : Sp} {s1 : Shared} {vals : List Value} {ds : List WData} {R : PySem.W.WRecords} {cl : Str → Option Addr} {d0 : WData} {cs : List (Addr × Addr)}
    (KX : K.In s1.heap) (hns : s1.heap.Ns mainGlobals mg) (hb : s1.heap.Ns builtinsNs mb) (hbb : ∀ x : Str, x ≠ "__name__" → mb x = bootBuiltins x) (hlim : s1.heap.NoLimit) (hg : s1.gens = #[])
    (T : TabsAt K s1.heap cs)
    (hbm : ∃ (bm : Addr) (ob : Obj), mg "__builtins__" = some (.ref bm) ∧ bm ≠ builtinsNs ∧ s1.heap.get? bm = some ob ∧ ob.cls = .type "module" ∧ ob.dict = some builtinsNs ∧ ob.data = .plain)
    (hwl : WellAll w.params s1.heap vals ds) (hpl : plWs ds = true) (hwt : ∀ d ∈ ds, d.weight ≤ 1048576) (hr : Room k callerA)
    (F : ∀ base : Heap, K.In base → base.Ns mainGlobals mg → (∀ p ∈ cs, TabB base mg p.1 p.2) → FnOk P w K mg base CX0 k fa fd ps sp)
    (hbind : ∀ (s : Shared) (us : List Value), us.length = ps.length → BindsTo s fd ⟨us, []⟩ (ps.zip us)) (hlen : ds.length = ps.length)
    (hsp : ∀ (H : Hp) (xs : List V), (∀ p ∈ cs, H p.2 = some (.tbl #[])) → DwAll K H xs ds → sp xs H (fun v H' => Dw K H' v d0) fun _ _ _ => False) :
    codeAny (model P w) callerA (.call (.ref fa) ⟨vals, []⟩) (fun r s' => ∃ u as, r = .ok (.ret u) ∧ ReadsW R cl s'.heap u d0 as ∧ OldK s1.heap s'.heap ∧ s'.os = s1.os ∧ AllBare s'.gens) s1 := by
  obtain ⟨A, ho, ar⟩ := area_all ds vals hwl hpl hwt
  have tb : ∀ b : Addr, b ∈ cs.map (·.2) → s1.heap.get? b = some { cls := .none, data := .fields #[] } := fun b hb => by
    obtain ⟨p, hp, rfl⟩ := List.mem_map.mp hb
    exact T.at_ p hp
  have argO : ∀ b u, argH K s1.heap A b = some u → K.lookup b = none ∧ ∃ (o : Obj) (vs : List Value), s1.heap.get? b = some o ∧ o.data = .seq vs.toArray 0 := fun b u q => by
    obtain ⟨h1, vs, _, _, ⟨e2, _⟩ | ⟨e2, _⟩⟩ := argH_is ar q
    · exact ⟨h1, _, vs, e2, rfl⟩
    · exact ⟨h1, _, vs, e2, rfl⟩
  have argT : ∀ b u, argH K s1.heap A b = some u → b ∉ cs.map (·.2) := fun b u q z => by
    obtain ⟨_, o, vs, e, d⟩ := argO b u q
    rw [tb b z] at e
    cases e
    cases d
  -- what is tracked: the arguments and the tables
  generalize hH : (fun b => if b ∈ cs.map (·.2) then some (HO.tbl #[]) else argH K s1.heap A b : Hp) = H
  have onT : ∀ b, b ∈ cs.map (·.2) → H b = some (.tbl #[]) := fun b z => by rw [← hH]; exact if_pos z
  have offT : ∀ b, b ∉ cs.map (·.2) → H b = argH K s1.heap A b := fun b z => by rw [← hH]; exact if_neg z
  have sm : Same (argH K s1.heap A) H := fun b u q => by rw [offT b (argT b u q)]; exact q
  have hS : DwAll K H (vals.map toV) ds := dw_sameAll sm (dw_all KX ar ds vals hwl hpl ho)
  have hok : HOk P w H s1.heap := fun b u q => by
    by_cases z : b ∈ cs.map (·.2)
    · rw [onT b z] at q
      cases q
      exact tb b z
    · rw [offT b z] at q
      exact (argH_ok (P := P) (w := w) ar b u q).stay (fun _ _ _ e => e) (fun d e => sm d _ e) (fun d xs e => sm d _ e)
  have kind : ∀ {b : Addr} {o : Obj}, s1.heap.get? b = some o → (∀ vs, o.data ≠ .seq vs 0) → o.data ≠ .fields #[] → H b = none := fun {b o} e n1 n2 => by
    by_cases z : b ∈ cs.map (·.2)
    · rw [tb b z] at e
      cases e
      exact absurd rfl n2
    · rw [offT b z]
      cases q : argH K s1.heap A b with
      | none => rfl
      | some u =>
        obtain ⟨_, o', vs, e', d⟩ := argO b u q
        rw [e] at e'
        cases e'
        exact absurd d (n1 _)
  have hid : ∀ {b : Addr} {o : Obj}, s1.heap.get? b = some o → (∀ vs, o.data ≠ .seq vs 0) → o.data ≠ .fields #[] → (hidT s1.heap H).get? b = some o := fun e n1 n2 => hidT_get e (kind e n1 n2)
  have nsK : ∀ {b : Addr} {m : Str → Option Value}, s1.heap.Ns b m → (hidT s1.heap H).Ns b m := fun {b m} ⟨o, es, ep, e, d, r⟩ =>
    ⟨o, es, ep, hid e (fun vs z => by rw [d] at z; cases z) (fun z => by rw [d] at z; cases z), d, r⟩
  have hKb : K.In (hidT s1.heap H) := fun b o e => hidT_get (KX b o e) (by
    by_cases z : b ∈ cs.map (·.2)
    · obtain ⟨p, hp, rfl⟩ := List.mem_map.mp z
      rw [T.no p hp] at e
      cases e
    · rw [offT b z]
      cases q : argH K s1.heap A b with
      | none => rfl
      | some u => rw [(argO b u q).1] at e; cases e)
  have hM : L2.Mod K mg (hidT s1.heap H) := ⟨hKb, nsK hns, ⟨mb, nsK hb, hbb⟩, let ⟨mc, h1, h2⟩ := hlim; ⟨mc, nsK h1, h2⟩⟩
  have TB : ∀ p ∈ cs, TabB (hidT s1.heap H) mg p.1 p.2 := fun p hp => by
    refine ⟨?_, ?_, fun z => ?_⟩
    · obtain ⟨o, us, file, tf, flags, tg, inF, text, tt, e1, r1, r2, rest⟩ := T.hd p hp
      refine ⟨o, us, file, tf, flags, tg, inF, text, tt, hid e1 (fun vs z => by rw [r2] at z; cases z) (fun z => ?_), r1, r2, rest⟩
      obtain ⟨r3, _⟩ := rest
      rw [r2] at z
      cases z
      simp at r3
    · obtain ⟨bm, ob, b1, b2, b3, b4, b5, b6⟩ := hbm
      refine ⟨bm, ob, b1, b2, fun q => ?_, fun q => ?_, hid b3 (fun vs z => by rw [b6] at z; cases z) (fun z => by rw [b6] at z; cases z), b4, b5, b6⟩
      · obtain ⟨o, es, ep, e, hd, _⟩ := hns
        rw [q, e] at b3
        cases b3
        rw [hd] at b6
        cases b6
      · rw [q, T.at_ p hp] at b3
        cases b3
        cases b6
    · obtain ⟨o, es, ep, e, hd, _⟩ := hns
      rw [z, T.at_ p hp] at e
      cases e
      cases hd
  have e0 : Env0 P w K mg (hidT s1.heap H) callerA [] s1 H := ⟨rfl, hM, fun b o e => of_hidT e, Nat.le_of_eq (hidT_size _ _), trivial, fun b hb => absurd (show b ∈ ([] : List Addr) from hb) (by simp), hok, .of_eq hg⟩
  have hl : vals.length = ps.length := by rw [wellAll_len hwl]; exact hlen
  refine codeAny_mono ((F _ hKb (nsK hns) TB).run callerA [] s1 H ⟨vals, []⟩ vals (vals.map toV) _ _ hr e0 (hbind s1 vals hl) (vals_toV ho) (hsp H _ (fun p hp => onT _ (List.mem_map.mpr ⟨p, hp, rfl⟩)) hS)) fun r s' x => ?_
  cases r with
  | error e => exact False.elim x
  | ok fl =>
    cases fl with
    | next => exact False.elim x
    | brk => exact False.elim x
    | cont => exact False.elim x
    | ret u =>
      obtain ⟨v, H', os, bare, un, hok', r', q⟩ := x
      have kept : ∀ b o, b ∉ cs.map (·.2) → s1.heap.get? b = some o → s'.heap.get? b = some o := fun b o nb e => by
        cases q2 : H b with
        | none => exact un.keep b o e q2 (fun z => absurd (show b ∈ ([] : List Addr) from z) (by simp)) (by simp)
        | some u2 =>
          rw [offT b nb] at q2
          rcases argH_only ar b with z | ⟨ob, u3, z⟩
          · rw [z] at q2; cases q2
          · have z1 : H b = some (.frz ob u3) := (offT b nb).trans z
            obtain ⟨e1, _⟩ := hok b _ z1
            obtain ⟨e2, _⟩ := hok' b _ (un.frzs b ob _ z1)
            rw [e] at e1
            cases e1
            exact e2
      have grown : ∀ p ∈ cs, ∃ more : Array Value, s'.heap.get? p.2 = some { cls := .none, data := .fields more } := fun p hp => by
        obtain ⟨more, z⟩ := un.tbls p.2 #[] (onT _ (List.mem_map.mpr ⟨p, hp, rfl⟩))
        exact ⟨_, hok' p.2 _ z⟩
      have KX' : K.In s'.heap := fun b o e => kept b o (fun z => by
        obtain ⟨p, hp, rfl⟩ := List.mem_map.mp z
        rw [T.no p hp] at e
        cases e) (KX b o e)
      obtain ⟨as, hrd⟩ := Dw.reads (R := R) (cl := cl) hok' KX' d0 v u q r'
      refine ⟨u, as, rfl, hrd, ⟨fun b o e => ?_, fun b o e => ?_⟩, os, bare⟩
      · by_cases hb : b ∈ cs.map (·.2)
        · obtain ⟨p, hp, rfl⟩ := List.mem_map.mp hb
          obtain ⟨more, hm⟩ := grown p hp
          rw [T.at_ p hp] at e
          cases e
          exact .inr (.inl ⟨((T.hd p hp).tab (T.at_ p hp)).isCodeTable, rfl, #[], more, rfl, by rw [Array.empty_append]; exact hm⟩)
        · exact .inl (kept b o hb e)
      · by_cases hb : b ∈ cs.map (·.2)
        · obtain ⟨p, hp, rfl⟩ := List.mem_map.mp hb
          obtain ⟨more, hm⟩ := grown p hp
          exact ⟨_, hm⟩
        · exact ⟨o, kept b o hb e⟩
/-- what is known of the row's def at the heap behind the top -/
def SpecAt (r : OpenSpec) (w : World) (K : PySem.W.Frag) (k : Nat) (ps : List Str) (mg : Str → Option Value) (fa : Addr) (h : Heap) : Prop :=
  ∃ (fd : FuncData) (cs : List (Addr × Addr)) (sp : Sp), TabsAt K h cs ∧ (∀ (s : Shared) (us : List Value), us.length = ps.length → BindsTo s fd ⟨us, []⟩ (ps.zip us)) ∧
    (∀ (H : Hp) (xs : List V) (a : Codec.denoteAll r.args), (∀ p ∈ cs, H p.2 = some (.tbl #[])) → Codec.withinAll r.args a = true → Codec.app r.args r.asked a = true → DwAll K H xs (Codec.encAll r.args a) →
      sp xs H (fun v H' => Dw K H' v (r.ret.enc (Codec.app r.args r.f a))) fun _ _ _ => False) ∧
    ∀ base : Heap, K.In base → base.Ns mainGlobals mg → (∀ p ∈ cs, TabB base mg p.1 p.2) → FnOk r.prog w K mg base CX0 k fa fd ps sp
theorem walk_specT {r : OpenSpec} {k : Nat} {q : Program} {loose : List Str} {XP : (Str → Option Value) → Heap → Prop} {YP : World → Heap → Prop} {d : DefRec} {ps : List Str}
    (hwell : r.wellSaid = true) (hdf : d.params.defaults = []) (hlen : r.args.length = ps.length) (hr : Room k callerA)
    (F : ∀ (w : World) (mg : Str → Option Value) (fa : Addr) (h : Heap), YP w h → h.Ns mainGlobals mg → mg d.name = some (.ref fa) → ∃ K : PySem.W.Frag, K.In h ∧ SpecAt r w K k ps mg fa h) :
    PySem.W.WalkOS q loose XP YP r d [] (fun f vs => PySem.call f vs) := by
  intro w s0 s1 mg mb G Y fa o pm cd doc dV kV ho hd hcd hD hmg hg args vals as hpre hlay hrd hwl hlo
  obtain ⟨a, e1, e2⟩ := PySem.W.os_pre_some hpre
  obtain ⟨e3, hwi⟩ := Codec.encAll_of_decAll r.args args a e1
  subst e3
  obtain ⟨K, KX, fd, cs, sp, T, bi, want, ok⟩ := F w mg fa _ Y G.T.g hmg
  have go := spec_callT (R := []) (cl := classAt s0.heap) (d0 := r.ret.enc (Codec.app r.args r.f a)) KX G.T.g G.T.b G.T.builtins G.T.nolimit hg T G.T.bmain hwl (pl_encAll _ _) (layable_weight hlay) hr ok bi
    (by rw [encAll_len]; exact hlen) (fun H xs hT hS => want H xs a hT hwi e2 hS)
  refine PySem.W.enter_call (codeAny_mono go fun r' s' hq => ?_)
  obtain ⟨u, as', rfl, h1, h2, h3, h4⟩ := hq
  exact ⟨.inl ⟨u, _, as', rfl, fun _ => rfl, h1, (OpenSpec.post_iff hwell hwi _ _).mpr rfl, fun z => Bool.noConfusion (show false = true from z)⟩, h2, h3, h4⟩
end Np
end
section
set_option maxRecDepth 100000
set_option maxHeartbeats 0
namespace NpHead
open PySem PySem.Spec PyProof.Rows L2
def top (i : Nat) : Stmt := PySem.Challenge.pw_nearpoints_s01_answers.main.body.getD i (.Pass ⟨0, 0, 0, 0⟩)
def fnL : List He.DefD := [
  ⟨("dot", none), "dot", "dot", defArgs (top 1), defBody (top 1), defScope (top 1), [], []⟩,
  ⟨("length", none), "length", "length", defArgs (top 2), defBody (top 2), defScope (top 2), [], []⟩,
  ⟨("order", none), "order", "order", defArgs (top 3), defBody (top 3), defScope (top 3), [], []⟩,
  ⟨("is_forward", none), "is_forward", "is_forward", defArgs (top 4), defBody (top 4), defScope (top 4), [], []⟩,
  ⟨("together", none), "together", "together", defArgs (top 5), defBody (top 5), defScope (top 5), [], []⟩,
  ⟨("left_over", none), "left_over", "left_over", defArgs (top 6), defBody (top 6), defScope (top 6), [], []⟩,
  ⟨("cross", none), "cross", "cross", defArgs (top 7), defBody (top 7), defScope (top 7), [], []⟩,
  ⟨("normals", none), "normals", "normals", defArgs (top 8), defBody (top 8), defScope (top 8), [], []⟩,
  ⟨("determinant", none), "determinant", "determinant", defArgs (top 9), defBody (top 9), defScope (top 9), [], []⟩,
  ⟨("times_taken", none), "times_taken", "times_taken", defArgs (top 10), defBody (top 10), defScope (top 10), [], []⟩,
  ⟨("lead_to_the_same", none), "lead_to_the_same", "lead_to_the_same", defArgs (top 11), defBody (top 11), defScope (top 11), [], []⟩,
  ⟨("box", none), "box", "box", defArgs (top 13), defBody (top 13), defScope (top 13), [], []⟩,
  ⟨("longest_taken", none), "longest_taken", "longest_taken", defArgs (top 14), defBody (top 14), defScope (top 14), [], []⟩,
  ⟨("shortened", none), "shortened", "shortened", defArgs (top 15), defBody (top 15), defScope (top 15), [], []⟩,
  ⟨("numbers_near", none), "numbers_near", "numbers_near", defArgs (top 16), defBody (top 16), defScope (top 16), [], []⟩,
  ⟨("times_near", none), "times_near", "times_near", defArgs (top 17), defBody (top 17), defScope (top 17), [], []⟩,
  ⟨("times_up_to", none), "times_up_to", "times_up_to", defArgs (top 18), defBody (top 18), defScope (top 18), [], []⟩,
  ⟨("common_divisor", none), "common_divisor", "common_divisor", defArgs (top 19), defBody (top 19), defScope (top 19), [], []⟩,
  ⟨("content", none), "content", "content", defArgs (top 20), defBody (top 20), defScope (top 20), [], []⟩,
  ⟨("first_fitting", none), "first_fitting", "first_fitting", defArgs (top 21), defBody (top 21), defScope (top 21), [], []⟩,
  ⟨("longest_length", none), "longest_length", "longest_length", defArgs (top 22), defBody (top 22), defScope (top 22), [], []⟩,
  ⟨("shortest_points", none), "shortest_points", "shortest_points", defArgs (top 23), defBody (top 23), defScope (top 23), [], []⟩,
  ⟨("different_lengths", none), "different_lengths", "different_lengths", defArgs (top 24), defBody (top 24), defScope (top 24), [], []⟩,
  ⟨("reduced_steps", none), "reduced_steps", "reduced_steps", defArgs (top 25), defBody (top 25), defScope (top 25), [], []⟩,
  ⟨("point_by_rounding", none), "point_by_rounding", "point_by_rounding", defArgs (top 27), defBody (top 27), defScope (top 27), [], []⟩,
  ⟨("nearest_points", none), "nearest_points", "nearest_points", defArgs (top 28), defBody (top 28), defScope (top 28), [], []⟩,
  ⟨("shortest_beside", none), "shortest_beside", "shortest_beside", defArgs (top 29), defBody (top 29), defScope (top 29), [], []⟩,
  ⟨("wall_points", none), "wall_points", "wall_points", defArgs (top 30), defBody (top 30), defScope (top 30), [], []⟩,
  ⟨("told_numbers", none), "told_numbers", "told_numbers", defArgs (top 38), defBody (top 38), defScope (top 38), [], []⟩,
  ⟨("refusal_of_told", none), "refusal_of_told", "refusal_of_told", defArgs (top 39), defBody (top 39), defScope (top 39), [], []⟩,
  ⟨("told_steps", none), "told_steps", "told_steps", defArgs (top 40), defBody (top 40), defScope (top 40), [], []⟩,
  ⟨("refusal_of_steps", none), "refusal_of_steps", "refusal_of_steps", defArgs (top 41), defBody (top 41), defScope (top 41), [], []⟩,
  ⟨("one_behind_another", none), "one_behind_another", "one_behind_another", defArgs (top 42), defBody (top 42), defScope (top 42), [], []⟩,
  ⟨("StepRow", some "__init__"), "__init__", "StepRow.__init__", defArgs (inClass (top 43) 0), defBody (inClass (top 43) 0), defScope (inClass (top 43) 0), [], []⟩,
  ⟨("StepRow", some "begin"), "begin", "StepRow.begin", defArgs (inClass (top 43) 1), defBody (inClass (top 43) 1), defScope (inClass (top 43) 1), [], []⟩,
  ⟨("StepRow", some "shortest"), "shortest", "StepRow.shortest", defArgs (inClass (top 43) 2), defBody (inClass (top 43) 2), defScope (inClass (top 43) 2), [], []⟩,
  ⟨("StepRow", some "minima"), "minima", "StepRow.minima", defArgs (inClass (top 43) 3), defBody (inClass (top 43) 3), defScope (inClass (top 43) 3), [], []⟩,
  ⟨("StepRow", some "reduced"), "reduced", "StepRow.reduced", defArgs (inClass (top 43) 4), defBody (inClass (top 43) 4), defScope (inClass (top 43) 4), [], []⟩,
  ⟨("StepRow", some "has"), "has", "StepRow.has", defArgs (inClass (top 43) 5), defBody (inClass (top 43) 5), defScope (inClass (top 43) 5), [], []⟩,
  ⟨("StepRow", some "same"), "same", "StepRow.same", defArgs (inClass (top 43) 6), defBody (inClass (top 43) 6), defScope (inClass (top 43) 6), [], []⟩,
  ⟨("StepRow", some "nearest"), "nearest", "StepRow.nearest", defArgs (inClass (top 43) 7), defBody (inClass (top 43) 7), defScope (inClass (top 43) 7), [], []⟩,
  ⟨("StepRow", some "walls"), "walls", "StepRow.walls", defArgs (inClass (top 43) 8), defBody (inClass (top 43) 8), defScope (inClass (top 43) 8), [], []⟩,
  ⟨("StepRow", some "judge"), "judge", "StepRow.judge", defArgs (inClass (top 43) 9), defBody (inClass (top 43) 9), defScope (inClass (top 43) 9), [], []⟩,
  ⟨("Reader", some "__init__"), "__init__", "Reader.__init__", defArgs (inClass (top 55) 0), defBody (inClass (top 55) 0), defScope (inClass (top 55) 0), [], []⟩,
  ⟨("Reader", some "is_done"), "is_done", "Reader.is_done", defArgs (inClass (top 55) 1), defBody (inClass (top 55) 1), defScope (inClass (top 55) 1), [], []⟩,
  ⟨("Reader", some "take_number"), "take_number", "Reader.take_number", defArgs (inClass (top 55) 2), defBody (inClass (top 55) 2), defScope (inClass (top 55) 2), [], []⟩,
  ⟨("Reader", some "take_row"), "take_row", "Reader.take_row", defArgs (inClass (top 55) 3), defBody (inClass (top 55) 3), defScope (inClass (top 55) 3), [], []⟩,
  ⟨("answer_of_next", none), "answer_of_next", "answer_of_next", defArgs (top 56), defBody (top 56), defScope (top 56), [], []⟩,
  ⟨("answers", none), "answers", "answers", defArgs (top 57), defBody (top 57), defScope (top 57), [], []⟩]
def faL : List He.Fa := [.glo "dot", .glo "length", .glo "order", .glo "is_forward", .glo "together", .glo "left_over", .glo "cross", .glo "normals", .glo "determinant", .glo "times_taken", .glo "lead_to_the_same", .glo "box", .glo "longest_taken", .glo "shortened", .glo "numbers_near", .glo "times_near", .glo "times_up_to", .glo "common_divisor", .glo "content", .glo "first_fitting", .glo "longest_length", .glo "shortest_points", .glo "different_lengths", .glo "reduced_steps", .glo "point_by_rounding", .glo "nearest_points", .glo "shortest_beside", .glo "wall_points", .glo "told_numbers", .glo "refusal_of_told", .glo "told_steps", .glo "refusal_of_steps", .glo "one_behind_another", .glo "answer_of_next", .glo "answers", .free "abs", .free "any", .free "enumerate", .free "len", .free "list", .free "max", .free "min", .free "range", .free "sorted", .free "sum", .free "zip", .int "WRONG_NUMBER" (-1), .int "WRONG_COUNT" (-3), .int "LIES_WHERE_OTHERS_LEAD" (-4), .int "MOST_OF_STEP" (9), .int "MOST_OF_POINT" (100), .int "MOST_OF_Q" (10), .int "BEGIN" (1), .int "SHORTEST" (2), .int "MINIMA" (3), .int "REDUCED" (4), .int "HAS" (5), .int "SAME" (6), .int "NEAREST" (7), .int "WALLS" (8), .int "JUDGE" (9), .glo "StepRow", .cls "StepRow", .mkr "StepRow", .meth "StepRow" "begin", .meth "StepRow" "shortest", .meth "StepRow" "minima", .meth "StepRow" "reduced", .meth "StepRow" "has", .meth "StepRow" "same", .meth "StepRow" "nearest", .meth "StepRow" "walls", .meth "StepRow" "judge", .noat "StepRow" "basis", .glo "UnknownCall", .keep "UnknownCall", .glo "Reader", .cls "Reader", .mkr "Reader", .meth "Reader" "is_done", .meth "Reader" "take_number", .meth "Reader" "take_row", .noat "Reader" "numbers", .noat "Reader" "place"]
def tfL : List He.Defn := [("longest_taken", none), ("times_up_to", none), ("different_lengths", none), ("reduced_steps", none)]
def looseL : List PySem.Str := ([("dot" : PySem.Str), ("length" : PySem.Str), ("order" : PySem.Str), ("is_forward" : PySem.Str), ("together" : PySem.Str), ("left_over" : PySem.Str), ("cross" : PySem.Str), ("normals" : PySem.Str)] : List PySem.Str) ++ ([("determinant" : PySem.Str), ("times_taken" : PySem.Str), ("lead_to_the_same" : PySem.Str), ("box" : PySem.Str), ("longest_taken" : PySem.Str), ("shortened" : PySem.Str), ("numbers_near" : PySem.Str), ("times_near" : PySem.Str)] : List PySem.Str) ++ ([("times_up_to" : PySem.Str), ("common_divisor" : PySem.Str), ("content" : PySem.Str), ("first_fitting" : PySem.Str), ("longest_length" : PySem.Str), ("shortest_points" : PySem.Str), ("different_lengths" : PySem.Str), ("reduced_steps" : PySem.Str)] : List PySem.Str) ++ ([("point_by_rounding" : PySem.Str), ("nearest_points" : PySem.Str), ("shortest_beside" : PySem.Str), ("wall_points" : PySem.Str), ("WRONG_NUMBER" : PySem.Str), ("WRONG_COUNT" : PySem.Str), ("LIES_WHERE_OTHERS_LEAD" : PySem.Str), ("MOST_OF_STEP" : PySem.Str)] : List PySem.Str) ++ ([("MOST_OF_POINT" : PySem.Str), ("MOST_OF_Q" : PySem.Str), ("told_numbers" : PySem.Str), ("refusal_of_told" : PySem.Str), ("told_steps" : PySem.Str), ("refusal_of_steps" : PySem.Str), ("one_behind_another" : PySem.Str), ("StepRow" : PySem.Str)] : List PySem.Str) ++ ([("BEGIN" : PySem.Str), ("SHORTEST" : PySem.Str), ("MINIMA" : PySem.Str), ("REDUCED" : PySem.Str), ("HAS" : PySem.Str), ("SAME" : PySem.Str), ("NEAREST" : PySem.Str), ("WALLS" : PySem.Str)] : List PySem.Str) ++ ([("JUDGE" : PySem.Str), ("UnknownCall" : PySem.Str), ("Reader" : PySem.Str), ("answer_of_next" : PySem.Str)] : List PySem.Str)
abbrev R : PySem.W.OpenSpec := PySem.Challenge.rw_nearpoints_s01_answers
abbrev qv : Program := PySem.W.view R.prog [57]
/-- the tables are one beside the other -/
def exF (K : PySem.W.Frag) : Bool := decide (tfL.map fun p => (He.cT K p).2).Nodup
abbrev hk : PySem.W.Hook := He.hookX 6 faL fnL [] tfL exF
def ob (s : PySem.W.SharedT) : He.AlX := He.obsX 6 faL fnL [] tfL exF (HeadRun.getT s)
theorem ob_eq (s : PySem.W.SharedT) : ob s = hk.obs s.abs := He.obsX_eq (HeadRun.getT_eq s)
theorem run (w : World) : HeadRun.RunEqS R qv hk ob 4000 looseL w := by
  intro os
  kernel_rfl
end NpHead
end
section
set_option maxRecDepth 100000
set_option maxHeartbeats 2000000
namespace Np
open PySem PySem.Spec PyProof.Rows L2
def top (i : Nat) : Stmt := PySem.Challenge.pw_nearpoints_s01_answers.main.body.getD i (.Pass ⟨0, 0, 0, 0⟩)
abbrev sDot : Stmt := top 1
abbrev sLength : Stmt := top 2
abbrev sOrder : Stmt := top 3
theorem scDot : FnScope ["one", "other", "a", "b"] ["one", "other"] (defScope sDot) :=
  ⟨rfl, rfl, rfl, by decide +kernel, rfl, by decide +kernel, by decide +kernel⟩
def dotL (xs ys : List Int) : Int := ((xs.zip ys).map fun x => x.1 * x.2).sum
def Bd (m : Int) (xs : List Int) : Prop := ∀ x ∈ xs, -m ≤ x ∧ x ≤ m
def big : Int := 1000000000000
def spDot (K : PySem.W.Frag) : Sp := fun vs H Q _ => ∃ (a b : Addr) (xs ys : List Int), vs = [.ref a, .ref b] ∧ SqL K H a (xs.map V.int) ∧ SqL K H b (ys.map V.int) ∧
  xs.length = ys.length ∧ xs.length ≤ 1000 ∧ Bd big xs ∧ ∀ H', Same H H' → Q (.int (dotL xs ys)) H'
theorem mul_ok {x : Int} (h : -big ≤ x ∧ x ≤ big) : -(2 ^ 64) < x ∧ x < 2 ^ 64 := by
  unfold big at h; omega
theorem map_get {α β : Type} {f : α → β} {l : List α} {i : Nat} {y : β} (h : (l.map f)[i]? = some y) : ∃ x, l[i]? = some x ∧ y = f x := by
  rw [List.getElem?_map] at h
  cases e : l[i]? with
  | none => rw [e] at h; cases h
  | some x => rw [e] at h; exact ⟨x, rfl, (Option.some.inj h).symm⟩
/-- a def that may be called by its name -/
structure Callee (P : Program) (w : World) (K : PySem.W.Frag) (mg : Str → Option Value) (base : Heap) (k : Nat) (x : Str) (ps : List Str) (sp : Sp) : Prop where
  ex : ∃ (f : Addr) (fd : FuncData), FnOk P w K mg base CX0 k f fd ps sp ∧ mg x = some (.ref f) ∧ PySem.W.keepIn K (.ref f) = true ∧ Binds K fd ps []
theorem pe_def {X : Cx} {k : Nat} {x : Str} {ps : List Str} {sp : Sp} {e : Expr} {es : List Expr} {t : TA} {p pos : Pos} (C : Callee X.prog X.w X.K X.mg X.base k x ps sp) (hr : Room k X.A) (hg : Gl X x)
    (ha : PA X (e :: es) t) (hdb : (x == ("__debug__" : Str)) = false := by decide) (he : starEach (e :: es) X.env = (false, eval e X.env) :: starEach es X.env := by rfl) (hpl : (backTo pos (starEach es X.env)).any (·.1) = false := by rfl) :
    PE X (.Call (.Name x p) (e :: es) [] pos) (tCall sp [] E0 t) := by
  obtain ⟨f, fd, G, m, kp, b⟩ := C.ex
  exact pe_call G hr hg m kp b .nil pass0 ha hdb he hpl
section
variable {P : Program} {w : World} {K : PySem.W.Frag} {mg : Str → Option Value} {base : Heap}
theorem ok_dot {f : Addr} {fd : FuncData} (F : Fun K "dot" "dot" sDot f fd) (mz : mg "zip" = none) (ms : mg "sum" = none) : FnOk P w K mg base CX0 1 f fd ["one", "other"] (spDot K) := by
  refine F.ok scDot (fun vs H Q E h => ?_) (fun cdv A outer s H vs Q E hr h => ?_)
  · obtain ⟨a, b, xs, ys, rfl, _⟩ := h
    rfl
  · refine ⟨_, pss_one (ps_ret (pe_callB (cr_sum rfl) (by rfl) ms (by decide +kernel) (pa_cons (pe_lc (own := [("a", 2), ("b", 3)]) (g := gTup K 2 (gCons (gName 2) (gCons (gName 3) gNil))) rfl scDot.nd
      (pi_zip (by rfl) mz (pa_cons (pv 0) (pa_cons (pv 1) pa_nil)))
      (blkOk_by (N := ["one", "other", "a", "b"]) (sc := defScope sDot) (by decide +kernel))
      (fun _ _ _ _ _ => by exact pg_tup rfl (pgs_cons (pg_name (i := 2) scDot.nd rfl (.inl rfl)) (pgs_cons (pg_name (i := 3) scDot.nd rfl (.inl rfl)) pgs_nil)))
      (fun _ _ _ _ _ => pts_nil)
      (fun _ _ _ _ _ => pe_op op_mul (pv 2) (pv 3))) pa_nil))), ?_⟩
    obtain ⟨a, b, xs, ys, rfl, ha, hb, hl, hn, hB, k⟩ := h
    refine ⟨_, rfl, _, rfl, a, b, _, _, rfl, ha, hb, lc_ints keep_same (walk_zip (n := xs.length) (by simp [hl])) ((xs.zip ys).map fun x => x.1 * x.2) (by simp [hl])
      (fun H' r => ⟨r.seq ha, r.seq hb⟩) (by rw [sizeLine_eq]; omega) ?_ ?_⟩
    · rintro i v z H0 H' Qf hz r ⟨T, x, y, rfl, nT, rfl, hx, hy⟩ q
      obtain ⟨p, hp, rfl⟩ := map_get hz
      obtain ⟨x', hx', rfl⟩ := map_get hx
      obtain ⟨y', hy', rfl⟩ := map_get hy
      have : p = (x', y') := by
        have := List.getElem?_zip_eq_some.mp hp
        rw [hx', hy'] at this
        exact Prod.ext (Option.some.inj this.1).symm (Option.some.inj this.2).symm
      subst this
      refine ⟨T, _, rfl, SqT.of upd_same, rfl, _, _, rfl, _, _, rfl, rfl, rfl, _, rfl, _, rfl, _, _, rfl, rfl, ?_, ?_⟩
      · exact .inl (mul_ok (hB _ (List.mem_of_getElem? hx')))
      · exact q _ (keep_same.new nT)
    · intro D H' r hD e
      exact ⟨D, _, rfl, SqL.of e, k H' r⟩

/-! ### length -/
theorem scLength : FnScope ["point"] ["point"] (defScope sLength) :=
  ⟨rfl, rfl, rfl, by decide +kernel, rfl, by decide +kernel, by decide +kernel⟩
def spLength (K : PySem.W.Frag) : Sp := fun vs H Q _ => ∃ (a : Addr) (xs : List Int), vs = [.ref a] ∧ SqL K H a (xs.map V.int) ∧
  xs.length ≤ 1000 ∧ Bd big xs ∧ ∀ H', Same H H' → Q (.int (dotL xs xs)) H'
theorem ok_length {f : Addr} {fd : FuncData} (F : Fun K "length" "length" sLength f fd) (D : Callee P w K mg base 1 "dot" ["one", "other"] (spDot K)) : FnOk P w K mg base CX0 2 f fd ["point"] (spLength K) := by
  refine F.ok scLength (fun vs H Q E h => ?_) (fun cdv A outer s H vs Q E hr h => ?_)
  · obtain ⟨a, xs, rfl, _⟩ := h
    rfl
  · refine ⟨_, pss_one (ps_ret (pe_def D hr rfl (pa_cons (pv 0) (pa_cons (pv 0) pa_nil)))), ?_⟩
    obtain ⟨a, xs, rfl, ha, hn, hB, k⟩ := h
    exact ⟨_, rfl, _, rfl, a, a, xs, xs, rfl, ha, ha, rfl, hn, hB, k⟩
/-! ### order -/
theorem scOrder : FnScope ["point", "number"] ["point"] (defScope sOrder) :=
  ⟨rfl, rfl, rfl, by decide +kernel, rfl, by decide +kernel, by decide +kernel⟩
def orderL (xs : List Int) : List Int := dotL xs xs :: xs.map fun x => -x
def spOrder (K : PySem.W.Frag) : Sp := fun vs H Q _ => ∃ (a : Addr) (xs : List Int), vs = [.ref a] ∧ SqL K H a (xs.map V.int) ∧
  xs.length ≤ 1000 ∧ Bd big xs ∧ ∀ H' p, Same H H' → H p = none → H' p = some (.lst ((orderL xs).map V.int)) → Q (.ref p) H'
theorem ok_order {f : Addr} {fd : FuncData} (F : Fun K "order" "order" sOrder f fd) (D : Callee P w K mg base 2 "length" ["point"] (spLength K)) : FnOk P w K mg base CX0 3 f fd ["point"] (spOrder K) := by
  refine F.ok scOrder (fun vs H Q E h => ?_) (fun cdv A outer s H vs Q E hr h => ?_)
  · obtain ⟨a, xs, rfl, _⟩ := h
    rfl
  · refine ⟨_, pss_one (ps_ret (pe_op op_cat (pe_lst (pa_cons (pe_def D hr rfl (pa_cons (pv 0) pa_nil)) pa_nil))
      (pe_lc (own := [("number", 1)]) (g := gName 1) rfl scOrder.nd (pi_list (pv 0))
      (blkOk_by (N := ["point", "number"]) (sc := defScope sOrder) (by decide +kernel))
      (fun _ _ _ _ _ => by exact pg_name (i := 1) scOrder.nd rfl (.inl rfl))
      (fun _ _ _ _ _ => pts_nil)
      (fun _ _ _ _ _ => pe_un un_neg (pv 1))))), ?_⟩
    obtain ⟨a, xs, rfl, ha, hn, hB, k⟩ := h
    refine ⟨_, rfl, a, xs, rfl, ha, hn, hB, fun H1 r1 => ⟨by show 1 ≤ sizeLine; decide, fun p hp => ?_⟩⟩
    have r2 : Same H (upd H1 p (.lst [V.int (dotL xs xs)])) := keep_same.trans r1 (keep_same.new hp)
    refine ⟨_, rfl, a, rfl, ⟨_, r2.seq ha⟩, lc_ints keep_same (walk_list (xs := xs.map V.int)) (xs.map fun x => -x) (by simp) (fun H' r => r.seq (r2.seq ha)) (by rw [sizeLine_eq]; simp; omega) ?_ ?_⟩
    · rintro i v z H0 H' Qf hz r ⟨rfl, hx⟩ q
      obtain ⟨x, hx', rfl⟩ := map_get hz
      obtain ⟨x2, hx2, rfl⟩ := map_get hx
      rw [hx'] at hx2
      cases hx2
      exact ⟨rfl, _, rfl, _, rfl, q _ (keep_same.refl _)⟩
    · intro D' H' r hD e
      refine ⟨p, D', _, _, rfl, rfl, keep_same.lst r upd_same, e, by rw [sizeLine_eq]; simp; omega, fun p' hp' => ?_⟩
      exact k _ p' (keep_same.put (keep_same.trans r2 r) (keep_same.free (keep_same.trans r2 r) hp') (.inl hp')) (keep_same.free (keep_same.trans r2 r) hp') upd_same
end
end Np
end
section
/-! Whole numbers: squares, rounding, Bezout. -/
namespace Np
theorem sq_nonneg (a : Int) : 0 ≤ a * a := by
  rcases Int.le_total 0 a with h | h
  · exact Int.mul_nonneg h h
  · have := Int.mul_nonneg (Int.neg_nonneg_of_nonpos h) (Int.neg_nonneg_of_nonpos h)
    grind

theorem sq_pos {a : Int} (h : a ≠ 0) : 0 < a * a := by
  have h1 := sq_nonneg a
  have h2 : a * a ≠ 0 := fun e => (Int.mul_eq_zero.mp e).elim h h
  omega

theorem sq_ge4 {a : Int} (h0 : a ≠ 0) (h1 : a ≠ 1) (h2 : a ≠ -1) : 4 ≤ a * a := by
  rcases Int.lt_or_le a 0 with h | h
  · have : 0 ≤ (-a - 2) * (-a + 2) := Int.mul_nonneg (by omega) (by omega)
    grind
  · have : 0 ≤ (a - 2) * (a + 2) := Int.mul_nonneg (by omega) (by omega)
    grind

theorem sq_le_of {a m : Int} (h1 : -m ≤ a) (h2 : a ≤ m) : a * a ≤ m * m := by
  have : 0 ≤ (m - a) * (m + a) := Int.mul_nonneg (by omega) (by omega)
  grind

theorem abs_le_of_sq {a m : Int} (hm : 0 ≤ m) (h : a * a ≤ m * m) : -m ≤ a ∧ a ≤ m := by
  constructor
  · rcases Int.lt_or_le a (-m) with g | g
    · have : 0 < (-a - m) * (-a + m) := by
        have h1 : 0 < -a - m := by omega
        have h2 : 0 < -a + m := by omega
        exact Int.mul_pos h1 h2
      grind
    · exact g
  · rcases Int.lt_or_le m a with g | g
    · have : 0 < (a - m) * (a + m) := Int.mul_pos (by omega) (by omega)
      grind
    · exact g

theorem le_of_mul_le {g x y : Int} (hg : 0 < g) (h : g * x ≤ g * y) : x ≤ y :=
  Int.le_of_mul_le_mul_left h hg

/-- To the nearest. -/
theorem near_mult (a : Int) {g : Int} (hg : 0 < g) : ∃ i : Int, -g ≤ 2 * (a - i * g) ∧ 2 * (a - i * g) ≤ g := by
  refine ⟨(2 * a + g) / (2 * g), ?_⟩
  have h1 := Int.emod_add_mul_ediv (2 * a + g) (2 * g)
  have h2 := Int.emod_nonneg (2 * a + g) (b := 2 * g) (by omega)
  have h3 := Int.emod_lt_of_pos (2 * a + g) (b := 2 * g) (by omega)
  generalize (2 * a + g) / (2 * g) = i at *
  generalize (2 * a + g) % (2 * g) = r at *
  constructor <;> grind

theorem ineq2 {A W P U : Int} (hA : 0 < A) (hp1 : -A ≤ 2 * P) (hp2 : 2 * P ≤ A) (hW : A ≤ W)
    (hU : 4 * (A * W - P * P) ≤ A * U) : W ≤ U := by
  have h1 := sq_le_of hp1 hp2
  have h2 : A * A ≤ A * W := Int.mul_le_mul_of_nonneg_left hW (by omega)
  have h3 : 0 ≤ A * W := Int.mul_nonneg (by omega) (by omega)
  refine le_of_mul_le hA ?_
  have h4 : 2 * P * (2 * P) = 4 * (P * P) := by grind
  omega

theorem ineq3 {A B C P Q W U : Int} (hA : 0 < A) (hAC : A ≤ C) (hb1 : -A ≤ 2 * B) (hb2 : 2 * B ≤ A)
    (hG : 0 < A * C - B * B)
    (ha1 : -(A * C - B * B) ≤ 2 * (P * C - Q * B)) (ha2 : 2 * (P * C - Q * B) ≤ A * C - B * B)
    (hc1 : -(A * C - B * B) ≤ 2 * (Q * A - P * B)) (hc2 : 2 * (Q * A - P * B) ≤ A * C - B * B)
    (hW : C ≤ W)
    (hU : 4 * (A * C * W + 2 * B * P * Q - A * Q * Q - C * P * P - W * B * B) ≤ (A * C - B * B) * U) : W ≤ U := by
  generalize hGd : A * C - B * B = G at *
  generalize ha : P * C - Q * B = a at *
  generalize hb : Q * A - P * B = b at *
  refine le_of_mul_le hG ?_
  have hR : G * (A * Q * Q + C * P * P - 2 * B * P * Q) = a * a * A + 2 * (a * b * B) + b * b * C := by
    subst hGd ha hb; grind
  have hD : A * C * W + 2 * B * P * Q - A * Q * Q - C * P * P - W * B * B
      = G * W - (A * Q * Q + C * P * P - 2 * B * P * Q) := by subst hGd; grind
  rw [hD] at hU
  generalize A * Q * Q + C * P * P - 2 * B * P * Q = R at *
  have q1 := sq_le_of ha1 ha2
  have q2 := sq_le_of hc1 hc2
  -- 4 a b B : |2a| |2b| |B|
  have q3 : 4 * (a * b) ≤ G * G ∧ -(G * G) ≤ 4 * (a * b) := by
    have s1 := sq_nonneg (2 * a - 2 * b)
    have s2 := sq_nonneg (2 * a + 2 * b)
    constructor <;> grind
  have q4 : 2 * (4 * (a * b) * B) ≤ G * G * A := by
    rcases Int.le_total 0 B with h | h
    · have t1 : 4 * (a * b) * B ≤ G * G * B := Int.mul_le_mul_of_nonneg_right q3.1 h
      have t2 : G * G * (2 * B) ≤ G * G * A := Int.mul_le_mul_of_nonneg_left hb2 (sq_nonneg G)
      grind
    · have t1 : -(4 * (a * b)) * (-B) ≤ G * G * (-B) := Int.mul_le_mul_of_nonneg_right (by omega) (by omega)
      have t2 : G * G * (-(2 * B)) ≤ G * G * A := Int.mul_le_mul_of_nonneg_left (by omega) (sq_nonneg G)
      grind
  have q5 : (2 * a) * (2 * a) * A ≤ G * G * A := Int.mul_le_mul_of_nonneg_right q1 (by omega)
  have q6 : (2 * b) * (2 * b) * C ≤ G * G * C := Int.mul_le_mul_of_nonneg_right q2 (by omega)
  have q7 : G * G * A ≤ G * G * C := Int.mul_le_mul_of_nonneg_left hAC (sq_nonneg G)
  have q8 : G * (4 * R) ≤ G * (3 * (G * C)) := by grind
  have q9 := le_of_mul_le hG q8
  have q10 : G * C ≤ G * W := Int.mul_le_mul_of_nonneg_left hW (by omega)
  omega

/-! Bezout. -/
theorem bezout_nat (a b : Nat) : ∃ x y : Int, x * a + y * b = (Nat.gcd a b : Nat) := by
  induction a, b using Nat.gcd.induction with
  | H0 n => exact ⟨0, 1, by simp⟩
  | H1 m n h ih =>
    obtain ⟨x, y, e⟩ := ih
    refine ⟨y - x * (n / m : Nat), x, ?_⟩
    rw [Nat.gcd_rec m n, ← e]
    have : (n : Int) = (n % m : Nat) + m * (n / m : Nat) := by
      have := Nat.mod_add_div n m
      omega
    generalize hq : ((n / m : Nat) : Int) = q at *
    generalize hr : ((n % m : Nat) : Int) = r at *
    rw [this]; grind

theorem bezout (a b : Int) : ∃ x y : Int, x * a + y * b = (Nat.gcd a.natAbs b.natAbs : Nat) := by
  obtain ⟨x, y, e⟩ := bezout_nat a.natAbs b.natAbs
  rw [← e]
  rcases Int.natAbs_eq a with ha | ha <;> rcases Int.natAbs_eq b with hb | hb
  · exact ⟨x, y, by rw [← ha, ← hb]⟩
  · exact ⟨x, -y, by rw [← ha]; conv => lhs; rw [hb]
                     grind⟩
  · exact ⟨-x, y, by rw [← hb]; conv => lhs; rw [ha]
                     grind⟩
  · exact ⟨-x, -y, by conv => lhs; rw [ha, hb]
                      grind⟩
end Np
end
section
/-! Points of three numbers, and of two; a table of steps; how often each is taken. -/
namespace Np
structure V3 where
  x : Int
  y : Int
  z : Int
namespace V3
def dot (a b : V3) : Int := a.x * b.x + a.y * b.y + a.z * b.z
def cross (a b : V3) : V3 := ⟨a.y * b.z - a.z * b.y, a.z * b.x - a.x * b.z, a.x * b.y - a.y * b.x⟩
def add (a b : V3) : V3 := ⟨a.x + b.x, a.y + b.y, a.z + b.z⟩
def smul (k : Int) (a : V3) : V3 := ⟨k * a.x, k * a.y, k * a.z⟩
def nrm (a : V3) : Int := dot a a
def zero : V3 := ⟨0, 0, 0⟩
theorem ext' {a b : V3} (h1 : a.x = b.x) (h2 : a.y = b.y) (h3 : a.z = b.z) : a = b := by
  cases a; cases b; simp_all
theorem nrm_nonneg (a : V3) : 0 ≤ nrm a := by
  have h1 := sq_nonneg a.x
  have h2 := sq_nonneg a.y
  have h3 := sq_nonneg a.z
  simp only [nrm, dot]; omega
theorem nrm_pos {a : V3} (h : a ≠ zero) : 0 < nrm a := by
  have h1 := sq_nonneg a.x
  have h2 := sq_nonneg a.y
  have h3 := sq_nonneg a.z
  simp only [nrm, dot]
  by_cases e1 : a.x = 0
  · by_cases e2 : a.y = 0
    · by_cases e3 : a.z = 0
      · exact absurd (ext' e1 e2 e3) h
      · have := sq_pos e3; omega
    · have := sq_pos e2; omega
  · have := sq_pos e1; omega
theorem nrm_zero : nrm zero = 0 := rfl
theorem lagrange (a b : V3) : nrm a * nrm b = dot a b * dot a b + nrm (cross a b) := by
  simp only [nrm, dot, cross]; grind
end V3
open V3
structure B3 where
  a : V3
  b : V3
  c : V3
namespace B3
def det (m : B3) : Int := dot m.a (cross m.b m.c)
def pt (m : B3) (k : V3) : V3 :=
  ⟨k.x * m.a.x + k.y * m.b.x + k.z * m.c.x, k.x * m.a.y + k.y * m.b.y + k.z * m.c.y, k.x * m.a.z + k.y * m.b.z + k.z * m.c.z⟩
/-- the table of the minors -/
def cof (m : B3) : B3 := ⟨cross m.b m.c, cross m.c m.a, cross m.a m.b⟩
theorem cross_pt (m : B3) (k l : V3) : cross (m.pt k) (m.pt l) = m.cof.pt (cross k l) := by
  apply ext' <;> simp only [pt, cof, cross] <;> grind
theorem det_pt (m : B3) (k l o : V3) : dot (cross (m.pt k) (m.pt l)) (m.pt o) = m.det * dot (cross k l) o := by
  simp only [det, pt, cross, dot]; grind
theorem pt_smul (m : B3) (g : Int) (k : V3) : m.pt (smul g k) = smul g (m.pt k) := by
  apply ext' <;> simp only [pt, smul] <;> grind
theorem pt_add (m : B3) (k l : V3) : m.pt (add k l) = add (m.pt k) (m.pt l) := by
  apply ext' <;> simp only [pt, add] <;> grind
theorem nrm_smul (g : Int) (k : V3) : nrm (smul g k) = g * g * nrm k := by
  simp only [nrm, dot, smul]; grind
theorem pt_zero_of {m : B3} (h : m.det ≠ 0) {k : V3} (e : m.pt k = zero) : k = zero := by
  have e1 : m.det * k.x = dot (m.pt k) m.cof.a := by simp only [det, pt, cof, cross, dot]; grind
  have e2 : m.det * k.y = dot (m.pt k) m.cof.b := by simp only [det, pt, cof, cross, dot]; grind
  have e3 : m.det * k.z = dot (m.pt k) m.cof.c := by simp only [det, pt, cof, cross, dot]; grind
  have z : ∀ w, dot zero w = 0 := by intro w; simp [dot, zero]
  rw [e, z] at e1 e2 e3
  exact ext' ((Int.mul_eq_zero.mp e1).resolve_left h) ((Int.mul_eq_zero.mp e2).resolve_left h)
    ((Int.mul_eq_zero.mp e3).resolve_left h)
theorem pt_inj {m : B3} (h : m.det ≠ 0) {k l : V3} (e : m.pt k = m.pt l) : k = l := by
  have : m.pt (add k (smul (-1) l)) = zero := by
    rw [pt_add, pt_smul, e]; apply ext' <;> simp only [add, smul, zero] <;> omega
  have := pt_zero_of h this
  have h1 := congrArg V3.x this
  have h2 := congrArg V3.y this
  have h3 := congrArg V3.z this
  simp only [add, smul, zero] at h1 h2 h3
  exact ext' (by omega) (by omega) (by omega)
end B3
open B3

/-- One more number that divides all three; the rest of them is coprime. -/
theorem primitive3 (k : V3) (h : k ≠ zero) : ∃ (g : Int) (l r : V3), 0 < g ∧ k = smul g l ∧ dot r l = 1 := by
  obtain ⟨p, q, e1⟩ := bezout k.x k.y
  obtain ⟨s, t, e2⟩ := bezout (Nat.gcd k.x.natAbs k.y.natAbs : Nat) k.z
  rw [Int.natAbs_natCast] at e2
  generalize hg : Nat.gcd (Nat.gcd k.x.natAbs k.y.natAbs) k.z.natAbs = g at *
  have d1 : (g : Int) ∣ k.x := by
    rw [← hg]; exact Int.ofNat_dvd_left.mpr (Nat.dvd_trans (Nat.gcd_dvd_left _ _) (Nat.gcd_dvd_left _ _))
  have d2 : (g : Int) ∣ k.y := by
    rw [← hg]; exact Int.ofNat_dvd_left.mpr (Nat.dvd_trans (Nat.gcd_dvd_left _ _) (Nat.gcd_dvd_right _ _))
  have d3 : (g : Int) ∣ k.z := by
    rw [← hg]; exact Int.ofNat_dvd_left.mpr (Nat.gcd_dvd_right _ _)
  obtain ⟨a, ha⟩ := d1
  obtain ⟨b, hb⟩ := d2
  obtain ⟨c, hc⟩ := d3
  have hp : 0 < (g : Int) := by
    rcases Nat.eq_zero_or_pos g with z | z
    · exfalso; apply h; rw [z] at ha hb hc; exact ext' (by simpa [zero] using ha) (by simpa [zero] using hb) (by simpa [zero] using hc)
    · omega
  refine ⟨g, ⟨a, b, c⟩, ⟨s * p, s * q, t⟩, hp, ext' ha hb hc, ?_⟩
  have : (g : Int) * (s * p * a + s * q * b + t * c) = g * 1 := by
    rw [← e1] at e2; rw [ha, hb, hc] at e2; grind
  have := Int.eq_of_mul_eq_mul_left (by omega) this
  simpa [dot] using this

/-- **The second step.** -/
theorem step2 (m : B3) (hD : m.det ≠ 0) (c1 cu r : V3) (hr : dot r c1 = 1)
    (hmin : ∀ c, c ≠ zero → nrm (m.pt c1) ≤ nrm (m.pt c)) (hu : cross c1 cu ≠ zero) :
    ∃ cw s, dot s (cross c1 cw) = 1 ∧ nrm (m.pt cw) ≤ nrm (m.pt cu) := by
  obtain ⟨g, n, s, hg, e, hs⟩ := primitive3 _ hu
  by_cases g1 : g = 1
  · refine ⟨cu, s, ?_, Int.le_refl _⟩
    rw [e, g1]; simpa [dot, smul] using hs
  have hc1 : c1 ≠ zero := by
    intro z; rw [z] at hr; simp [dot, zero] at hr
  have hv1 : m.pt c1 ≠ zero := fun z => hc1 (pt_zero_of hD z)
  have hA := nrm_pos hv1
  obtain ⟨i, i1, i2⟩ := near_mult (dot (m.pt c1) (m.pt (cross n r))) hA
  have perp : dot c1 n = 0 := by
    have : g * dot c1 n = g * 0 := by
      have : g * dot c1 n = dot c1 (cross c1 cu) := by rw [e]; simp only [dot, smul]; grind
      rw [this]; simp only [dot, cross]; grind
    exact Int.eq_of_mul_eq_mul_left (by omega) this
  have hw : cross c1 (add (cross n r) (smul (-i) c1)) = n := by
    simp only [dot] at perp hr
    apply ext' <;> simp only [cross, add, smul] <;> grind
  refine ⟨add (cross n r) (smul (-i) c1), s, ?_, ?_⟩
  · rw [hw]; exact hs
  generalize hcw : add (cross n r) (smul (-i) c1) = cw at *
  have hn : n ≠ zero := by intro z; rw [z] at hs; simp [dot, zero] at hs
  have hcw0 : cw ≠ zero := by
    intro z; apply hn; rw [← hw, z]; apply ext' <;> simp [cross, zero]
  have hW := hmin cw hcw0
  have hP : dot (m.pt c1) (m.pt cw) = dot (m.pt c1) (m.pt (cross n r)) - i * nrm (m.pt c1) := by
    rw [← hcw, pt_add, pt_smul]; simp only [nrm, dot, add, smul]; grind
  rw [← hP] at i1 i2
  refine ineq2 hA i1 i2 hW ?_
  have l1 := lagrange (m.pt c1) (m.pt cw)
  have l2 := lagrange (m.pt c1) (m.pt cu)
  rw [cross_pt] at l1 l2
  rw [hw] at l1
  rw [e, pt_smul, nrm_smul] at l2
  have l3 := sq_nonneg (dot (m.pt c1) (m.pt cu))
  have l4 := nrm_nonneg (m.cof.pt n)
  have l5 : 4 * nrm (m.cof.pt n) ≤ g * g * nrm (m.cof.pt n) :=
    Int.mul_le_mul_of_nonneg_right (sq_ge4 (by omega) g1 (by omega)) l4
  omega

/-- **The third step.** -/
theorem step3 (m : B3) (hD : m.det ≠ 0) (c1 c2 cu r : V3) (hr : dot r (cross c1 c2) = 1)
    (hmin : ∀ c, dot (cross c1 c2) c ≠ 0 → nrm (m.pt c2) ≤ nrm (m.pt c))
    (hAC : nrm (m.pt c1) ≤ nrm (m.pt c2))
    (hb1 : -nrm (m.pt c1) ≤ 2 * dot (m.pt c1) (m.pt c2)) (hb2 : 2 * dot (m.pt c1) (m.pt c2) ≤ nrm (m.pt c1))
    (hu : dot (cross c1 c2) cu ≠ 0) :
    ∃ cw, (dot (cross c1 c2) cw = 1 ∨ dot (cross c1 c2) cw = -1) ∧ nrm (m.pt cw) ≤ nrm (m.pt cu) := by
  by_cases u1 : dot (cross c1 c2) cu = 1
  · exact ⟨cu, .inl u1, Int.le_refl _⟩
  by_cases u2 : dot (cross c1 c2) cu = -1
  · exact ⟨cu, .inr u2, Int.le_refl _⟩
  have hn : cross c1 c2 ≠ zero := by intro z; rw [z] at hr; simp [dot, zero] at hr
  have hc1 : c1 ≠ zero := by intro z; apply hn; rw [z]; apply ext' <;> simp [cross, zero]
  have hv1 : m.pt c1 ≠ zero := fun z => hc1 (pt_zero_of hD z)
  have hA := nrm_pos hv1
  have hN : cross (m.pt c1) (m.pt c2) ≠ zero := by
    intro z
    have := det_pt m c1 c2 r
    rw [z] at this
    have e : dot (cross c1 c2) r = 1 := by rw [← hr]; simp only [dot]; grind
    rw [e] at this
    simp [dot, zero] at this
    exact hD this.symm
  have hG : 0 < nrm (m.pt c1) * nrm (m.pt c2) - dot (m.pt c1) (m.pt c2) * dot (m.pt c1) (m.pt c2) := by
    have := lagrange (m.pt c1) (m.pt c2)
    have := nrm_pos hN
    omega
  generalize hv : m.pt c1 = v1 at *
  generalize hvv : m.pt c2 = v2 at *
  obtain ⟨i, i1, i2⟩ := near_mult (dot v1 (m.pt r) * nrm v2 - dot v2 (m.pt r) * dot v1 v2) hG
  obtain ⟨j, j1, j2⟩ := near_mult (dot v2 (m.pt r) * nrm v1 - dot v1 (m.pt r) * dot v1 v2) hG
  have hd : dot (cross c1 c2) (add r (add (smul (-i) c1) (smul (-j) c2))) = 1 := by
    rw [← hr]; simp only [dot, add, smul, cross]; grind
  refine ⟨add r (add (smul (-i) c1) (smul (-j) c2)), .inl hd, ?_⟩
  have hw : m.pt (add r (add (smul (-i) c1) (smul (-j) c2))) = add (m.pt r) (add (smul (-i) v1) (smul (-j) v2)) := by
    rw [pt_add, pt_add, pt_smul, pt_smul, hv, hvv]
  have hW := hmin _ (by rw [hd]; decide)
  have gd := det_pt m c1 c2 (add r (add (smul (-i) c1) (smul (-j) c2)))
  have gu := det_pt m c1 c2 cu
  rw [hd, hv, hvv] at gd
  rw [hv, hvv] at gu
  rw [hw] at hW gd ⊢
  generalize hww : add (m.pt r) (add (smul (-i) v1) (smul (-j) v2)) = w at *
  have hP : dot v1 w = dot v1 (m.pt r) - i * nrm v1 - j * dot v1 v2 := by
    rw [← hww]; simp only [nrm, dot, add, smul]; grind
  have hQ : dot v2 w = dot v2 (m.pt r) - i * dot v1 v2 - j * nrm v2 := by
    rw [← hww]; simp only [nrm, dot, add, smul]; grind
  have ea : dot v1 w * nrm v2 - dot v2 w * dot v1 v2 = dot v1 (m.pt r) * nrm v2 - dot v2 (m.pt r) * dot v1 v2
      - i * (nrm v1 * nrm v2 - dot v1 v2 * dot v1 v2) := by rw [hP, hQ]; grind
  have eb : dot v2 w * nrm v1 - dot v1 w * dot v1 v2 = dot v2 (m.pt r) * nrm v1 - dot v1 (m.pt r) * dot v1 v2
      - j * (nrm v1 * nrm v2 - dot v1 v2 * dot v1 v2) := by rw [hP, hQ]; grind
  rw [← ea] at i1 i2
  rw [← eb] at j1 j2
  refine ineq3 hA hAC hb1 hb2 hG i1 i2 j1 j2 hW ?_
  have gram : dot (cross v1 v2) w * dot (cross v1 v2) w
      = nrm v1 * nrm v2 * nrm w + 2 * dot v1 v2 * dot v1 w * dot v2 w - nrm v1 * dot v2 w * dot v2 w
        - nrm v2 * dot v1 w * dot v1 w - nrm w * dot v1 v2 * dot v1 v2 := by
    simp only [nrm, dot, cross]; grind
  rw [← gram, gd]
  have cs := lagrange (cross v1 v2) (m.pt cu)
  have cn := nrm_nonneg (cross (cross v1 v2) (m.pt cu))
  have l12 := lagrange v1 v2
  rw [gu] at cs
  have e4 : nrm v1 * nrm v2 - dot v1 v2 * dot v1 v2 = nrm (cross v1 v2) := by omega
  rw [e4]
  generalize dot (cross c1 c2) cu = z at *
  have z4 := sq_ge4 hu u1 u2
  have := Int.mul_le_mul_of_nonneg_right z4 (sq_nonneg m.det)
  have e5 : m.det * z * (m.det * z) = z * z * (m.det * m.det) := by grind
  have e6 : m.det * 1 * (m.det * 1) = m.det * m.det := by grind
  omega

/-! ## Two numbers -/
structure V2 where
  x : Int
  y : Int
namespace V2
def dot (a b : V2) : Int := a.x * b.x + a.y * b.y
def crs (a b : V2) : Int := a.x * b.y - a.y * b.x
def add (a b : V2) : V2 := ⟨a.x + b.x, a.y + b.y⟩
def smul (k : Int) (a : V2) : V2 := ⟨k * a.x, k * a.y⟩
def nrm (a : V2) : Int := dot a a
def zero : V2 := ⟨0, 0⟩
theorem ext' {a b : V2} (h1 : a.x = b.x) (h2 : a.y = b.y) : a = b := by
  cases a; cases b; simp_all
theorem nrm_nonneg (a : V2) : 0 ≤ nrm a := by
  have h1 := sq_nonneg a.x
  have h2 := sq_nonneg a.y
  simp only [nrm, dot]; omega
theorem nrm_pos {a : V2} (h : a ≠ zero) : 0 < nrm a := by
  have h1 := sq_nonneg a.x
  have h2 := sq_nonneg a.y
  simp only [nrm, dot]
  by_cases e1 : a.x = 0
  · by_cases e2 : a.y = 0
    · exact absurd (ext' e1 e2) h
    · have := sq_pos e2; omega
  · have := sq_pos e1; omega
theorem lagrange (a b : V2) : nrm a * nrm b = dot a b * dot a b + crs a b * crs a b := by
  simp only [nrm, dot, crs]; grind
end V2
structure B2 where
  a : V2
  b : V2
namespace B2
def det (m : B2) : Int := V2.crs m.a m.b
def pt (m : B2) (k : V2) : V2 := ⟨k.x * m.a.x + k.y * m.b.x, k.x * m.a.y + k.y * m.b.y⟩
theorem crs_pt (m : B2) (k l : V2) : V2.crs (m.pt k) (m.pt l) = m.det * V2.crs k l := by
  simp only [det, pt, V2.crs]; grind
theorem pt_smul (m : B2) (g : Int) (k : V2) : m.pt (V2.smul g k) = V2.smul g (m.pt k) := by
  apply V2.ext' <;> simp only [pt, V2.smul] <;> grind
theorem pt_add (m : B2) (k l : V2) : m.pt (V2.add k l) = V2.add (m.pt k) (m.pt l) := by
  apply V2.ext' <;> simp only [pt, V2.add] <;> grind
theorem nrm_smul (g : Int) (k : V2) : V2.nrm (V2.smul g k) = g * g * V2.nrm k := by
  simp only [V2.nrm, V2.dot, V2.smul]; grind
theorem pt_zero_of {m : B2} (h : m.det ≠ 0) {k : V2} (e : m.pt k = V2.zero) : k = V2.zero := by
  have e1 : m.det * k.x = V2.crs (m.pt k) m.b := by simp only [det, pt, V2.crs]; grind
  have e2 : m.det * k.y = V2.crs m.a (m.pt k) := by simp only [det, pt, V2.crs]; grind
  rw [e] at e1 e2
  simp only [V2.crs, V2.zero] at e1 e2
  exact V2.ext' ((Int.mul_eq_zero.mp (by simpa using e1)).resolve_left h) ((Int.mul_eq_zero.mp (by simpa using e2)).resolve_left h)
theorem pt_inj {m : B2} (h : m.det ≠ 0) {k l : V2} (e : m.pt k = m.pt l) : k = l := by
  have : m.pt (V2.add k (V2.smul (-1) l)) = V2.zero := by
    rw [pt_add, pt_smul, e]; apply V2.ext' <;> simp only [V2.add, V2.smul, V2.zero] <;> omega
  have := pt_zero_of h this
  have h1 := congrArg V2.x this
  have h2 := congrArg V2.y this
  simp only [V2.add, V2.smul, V2.zero] at h1 h2
  exact V2.ext' (by omega) (by omega)
end B2

theorem primitive2 (k : V2) (h : k ≠ V2.zero) : ∃ (g : Int) (l r : V2), 0 < g ∧ k = V2.smul g l ∧ V2.dot r l = 1 := by
  obtain ⟨p, q, e1⟩ := bezout k.x k.y
  generalize hg : Nat.gcd k.x.natAbs k.y.natAbs = g at *
  have d1 : (g : Int) ∣ k.x := by
    rw [← hg]; exact Int.ofNat_dvd_left.mpr (Nat.gcd_dvd_left _ _)
  have d2 : (g : Int) ∣ k.y := by
    rw [← hg]; exact Int.ofNat_dvd_left.mpr (Nat.gcd_dvd_right _ _)
  obtain ⟨a, ha⟩ := d1
  obtain ⟨b, hb⟩ := d2
  have hp : 0 < (g : Int) := by
    rcases Nat.eq_zero_or_pos g with z | z
    · exfalso; apply h; rw [z] at ha hb; exact V2.ext' (by simpa [V2.zero] using ha) (by simpa [V2.zero] using hb)
    · omega
  refine ⟨g, ⟨a, b⟩, ⟨p, q⟩, hp, V2.ext' ha hb, ?_⟩
  have : (g : Int) * (p * a + q * b) = g * 1 := by
    rw [ha, hb] at e1; grind
  have := Int.eq_of_mul_eq_mul_left (by omega) this
  simpa [V2.dot] using this

theorem step2of2 (m : B2) (hD : m.det ≠ 0) (c1 cu r : V2) (hr : V2.dot r c1 = 1)
    (hmin : ∀ c, c ≠ V2.zero → V2.nrm (m.pt c1) ≤ V2.nrm (m.pt c)) (hu : V2.crs c1 cu ≠ 0) :
    ∃ cw, (V2.crs c1 cw = 1 ∨ V2.crs c1 cw = -1) ∧ V2.nrm (m.pt cw) ≤ V2.nrm (m.pt cu) := by
  by_cases u1 : V2.crs c1 cu = 1
  · exact ⟨cu, .inl u1, Int.le_refl _⟩
  by_cases u2 : V2.crs c1 cu = -1
  · exact ⟨cu, .inr u2, Int.le_refl _⟩
  have hc1 : c1 ≠ V2.zero := by
    intro z; rw [z] at hr; simp [V2.dot, V2.zero] at hr
  have hv1 : m.pt c1 ≠ V2.zero := fun z => hc1 (B2.pt_zero_of hD z)
  have hA := V2.nrm_pos hv1
  obtain ⟨i, i1, i2⟩ := near_mult (V2.dot (m.pt c1) (m.pt ⟨-r.y, r.x⟩)) hA
  have hd : V2.crs c1 (V2.add ⟨-r.y, r.x⟩ (V2.smul (-i) c1)) = 1 := by
    rw [← hr]; simp only [V2.dot, V2.add, V2.smul, V2.crs]; grind
  refine ⟨V2.add ⟨-r.y, r.x⟩ (V2.smul (-i) c1), .inl hd, ?_⟩
  generalize hcw : V2.add ⟨-r.y, r.x⟩ (V2.smul (-i) c1) = cw at *
  have hcw0 : cw ≠ V2.zero := by
    intro z; rw [z] at hd; simp [V2.crs, V2.zero] at hd
  have hW := hmin cw hcw0
  have hP : V2.dot (m.pt c1) (m.pt cw) = V2.dot (m.pt c1) (m.pt ⟨-r.y, r.x⟩) - i * V2.nrm (m.pt c1) := by
    rw [← hcw, B2.pt_add, B2.pt_smul]; simp only [V2.nrm, V2.dot, V2.add, V2.smul]; grind
  rw [← hP] at i1 i2
  refine ineq2 hA i1 i2 hW ?_
  have l1 := V2.lagrange (m.pt c1) (m.pt cw)
  have l2 := V2.lagrange (m.pt c1) (m.pt cu)
  rw [B2.crs_pt] at l1 l2
  rw [hd] at l1
  have l3 := sq_nonneg (V2.dot (m.pt c1) (m.pt cu))
  generalize V2.crs c1 cu = z at *
  have z4 := sq_ge4 hu u1 u2
  have := Int.mul_le_mul_of_nonneg_right z4 (sq_nonneg m.det)
  have e5 : m.det * z * (m.det * z) = z * z * (m.det * m.det) := by grind
  have e6 : m.det * 1 * (m.det * 1) = m.det * m.det := by grind
  omega
end Np
end
section
/-! The order of points, sorted lists, boxes, the search for the next that fits. -/
namespace Np
open Sq67 (Vec before firstOf put forward box rootUp norm)

theorem firstOf_irrefl : ∀ a : Vec, firstOf a a = false
  | [] => rfl
  | x :: l => by simp [firstOf, firstOf_irrefl l]

theorem firstOf_trans : ∀ {a b c : Vec}, firstOf a b = true → firstOf b c = true → firstOf a c = true
  | [], _, _, h, _ => by simp [firstOf] at h
  | _ :: _, [], _, h, _ => by simp [firstOf] at h
  | _ :: _, _ :: _, [], _, h => by simp [firstOf] at h
  | x :: l, y :: m, z :: n, h1, h2 => by
    simp only [firstOf, Bool.or_eq_true, decide_eq_true_eq, Bool.and_eq_true, beq_iff_eq] at h1 h2 ⊢
    rcases h1 with h1 | ⟨h1, h1'⟩ <;> rcases h2 with h2 | ⟨h2, h2'⟩
    · left; omega
    · left; omega
    · left; omega
    · right; exact ⟨by omega, firstOf_trans h1' h2'⟩

theorem firstOf_total : ∀ {a b : Vec}, a.length = b.length → a ≠ b → firstOf a b = true ∨ firstOf b a = true
  | [], [], _, h => absurd rfl h
  | [], _ :: _, h, _ => by simp at h
  | _ :: _, [], h, _ => by simp at h
  | x :: l, y :: m, hl, hne => by
    simp only [firstOf, Bool.or_eq_true, decide_eq_true_eq, Bool.and_eq_true, beq_iff_eq]
    rcases Int.lt_trichotomy x y with h | h | h
    · right; left; exact h
    · have : l ≠ m := fun e => hne (by rw [h, e])
      rcases firstOf_total (by simpa using hl) this with g | g
      · left; right; exact ⟨h, g⟩
      · right; right; exact ⟨h.symm, g⟩
    · left; left; exact h

theorem before_iff (a b : Vec) : before a b = true ↔ norm a < norm b ∨ (norm a = norm b ∧ firstOf a b = true) := by
  simp [before, Bool.or_eq_true, decide_eq_true_eq, Bool.and_eq_true, beq_iff_eq]

theorem before_irrefl (a : Vec) : before a a = false := by
  cases h : before a a with
  | false => rfl
  | true => rw [before_iff, firstOf_irrefl] at h; simp at h

theorem before_trans {a b c : Vec} (h1 : before a b = true) (h2 : before b c = true) : before a c = true := by
  rw [before_iff] at h1 h2 ⊢
  rcases h1 with h1 | ⟨h1, h1'⟩ <;> rcases h2 with h2 | ⟨h2, h2'⟩
  · left; omega
  · left; omega
  · left; omega
  · right; exact ⟨by omega, firstOf_trans h1' h2'⟩

theorem before_total {a b : Vec} (hl : a.length = b.length) (hne : a ≠ b) : before a b = true ∨ before b a = true := by
  rw [before_iff, before_iff]
  rcases Int.lt_trichotomy (norm a) (norm b) with h | h | h
  · exact .inl (.inl h)
  · rcases firstOf_total hl hne with g | g
    · exact .inl (.inr ⟨h, g⟩)
    · exact .inr (.inr ⟨h.symm, g⟩)
  · exact .inr (.inl h)

theorem before_norm {a b : Vec} (h : before a b = true) : norm a ≤ norm b := by
  rw [before_iff] at h; omega

def Bef (a b : Vec) : Prop := before a b = true

theorem mem_put {x y : Vec} : ∀ {l : List Vec}, y ∈ put x l ↔ y = x ∨ y ∈ l
  | [] => by simp [put]
  | z :: l => by
    unfold put
    split
    · simp
    · simp only [List.mem_cons, mem_put (l := l)]
      constructor
      · rintro (h | h | h) <;> simp [h]
      · rintro (h | h | h) <;> simp [h]

theorem put_sorted {n : Nat} {x : Vec} : ∀ {l : List Vec}, (∀ v ∈ l, v.length = n) → x.length = n → x ∉ l →
    l.Pairwise Bef → (put x l).Pairwise Bef
  | [], _, _, _, _ => by simp [put]
  | z :: l, hn, hx, hni, hp => by
    unfold put
    split
    · next h =>
      refine List.pairwise_cons.mpr ⟨?_, hp⟩
      intro w hw
      rcases List.mem_cons.mp hw with e | e
      · rw [e]; exact h
      · exact before_trans h ((List.pairwise_cons.mp hp).1 w e)
    · next h =>
      have hz : before z x = true := by
        rcases before_total (a := z) (b := x) (by rw [hx, hn z (by simp)]) (fun e => hni (by simp [e])) with g | g
        · exact g
        · exact absurd g h
      refine List.pairwise_cons.mpr ⟨?_, put_sorted (n := n) (fun v hv => hn v (by simp [hv])) hx (fun e => hni (by simp [e])) (List.pairwise_cons.mp hp).2⟩
      intro w hw
      rcases mem_put.mp hw with e | e
      · rw [e]; exact hz
      · exact (List.pairwise_cons.mp hp).1 w e

theorem fold_put {n : Nat} : ∀ (l acc : List Vec), (∀ v ∈ l, v.length = n) → (∀ v ∈ acc, v.length = n) →
    l.Nodup → (∀ v ∈ l, v ∉ acc) → acc.Pairwise Bef →
    (l.foldl (fun s v => put v s) acc).Pairwise Bef ∧ ∀ v, v ∈ l.foldl (fun s v => put v s) acc ↔ v ∈ l ∨ v ∈ acc
  | [], acc, _, _, _, _, hp => ⟨hp, by simp⟩
  | x :: l, acc, hl, ha, hd, hx, hp => by
    have := fold_put (n := n) l (put x acc) (fun v hv => hl v (by simp [hv]))
      (fun v hv => by rcases mem_put.mp hv with e | e
                      · rw [e]; exact hl x (by simp)
                      · exact ha v e)
      (List.nodup_cons.mp hd).2
      (fun v hv h => by
        rcases mem_put.mp h with e | e
        · rw [e] at hv; exact (List.nodup_cons.mp hd).1 hv
        · exact hx v (by simp [hv]) e)
      (put_sorted ha (hl x (by simp)) (hx x (by simp)) hp)
    refine ⟨this.1, fun v => ?_⟩
    rw [List.foldl_cons, this.2 v, mem_put]
    simp only [List.mem_cons]
    constructor
    · rintro (h | h | h) <;> simp [h]
    · rintro ((h | h) | h) <;> simp [h]

/-- A list in order, of just these. -/
def Told (P : Vec → Prop) (l : List Vec) : Prop := l.Pairwise Bef ∧ ∀ v, v ∈ l ↔ P v

theorem sorted_unique : ∀ {l m : List Vec}, l.Pairwise Bef → m.Pairwise Bef → (∀ v, v ∈ l ↔ v ∈ m) → l = m
  | [], [], _, _, _ => rfl
  | [], y :: m, _, _, h => by have := (h y).mpr (by simp); simp at this
  | x :: l, [], _, _, h => by have := (h x).mp (by simp); simp at this
  | x :: l, y :: m, hl, hm, h => by
    have hl' := List.pairwise_cons.mp hl
    have hm' := List.pairwise_cons.mp hm
    have irr : ∀ v, ¬ Bef v v := fun v e => by rw [Bef, before_irrefl] at e; cases e
    have e : x = y := by
      rcases List.mem_cons.mp ((h x).mp (by simp)) with e | e
      · exact e
      · rcases List.mem_cons.mp ((h y).mpr (by simp)) with f | f
        · exact f.symm
        · exact absurd (before_trans (hm'.1 x e) (hl'.1 y f)) (irr y)
    subst e
    have : l = m := sorted_unique hl'.2 hm'.2 (fun v => by
      constructor
      · intro hv
        rcases List.mem_cons.mp ((h v).mp (by simp [hv])) with f | f
        · rw [f] at hv; exact absurd (hl'.1 x hv) (irr x)
        · exact f
      · intro hv
        rcases List.mem_cons.mp ((h v).mpr (by simp [hv])) with f | f
        · rw [f] at hv; exact absurd (hm'.1 x hv) (irr x)
        · exact f)
    rw [this]

theorem Told.unique {P : Vec → Prop} {l m : List Vec} (h1 : Told P l) (h2 : Told P m) : l = m :=
  sorted_unique h1.1 h2.1 (fun v => (h1.2 v).trans (h2.2 v).symm)

theorem Told.congr {P Q : Vec → Prop} {l : List Vec} (h : Told P l) (e : ∀ v, P v ↔ Q v) : Told Q l :=
  ⟨h.1, fun v => (h.2 v).trans (e v)⟩

theorem Told.filter {P : Vec → Prop} {l : List Vec} (h : Told P l) (p : Vec → Bool) : Told (fun v => P v ∧ p v = true) (l.filter p) :=
  ⟨h.1.filter p, fun v => by rw [List.mem_filter, h.2 v]⟩

theorem split_down (p : Vec → Bool) : ∀ (l : List Vec), l.Pairwise (fun a b => p b = true → p a = true) →
    l = l.filter p ++ l.filter (fun v => !p v)
  | [], _ => rfl
  | x :: l, h => by
    have h' := List.pairwise_cons.mp h
    cases e : p x with
    | true => simp only [List.filter_cons, e]; simpa using split_down p l h'.2
    | false =>
      have none : l.filter p = [] := by
        rw [List.filter_eq_nil_iff]; intro v hv hp
        have := h'.1 v hv hp
        rw [e] at this; cases this
      have all : l.filter (fun v => !p v) = l := by
        rw [List.filter_eq_self]; intro v hv
        cases f : p v with
        | false => rfl
        | true => have := h'.1 v hv f; rw [e] at this; cases this
      simp [e, none, all]

/-- The shorter list is the beginning of the longer. -/
theorem Told.prefix {P : Vec → Prop} {m1 m2 : Int} {l1 l2 : List Vec} (h1 : Told (fun v => P v ∧ norm v ≤ m1) l1)
    (h2 : Told (fun v => P v ∧ norm v ≤ m2) l2) (hm : m1 ≤ m2) : ∃ t, l2 = l1 ++ t := by
  have s := split_down (fun v => decide (norm v ≤ m1)) l2 (h2.1.imp (fun {a b} h hb => by
    have := before_norm h
    simp only [decide_eq_true_eq] at hb ⊢; omega))
  refine ⟨List.filter (fun v => !decide (norm v ≤ m1)) l2, ?_⟩
  rw [h1.unique ((h2.filter (fun v => decide (norm v ≤ m1))).congr (fun v => by
    simp only [decide_eq_true_eq]
    constructor
    · rintro ⟨⟨a, b⟩, c⟩; exact ⟨a, c⟩
    · rintro ⟨a, c⟩; exact ⟨⟨a, by omega⟩, c⟩))]
  exact s

theorem Told.find {P : Vec → Prop} {l : List Vec} (h : Told P l) (p : Vec → Bool) {w : Vec} (hw : P w) (pw : p w = true) :
    ∃ v, l.find? p = some v ∧ P v ∧ p v = true ∧ ∀ u, P u → p u = true → norm v ≤ norm u := by
  have hs : l.Pairwise (fun a b => norm a ≤ norm b) := h.1.imp (fun {a b} h => before_norm h)
  cases e : l.find? p with
  | none =>
    rw [List.find?_eq_none] at e
    exact absurd pw (e w ((h.2 w).mpr hw))
  | some v =>
    refine ⟨v, rfl, (h.2 v).mp (List.mem_of_find?_eq_some e), List.find?_some e, fun u hu pu => ?_⟩
    rw [List.find?_eq_some_iff_append] at e
    obtain ⟨_, as, bs, e1, e2⟩ := e
    have hm := (h.2 u).mpr hu
    rw [e1] at hm hs
    rcases List.mem_append.mp hm with g | g
    · have := e2 u g; simp [pu] at this
    · rcases List.mem_cons.mp g with g | g
      · rw [g]; exact Int.le_refl _
      · exact (List.pairwise_cons.mp (List.pairwise_append.mp hs).2.1).1 u g

/-! ## Boxes -/
theorem mem_box {r : Nat} : ∀ {c v : Vec}, v ∈ box r c ↔ v.length = c.length ∧ ∀ p ∈ v.zip c, p.2 - r ≤ p.1 ∧ p.1 ≤ p.2 + r
  | [], v => by
    cases v <;> simp [box]
  | c :: l, [] => by
    simp [box]
  | c :: l, x :: w => by
    simp only [box, List.mem_flatMap, List.mem_map, List.mem_range, List.length_cons, List.zip_cons_cons, List.mem_cons]
    constructor
    · rintro ⟨i, hi, u, hu, e⟩
      injection e with e1 e2
      subst e2
      have := mem_box.mp hu
      refine ⟨by rw [this.1], ?_⟩
      rintro p (rfl | hp)
      · simp only; omega
      · exact this.2 p hp
    · rintro ⟨h1, h2⟩
      have g := h2 (x, c) (.inl rfl)
      simp only at g
      refine ⟨(x - (c - r)).toNat, by omega, w, mem_box.mpr ⟨by omega, fun p hp => h2 p (.inr hp)⟩, ?_⟩
      rw [Int.toNat_of_nonneg (by omega)]
      congr 1; omega

theorem box_nodup {r : Nat} : ∀ {c : Vec}, (box r c).Nodup
  | [] => by simp [box]
  | c :: l => by
    simp only [box]
    rw [List.nodup_iff_pairwise_ne, List.pairwise_flatMap]
    refine ⟨fun i _ => ?_, ?_⟩
    · rw [List.pairwise_map]
      exact (List.nodup_iff_pairwise_ne.mp (box_nodup (c := l))).imp (fun {a b} h e => h (by injection e))
    · refine (List.nodup_iff_pairwise_ne.mp List.nodup_range).imp (fun {i j} h v hv w hw e => ?_)
      obtain ⟨a, _, rfl⟩ := List.mem_map.mp hv
      obtain ⟨b, _, rfl⟩ := List.mem_map.mp hw
      injection e with e1 e2
      omega

theorem le_rootUp (n : Nat) : n ≤ rootUp n * rootUp n := by
  unfold rootUp
  cases e : (List.range (n + 1)).find? fun r => decide (n ≤ r * r) with
  | none =>
    simp only [Option.getD_none]
    cases n with
    | zero => simp
    | succ k => exact Nat.le_mul_of_pos_left _ (by omega)
  | some r =>
    have := List.find?_some e
    simpa using this

/-! ## The search for the next that fits -/
theorem find_congr {p q : Vec → Bool} : ∀ {l : List Vec}, (∀ v ∈ l, p v = q v) → l.find? p = l.find? q
  | [], _ => rfl
  | x :: l, h => by
    rw [List.find?_cons, List.find?_cons, h x (by simp), find_congr (fun v hv => h v (by simp [hv]))]

def gf (P : List Vec → Bool) (ps : List Vec) : Nat → List Vec → List Vec
  | 0, l => l
  | f + 1, l => match ps.find? fun v => P (l ++ [v]) with
    | none => l
    | some v => gf P ps f (l ++ [v])

theorem reducedFrom_eq (b ps : List Vec) : ∀ f l, Sq67.reducedFrom b ps f l = gf (Sq67.goesOn b) ps f l
  | 0, l => rfl
  | f + 1, l => by
    unfold Sq67.reducedFrom gf
    cases ps.find? fun v => Sq67.goesOn b (l ++ [v]) with
    | none => rfl
    | some v => exact reducedFrom_eq b ps f _

theorem gf_len_le (P : List Vec → Bool) (ps : List Vec) : ∀ f l, (gf P ps f l).length ≤ l.length + f
  | 0, l => by simp [gf]
  | f + 1, l => by
    unfold gf
    split
    · omega
    · have := gf_len_le P ps f
      next v _ => have := this (l ++ [v]); simp at this; omega

theorem gf_prefix (P : List Vec → Bool) (ps t : List Vec) : ∀ f l, (gf P ps f l).length = l.length + f →
    gf P (ps ++ t) f l = gf P ps f l
  | 0, l, _ => rfl
  | f + 1, l, h => by
    unfold gf at h ⊢
    cases e : ps.find? fun v => P (l ++ [v]) with
    | none => rw [e] at h; simp only at h; omega
    | some v =>
      rw [e] at h
      simp only at h
      rw [List.find?_append, e]
      simp only [Option.some_or]
      exact gf_prefix P ps t f _ (by rw [h]; simp; omega)

theorem gf_congr (P Q : List Vec → Bool) (S : Vec → Prop) (ps : List Vec) (hps : ∀ v ∈ ps, S v)
    (n : Nat) (hPQ : ∀ l, (∀ v ∈ l, S v) → l.length ≤ n → P l = Q l) : ∀ f l, (∀ v ∈ l, S v) → l.length + f ≤ n → gf P ps f l = gf Q ps f l
  | 0, l, _, _ => rfl
  | f + 1, l, h, hn => by
    unfold gf
    have e : (ps.find? fun v => P (l ++ [v])) = ps.find? fun v => Q (l ++ [v]) := by
      apply find_congr
      intro v hv
      rw [hPQ]
      · intro w hw
        rcases List.mem_append.mp hw with g | g
        · exact h w g
        · rw [List.mem_singleton.mp g]; exact hps v hv
      · simp; omega
    rw [e]
    cases e2 : ps.find? fun v => Q (l ++ [v]) with
    | none => rfl
    | some v =>
      refine gf_congr P Q S ps hps n hPQ f _ ?_ (by simp; omega)
      intro w hw
      rcases List.mem_append.mp hw with g | g
      · exact h w g
      · rw [List.mem_singleton.mp g]; exact hps v (List.mem_of_find?_eq_some e2)
end Np
end
section
/-! The specification's words over points of three and of two numbers. -/
namespace Np
open Sq67 (Vec before forward box rootUp norm detOf shares has coefficients goesOn gcdAll minors near longest)
def l3 (v : V3) : Vec := [v.x, v.y, v.z]
def l2 (v : V2) : Vec := [v.x, v.y]
def b3 (m : B3) : List Vec := [l3 m.a, l3 m.b, l3 m.c]
def b2 (m : B2) : List Vec := [l2 m.a, l2 m.b]
theorem l3_inj {a b : V3} (h : l3 a = l3 b) : a = b := by
  simp only [l3, List.cons.injEq, and_true] at h
  exact V3.ext' h.1 h.2.1 h.2.2
theorem l2_inj {a b : V2} (h : l2 a = l2 b) : a = b := by
  simp only [l2, List.cons.injEq, and_true] at h
  exact V2.ext' h.1 h.2
theorem dot3 (a b : V3) : Sq67.dot (l3 a) (l3 b) = V3.dot a b := by
  simp [Sq67.dot, l3, V3.dot]; omega
theorem dot2 (a b : V2) : Sq67.dot (l2 a) (l2 b) = V2.dot a b := by
  simp [Sq67.dot, l2, V2.dot]
theorem norm3 (a : V3) : norm (l3 a) = V3.nrm a := dot3 a a
theorem norm2 (a : V2) : norm (l2 a) = V2.nrm a := dot2 a a

theorem detOf3 (a b c : V3) : detOf [l3 a, l3 b, l3 c] = V3.dot a (V3.cross b c) := by
  simp [detOf, Sq67.det, l3, V3.dot, V3.cross, List.range_succ]
  grind
theorem detOf2 (a b : V2) : detOf [l2 a, l2 b] = V2.crs a b := by
  simp [detOf, Sq67.det, l2, V2.crs, List.range_succ]
  grind

theorem shares3 (m : B3) (v : V3) : shares (b3 m) (l3 v)
    = [V3.dot v (V3.cross m.b m.c), V3.dot v (V3.cross m.c m.a), V3.dot v (V3.cross m.a m.b)] := by
  simp only [shares, b3, List.length_cons, List.length_nil, Nat.zero_add, Nat.reduceAdd, List.range_succ, List.range_zero,
    List.nil_append, List.cons_append, List.map_cons, List.map_nil, List.set_cons_zero, List.set_cons_succ, detOf3]
  congr 1
  congr 1
  · simp only [V3.dot, V3.cross]; grind
  congr 1
  · simp only [V3.dot, V3.cross]; grind

theorem shares2 (m : B2) (v : V2) : shares (b2 m) (l2 v) = [V2.crs v m.b, V2.crs m.a v] := by
  simp only [shares, b2, List.length_cons, List.length_nil, Nat.zero_add, Nat.reduceAdd, List.range_succ, List.range_zero,
    List.nil_append, List.cons_append, List.map_cons, List.map_nil, List.set_cons_zero, List.set_cons_succ, detOf2]

theorem det3 (m : B3) : detOf (b3 m) = m.det := detOf3 _ _ _
theorem det2 (m : B2) : detOf (b2 m) = m.det := detOf2 _ _

theorem cof3 (m : B3) (k : V3) : V3.dot (m.pt k) (V3.cross m.b m.c) = m.det * k.x ∧
    V3.dot (m.pt k) (V3.cross m.c m.a) = m.det * k.y ∧ V3.dot (m.pt k) (V3.cross m.a m.b) = m.det * k.z := by
  refine ⟨?_, ?_, ?_⟩ <;> simp only [B3.det, B3.pt, V3.cross, V3.dot] <;> grind
theorem cof2 (m : B2) (k : V2) : V2.crs (m.pt k) m.b = m.det * k.x ∧ V2.crs m.a (m.pt k) = m.det * k.y := by
  refine ⟨?_, ?_⟩ <;> simp only [B2.det, B2.pt, V2.crs] <;> grind

theorem coeff3 (m : B3) (h : m.det ≠ 0) (k : V3) : coefficients (b3 m) (l3 (m.pt k)) = l3 k := by
  obtain ⟨h1, h2, h3⟩ := cof3 m k
  rw [coefficients, shares3, det3, h1, h2, h3]
  simp [l3, Int.mul_ediv_cancel_left _ h]
theorem coeff2 (m : B2) (h : m.det ≠ 0) (k : V2) : coefficients (b2 m) (l2 (m.pt k)) = l2 k := by
  obtain ⟨h1, h2⟩ := cof2 m k
  rw [coefficients, shares2, det2, h1, h2]
  simp [l2, Int.mul_ediv_cancel_left _ h]

theorem has3 (m : B3) (h : m.det ≠ 0) (v : V3) : has (b3 m) (l3 v) = true ↔ ∃ k, v = m.pt k := by
  simp only [has, shares3, det3, List.all_cons, List.all_nil, Bool.and_true, Bool.and_eq_true, beq_iff_eq]
  constructor
  · rintro ⟨h1, h2, h3⟩
    obtain ⟨x, hx⟩ := Int.dvd_of_emod_eq_zero h1
    obtain ⟨y, hy⟩ := Int.dvd_of_emod_eq_zero h2
    obtain ⟨z, hz⟩ := Int.dvd_of_emod_eq_zero h3
    refine ⟨⟨x, y, z⟩, ?_⟩
    have e : ∀ (i : Int) (j : Int), m.det * i = m.det * j → i = j := fun i j e => Int.eq_of_mul_eq_mul_left h e
    apply V3.ext' <;> apply e <;> simp only [B3.pt] <;> simp only [V3.dot, V3.cross] at hx hy hz <;> simp only [B3.det, V3.dot, V3.cross] at * <;> grind
  · rintro ⟨k, rfl⟩
    obtain ⟨h1, h2, h3⟩ := cof3 m k
    rw [h1, h2, h3]
    exact ⟨Int.mul_emod_right _ _, Int.mul_emod_right _ _, Int.mul_emod_right _ _⟩
theorem has2 (m : B2) (h : m.det ≠ 0) (v : V2) : has (b2 m) (l2 v) = true ↔ ∃ k, v = m.pt k := by
  simp only [has, shares2, det2, List.all_cons, List.all_nil, Bool.and_true, Bool.and_eq_true, beq_iff_eq]
  constructor
  · rintro ⟨h1, h2⟩
    obtain ⟨x, hx⟩ := Int.dvd_of_emod_eq_zero h1
    obtain ⟨y, hy⟩ := Int.dvd_of_emod_eq_zero h2
    refine ⟨⟨x, y⟩, ?_⟩
    have e : ∀ (i : Int) (j : Int), m.det * i = m.det * j → i = j := fun i j e => Int.eq_of_mul_eq_mul_left h e
    apply V2.ext' <;> apply e <;> simp only [B2.pt] <;> simp only [B2.det, V2.crs] at * <;> grind
  · rintro ⟨k, rfl⟩
    obtain ⟨h1, h2⟩ := cof2 m k
    rw [h1, h2]
    exact ⟨Int.mul_emod_right _ _, Int.mul_emod_right _ _⟩

/-! gcd of minors -/
theorem gcd3_iff (k : V3) : gcdAll (l3 k) = 1 ↔ ∃ r, V3.dot r k = 1 := by
  simp only [gcdAll, l3, List.foldl_cons, List.foldl_nil, Nat.gcd_zero_left]
  constructor
  · intro h
    obtain ⟨p, q, e1⟩ := bezout k.x k.y
    obtain ⟨s, t, e2⟩ := bezout (Nat.gcd k.x.natAbs k.y.natAbs : Nat) k.z
    rw [Int.natAbs_natCast, h] at e2
    refine ⟨⟨s * p, s * q, t⟩, ?_⟩
    rw [← e1] at e2
    simp only [V3.dot]; grind
  · rintro ⟨r, hr⟩
    have d1 : ((Nat.gcd (Nat.gcd k.x.natAbs k.y.natAbs) k.z.natAbs : Nat) : Int) ∣ 1 := by
      rw [← hr]
      refine Int.dvd_add (Int.dvd_add ?_ ?_) ?_ <;> refine Int.dvd_mul_of_dvd_right ?_
      · exact Int.ofNat_dvd_left.mpr (Nat.dvd_trans (Nat.gcd_dvd_left _ _) (Nat.gcd_dvd_left _ _))
      · exact Int.ofNat_dvd_left.mpr (Nat.dvd_trans (Nat.gcd_dvd_left _ _) (Nat.gcd_dvd_right _ _))
      · exact Int.ofNat_dvd_left.mpr (Nat.gcd_dvd_right _ _)
    exact Nat.dvd_one.mp (Int.ofNat_dvd.mp d1)
theorem gcd2_iff (k : V2) : gcdAll (l2 k) = 1 ↔ ∃ r, V2.dot r k = 1 := by
  simp only [gcdAll, l2, List.foldl_cons, List.foldl_nil, Nat.gcd_zero_left]
  constructor
  · intro h
    obtain ⟨p, q, e1⟩ := bezout k.x k.y
    rw [h] at e1
    exact ⟨⟨p, q⟩, e1⟩
  · rintro ⟨r, hr⟩
    have d1 : ((Nat.gcd k.x.natAbs k.y.natAbs : Nat) : Int) ∣ 1 := by
      rw [← hr]
      refine Int.dvd_add ?_ ?_ <;> refine Int.dvd_mul_of_dvd_right ?_
      · exact Int.ofNat_dvd_left.mpr (Nat.gcd_dvd_left _ _)
      · exact Int.ofNat_dvd_left.mpr (Nat.gcd_dvd_right _ _)
    exact Nat.dvd_one.mp (Int.ofNat_dvd.mp d1)

theorem minors31 (a : V3) : minors 3 [l3 a] = l3 a := rfl
theorem minors32 (a b : V3) : minors 3 [l3 a, l3 b] = [a.x * b.y - a.y * b.x, a.x * b.z - a.z * b.x, a.y * b.z - a.z * b.y] := rfl
theorem minors33 (a b c : V3) : minors 3 [l3 a, l3 b, l3 c] = [V3.dot a (V3.cross b c)] := by
  simp [minors, detOf3]
theorem minors21 (a : V2) : minors 2 [l2 a] = l2 a := rfl
theorem minors22 (a b : V2) : minors 2 [l2 a, l2 b] = [V2.crs a b] := rfl

theorem gcd32 (a b : V3) : gcdAll (minors 3 [l3 a, l3 b]) = 1 ↔ ∃ r, V3.dot r (V3.cross a b) = 1 := by
  rw [minors32]
  have := gcd3_iff ⟨a.x * b.y - a.y * b.x, a.x * b.z - a.z * b.x, a.y * b.z - a.z * b.y⟩
  simp only [l3] at this
  rw [this]
  constructor
  · rintro ⟨r, hr⟩
    exact ⟨⟨r.z, -r.y, r.x⟩, by rw [← hr]; simp only [V3.dot, V3.cross]; grind⟩
  · rintro ⟨r, hr⟩
    exact ⟨⟨r.z, -r.y, r.x⟩, by rw [← hr]; simp only [V3.dot, V3.cross]; grind⟩
theorem gcd_one (x : Int) : gcdAll [x] = 1 ↔ x = 1 ∨ x = -1 := by
  simp only [gcdAll, List.foldl_cons, List.foldl_nil, Nat.gcd_zero_left]; omega

theorem goes31 (m : B3) (h : m.det ≠ 0) (k : V3) : goesOn (b3 m) [l3 (m.pt k)] = true ↔ ∃ r, V3.dot r k = 1 := by
  simp only [goesOn, beq_iff_eq, List.map_cons, List.map_nil, coeff3 m h]
  exact gcd3_iff k
theorem goes32 (m : B3) (h : m.det ≠ 0) (k l : V3) : goesOn (b3 m) [l3 (m.pt k), l3 (m.pt l)] = true ↔ ∃ r, V3.dot r (V3.cross k l) = 1 := by
  simp only [goesOn, beq_iff_eq, List.map_cons, List.map_nil, coeff3 m h]
  exact gcd32 k l
theorem goes33 (m : B3) (h : m.det ≠ 0) (k l o : V3) : goesOn (b3 m) [l3 (m.pt k), l3 (m.pt l), l3 (m.pt o)] = true ↔
    V3.dot (V3.cross k l) o = 1 ∨ V3.dot (V3.cross k l) o = -1 := by
  simp only [goesOn, beq_iff_eq, List.map_cons, List.map_nil, coeff3 m h]
  show gcdAll (minors 3 [l3 k, l3 l, l3 o]) = 1 ↔ _
  rw [minors33, gcd_one]
  have : V3.dot k (V3.cross l o) = V3.dot (V3.cross k l) o := by simp only [V3.dot, V3.cross]; grind
  rw [this]
theorem goes21 (m : B2) (h : m.det ≠ 0) (k : V2) : goesOn (b2 m) [l2 (m.pt k)] = true ↔ ∃ r, V2.dot r k = 1 := by
  simp only [goesOn, beq_iff_eq, List.map_cons, List.map_nil, coeff2 m h]
  exact gcd2_iff k
theorem goes22 (m : B2) (h : m.det ≠ 0) (k l : V2) : goesOn (b2 m) [l2 (m.pt k), l2 (m.pt l)] = true ↔ V2.crs k l = 1 ∨ V2.crs k l = -1 := by
  simp only [goesOn, beq_iff_eq, List.map_cons, List.map_nil, coeff2 m h]
  show gcdAll (minors 2 [l2 k, l2 l]) = 1 ↔ _
  rw [minors22, gcd_one]

/-! forward, one way or the other -/
theorem fwd_cons (x : Int) (l : Vec) : forward (x :: l) = if x = 0 then forward l else decide (0 < x) := by
  unfold forward
  by_cases e : x = 0
  · simp [e]
  · have : (x != 0) = true := by simpa using e
    rw [List.find?_cons, this]; simp [e]
theorem fwd_nil : forward [] = false := rfl
theorem fwd3 {v : V3} (h : v ≠ V3.zero) : forward (l3 v) = true ∨ forward (l3 (V3.smul (-1) v)) = true := by
  simp only [l3, V3.smul, fwd_cons, fwd_nil]
  by_cases e1 : v.x = 0
  · by_cases e2 : v.y = 0
    · by_cases e3 : v.z = 0
      · exact absurd (V3.ext' e1 e2 e3) h
      · simp [e1, e2, e3]; omega
    · simp [e1, e2]; omega
  · simp [e1]; omega
theorem fwd2 {v : V2} (h : v ≠ V2.zero) : forward (l2 v) = true ∨ forward (l2 (V2.smul (-1) v)) = true := by
  simp only [l2, V2.smul, fwd_cons, fwd_nil]
  by_cases e1 : v.x = 0
  · by_cases e2 : v.y = 0
    · exact absurd (V2.ext' e1 e2) h
    · simp [e1, e2]; omega
  · simp [e1]; omega
theorem fwd3_ne {v : V3} (h : forward (l3 v) = true) : v ≠ V3.zero := by
  rintro rfl; simp [l3, V3.zero, fwd_cons, fwd_nil] at h
theorem fwd2_ne {v : V2} (h : forward (l2 v) = true) : v ≠ V2.zero := by
  rintro rfl; simp [l2, V2.zero, fwd_cons, fwd_nil] at h
end Np
end
section
/-! All forward points up to a length; the greedy search over them. -/
namespace Np
open Sq67 (Vec before forward box rootUp norm detOf shares has coefficients goesOn gcdAll minors near longest)

/-- Forward points that are led to, up to a length. -/
def In3 (m : B3) (M : Int) (v : Vec) : Prop := (∃ k, v = l3 (m.pt k) ∧ forward v = true) ∧ norm v ≤ M
def In2 (m : B2) (M : Int) (v : Vec) : Prop := (∃ k, v = l2 (m.pt k) ∧ forward v = true) ∧ norm v ≤ M

theorem len3 {v : Vec} (h : v.length = 3) : ∃ w, v = l3 w := by
  match v, h with
  | [a, b, c], _ => exact ⟨⟨a, b, c⟩, rfl⟩
theorem len2 {v : Vec} (h : v.length = 2) : ∃ w, v = l2 w := by
  match v, h with
  | [a, b], _ => exact ⟨⟨a, b⟩, rfl⟩

theorem foldl_max_le : ∀ (l : List Nat) (a : Nat), a ≤ l.foldl max a ∧ ∀ x ∈ l, x ≤ l.foldl max a
  | [], a => by simp
  | y :: l, a => by
    have := foldl_max_le l (max a y)
    rw [List.foldl_cons]
    refine ⟨by omega, ?_⟩
    intro x hx
    rcases List.mem_cons.mp hx with e | e
    · subst e; omega
    · exact this.2 x e

theorem longest3 (m : B3) : V3.nrm m.a ≤ longest (b3 m) ∧ V3.nrm m.b ≤ longest (b3 m) ∧ V3.nrm m.c ≤ longest (b3 m) := by
  have h := (foldl_max_le ((b3 m).map fun v => (norm v).toNat) 0).2
  have e : ∀ v : V3, ((norm (l3 v)).toNat : Int) = V3.nrm v := fun v => by
    rw [norm3, Int.toNat_of_nonneg (V3.nrm_nonneg v)]
  have h1 := h (norm (l3 m.a)).toNat (by simp [b3])
  have h2 := h (norm (l3 m.b)).toNat (by simp [b3])
  have h3 := h (norm (l3 m.c)).toNat (by simp [b3])
  rw [← e, ← e, ← e]
  exact ⟨Int.ofNat_le.mpr h1, Int.ofNat_le.mpr h2, Int.ofNat_le.mpr h3⟩
theorem longest2 (m : B2) : V2.nrm m.a ≤ longest (b2 m) ∧ V2.nrm m.b ≤ longest (b2 m) := by
  have h := (foldl_max_le ((b2 m).map fun v => (norm v).toNat) 0).2
  have e : ∀ v : V2, ((norm (l2 v)).toNat : Int) = V2.nrm v := fun v => by
    rw [norm2, Int.toNat_of_nonneg (V2.nrm_nonneg v)]
  have h1 := h (norm (l2 m.a)).toNat (by simp [b2])
  have h2 := h (norm (l2 m.b)).toNat (by simp [b2])
  rw [← e, ← e]
  exact ⟨Int.ofNat_le.mpr h1, Int.ofNat_le.mpr h2⟩

theorem in_box_root {M : Nat} {x : Int} (h : x * x ≤ M) : -(rootUp M : Int) ≤ x ∧ x ≤ rootUp M := by
  have h1 := le_rootUp M
  refine abs_le_of_sq (by omega) ?_
  have : ((M : Nat) : Int) ≤ (rootUp M * rootUp M : Nat) := Int.ofNat_le.mpr h1
  rw [Int.natCast_mul] at this
  omega

theorem near3 (m : B3) (h : m.det ≠ 0) : Told (In3 m (longest (b3 m))) (near (b3 m)) := by
  have hn : ∀ v, v ∈ (box (rootUp (longest (b3 m))) (Sq67.origin (b3 m).length)) → v.length = 3 := fun v hv => by
    have := (mem_box.mp hv).1
    simpa [Sq67.origin, b3] using this
  have := fold_put (n := 3) ((box (rootUp (longest (b3 m))) (Sq67.origin (b3 m).length)).filter fun v => forward v && (decide (norm v ≤ longest (b3 m)) && has (b3 m) v)) []
    (fun v hv => hn v (List.mem_filter.mp hv).1) (by simp) (box_nodup.filter _) (by simp) (by simp)
  refine ⟨this.1, fun v => (this.2 v).trans ?_⟩
  simp only [List.not_mem_nil, or_false, List.mem_filter, Bool.and_eq_true, decide_eq_true_eq]
  constructor
  · rintro ⟨h1, h2, h3, h4⟩
    obtain ⟨w, rfl⟩ := len3 (hn v h1)
    obtain ⟨k, rfl⟩ := (has3 m h w).mp h4
    exact ⟨⟨k, rfl, h2⟩, h3⟩
  · rintro ⟨⟨k, rfl, h2⟩, h3⟩
    refine ⟨mem_box.mpr ⟨rfl, ?_⟩, h2, h3, (has3 m h _).mpr ⟨k, rfl⟩⟩
    have h3' := h3
    rw [norm3] at h3'
    generalize m.pt k = w at *
    have s1 := sq_nonneg w.x
    have s2 := sq_nonneg w.y
    have s3 := sq_nonneg w.z
    simp only [V3.nrm, V3.dot] at h3'
    have r1 := in_box_root (M := longest (b3 m)) (x := w.x) (by omega)
    have r2 := in_box_root (M := longest (b3 m)) (x := w.y) (by omega)
    have r3 := in_box_root (M := longest (b3 m)) (x := w.z) (by omega)
    have : (b3 m).length = 3 := rfl
    rw [this]
    intro p hp
    simp only [l3, Sq67.origin, List.replicate_succ, List.replicate_zero, List.zip_cons_cons, List.zip_nil_right, List.mem_cons, List.not_mem_nil, or_false] at hp
    rcases hp with rfl | rfl | rfl <;> simp only <;> omega
theorem near2 (m : B2) (h : m.det ≠ 0) : Told (In2 m (longest (b2 m))) (near (b2 m)) := by
  have hn : ∀ v, v ∈ (box (rootUp (longest (b2 m))) (Sq67.origin (b2 m).length)) → v.length = 2 := fun v hv => by
    have := (mem_box.mp hv).1
    simpa [Sq67.origin, b2] using this
  have := fold_put (n := 2) ((box (rootUp (longest (b2 m))) (Sq67.origin (b2 m).length)).filter fun v => forward v && (decide (norm v ≤ longest (b2 m)) && has (b2 m) v)) []
    (fun v hv => hn v (List.mem_filter.mp hv).1) (by simp) (box_nodup.filter _) (by simp) (by simp)
  refine ⟨this.1, fun v => (this.2 v).trans ?_⟩
  simp only [List.not_mem_nil, or_false, List.mem_filter, Bool.and_eq_true, decide_eq_true_eq]
  constructor
  · rintro ⟨h1, h2, h3, h4⟩
    obtain ⟨w, rfl⟩ := len2 (hn v h1)
    obtain ⟨k, rfl⟩ := (has2 m h w).mp h4
    exact ⟨⟨k, rfl, h2⟩, h3⟩
  · rintro ⟨⟨k, rfl, h2⟩, h3⟩
    refine ⟨mem_box.mpr ⟨rfl, ?_⟩, h2, h3, (has2 m h _).mpr ⟨k, rfl⟩⟩
    have h3' := h3
    rw [norm2] at h3'
    generalize m.pt k = w at *
    have s1 := sq_nonneg w.x
    have s2 := sq_nonneg w.y
    simp only [V2.nrm, V2.dot] at h3'
    have r1 := in_box_root (M := longest (b2 m)) (x := w.x) (by omega)
    have r2 := in_box_root (M := longest (b2 m)) (x := w.y) (by omega)
    have : (b2 m).length = 2 := rfl
    rw [this]
    intro p hp
    simp only [l2, Sq67.origin, List.replicate_succ, List.replicate_zero, List.zip_cons_cons, List.zip_nil_right, List.mem_cons, List.not_mem_nil, or_false] at hp
    rcases hp with rfl | rfl <;> simp only <;> omega

def neg3 (k : V3) : V3 := V3.smul (-1) k
def neg2 (k : V2) : V2 := V2.smul (-1) k
theorem nrm_neg3 (m : B3) (k : V3) : V3.nrm (m.pt (neg3 k)) = V3.nrm (m.pt k) := by
  rw [neg3, B3.pt_smul, B3.nrm_smul]; omega
theorem nrm_neg2 (m : B2) (k : V2) : V2.nrm (m.pt (neg2 k)) = V2.nrm (m.pt k) := by
  rw [neg2, B2.pt_smul, B2.nrm_smul]; omega

/-- Of some k or its opposite the point is forward. -/
theorem fwd_k3 {m : B3} (h : m.det ≠ 0) {k : V3} (hk : k ≠ V3.zero) : ∃ k', (k' = k ∨ k' = neg3 k) ∧ forward (l3 (m.pt k')) = true := by
  have : m.pt k ≠ V3.zero := fun e => hk (B3.pt_zero_of h e)
  rcases fwd3 this with g | g
  · exact ⟨k, .inl rfl, g⟩
  · exact ⟨neg3 k, .inr rfl, by rw [neg3, B3.pt_smul]; exact g⟩
theorem fwd_k2 {m : B2} (h : m.det ≠ 0) {k : V2} (hk : k ≠ V2.zero) : ∃ k', (k' = k ∨ k' = neg2 k) ∧ forward (l2 (m.pt k')) = true := by
  have : m.pt k ≠ V2.zero := fun e => hk (B2.pt_zero_of h e)
  rcases fwd2 this with g | g
  · exact ⟨k, .inl rfl, g⟩
  · exact ⟨neg2 k, .inr rfl, by rw [neg2, B2.pt_smul]; exact g⟩

/-- What the search over points of three numbers finds. -/
structure Red3 (m : B3) (c1 c2 c3 : V3) : Prop where
  one : V3.dot (V3.cross c1 c2) c3 = 1 ∨ V3.dot (V3.cross c1 c2) c3 = -1
  m1 : ∀ c, c ≠ V3.zero → V3.nrm (m.pt c1) ≤ V3.nrm (m.pt c)
  m2 : ∀ c, V3.cross c1 c ≠ V3.zero → V3.nrm (m.pt c2) ≤ V3.nrm (m.pt c)
  m3 : ∀ c, V3.dot (V3.cross c1 c2) c ≠ 0 → V3.nrm (m.pt c3) ≤ V3.nrm (m.pt c)
  f1 : forward (l3 (m.pt c1)) = true
  f2 : forward (l3 (m.pt c2)) = true
  f3 : forward (l3 (m.pt c3)) = true

theorem dot_one_ne {r k : V3} (h : V3.dot r k = 1) : k ≠ V3.zero := by
  rintro rfl; simp [V3.dot, V3.zero] at h

/-- a finding of the search: it is in the list, fits, and is as short as any that fits -/
theorem find3 {m : B3} (hD : m.det ≠ 0) {M : Int} {ps : List Vec} (hps : Told (In3 m M) ps) (p : Vec → Bool) (F : V3 → Prop)
    (hp : ∀ k, p (l3 (m.pt k)) = true ↔ F k) (hneg : ∀ k, F k → F (neg3 k)) (hne : ∀ k, F k → k ≠ V3.zero)
    {w : V3} (hw : F w) (hM : V3.nrm (m.pt w) ≤ M) :
    ∃ c, ps.find? p = some (l3 (m.pt c)) ∧ F c ∧ V3.nrm (m.pt c) ≤ M ∧ forward (l3 (m.pt c)) = true ∧ ∀ k, F k → V3.nrm (m.pt c) ≤ V3.nrm (m.pt k) := by
  have key : ∀ k, F k → ∃ k', F k' ∧ V3.nrm (m.pt k') = V3.nrm (m.pt k) ∧ forward (l3 (m.pt k')) = true := fun k hk => by
    obtain ⟨k', e, hf⟩ := fwd_k3 hD (hne k hk)
    rcases e with rfl | rfl
    · exact ⟨k', hk, rfl, hf⟩
    · exact ⟨_, hneg k hk, nrm_neg3 m k, hf⟩
  obtain ⟨w', hw', en, hf⟩ := key w hw
  obtain ⟨v, hv, hP, pv, hmin⟩ := hps.find p (w := l3 (m.pt w')) ⟨⟨w', rfl, hf⟩, by rw [norm3, en]; exact hM⟩ ((hp w').mpr hw')
  obtain ⟨⟨c, rfl, hfc⟩, hcM⟩ := hP
  rw [norm3] at hcM
  refine ⟨c, hv, (hp c).mp pv, hcM, hfc, fun k hk => ?_⟩
  obtain ⟨k', hk', en', hf'⟩ := key k hk
  rcases Int.lt_or_le M (V3.nrm (m.pt k)) with g | g
  · omega
  · have := hmin (l3 (m.pt k')) ⟨⟨k', rfl, hf'⟩, by rw [norm3, en']; exact g⟩ ((hp k').mpr hk')
    rw [norm3, norm3, en'] at this
    exact this

theorem cross_neg (a k : V3) : V3.cross a (neg3 k) = neg3 (V3.cross a k) := by
  apply V3.ext' <;> simp only [V3.cross, neg3, V3.smul] <;> grind
theorem dot_neg (a k : V3) : V3.dot a (neg3 k) = - V3.dot a k := by
  simp only [V3.dot, neg3, V3.smul]; grind
theorem neg_neg3 (k : V3) : neg3 (neg3 k) = k := by
  apply V3.ext' <;> simp only [neg3, V3.smul] <;> omega

/-- **The greedy search in three numbers ends with three.** -/
theorem greedy3 (m : B3) (hD : m.det ≠ 0) (M : Int) (ps : List Vec) (hps : Told (In3 m M) ps)
    (ha : V3.nrm m.a ≤ M) (hb : V3.nrm m.b ≤ M) (hc : V3.nrm m.c ≤ M) :
    ∃ c1 c2 c3, gf (goesOn (b3 m)) ps 3 [] = [l3 (m.pt c1), l3 (m.pt c2), l3 (m.pt c3)] ∧ Red3 m c1 c2 c3 := by
  have ea : m.pt ⟨1, 0, 0⟩ = m.a := by apply V3.ext' <;> simp [B3.pt]
  have eb : m.pt ⟨0, 1, 0⟩ = m.b := by apply V3.ext' <;> simp [B3.pt]
  have ec : m.pt ⟨0, 0, 1⟩ = m.c := by apply V3.ext' <;> simp [B3.pt]
  -- the first
  obtain ⟨c1, e1, ⟨r1, hr1⟩, hM1, f1, min1⟩ := find3 hD hps (fun v => goesOn (b3 m) ([] ++ [v])) (fun k => ∃ r, V3.dot r k = 1)
    (fun k => goes31 m hD k)
    (fun k ⟨r, hr⟩ => ⟨neg3 r, by rw [← hr]; simp only [V3.dot, neg3, V3.smul]; grind⟩)
    (fun k ⟨r, hr⟩ => dot_one_ne hr) (w := ⟨1, 0, 0⟩) ⟨⟨1, 0, 0⟩, rfl⟩ (by rw [ea]; exact ha)
  have m1 : ∀ c, c ≠ V3.zero → V3.nrm (m.pt c1) ≤ V3.nrm (m.pt c) := fun c hc0 => by
    obtain ⟨g, l, r, hg, e, hr⟩ := primitive3 c hc0
    have := min1 l ⟨r, hr⟩
    rw [e, B3.pt_smul, B3.nrm_smul]
    have n0 := V3.nrm_nonneg (m.pt l)
    have : 1 * V3.nrm (m.pt l) ≤ g * g * V3.nrm (m.pt l) := by
      refine Int.mul_le_mul_of_nonneg_right ?_ n0
      have := sq_pos (a := g) (by omega)
      omega
    omega
  have hc10 : c1 ≠ V3.zero := dot_one_ne hr1
  -- the second
  have ex2 : ∃ w, V3.cross c1 w ≠ V3.zero ∧ V3.nrm (m.pt w) ≤ M := by
    by_cases x1 : V3.cross c1 ⟨1, 0, 0⟩ = V3.zero
    · refine ⟨⟨0, 1, 0⟩, ?_, by rw [eb]; exact hb⟩
      intro x2
      apply hc10
      simp only [V3.cross, V3.zero, V3.mk.injEq] at x1 x2
      exact V3.ext' (by show c1.x = 0; omega) (by show c1.y = 0; omega) (by show c1.z = 0; omega)
    · exact ⟨⟨1, 0, 0⟩, x1, by rw [ea]; exact ha⟩
  obtain ⟨u2, hu2, hu2M⟩ := ex2
  obtain ⟨w2, s2, hs2, hw2⟩ := step2 m hD c1 u2 r1 hr1 m1 hu2
  obtain ⟨c2, e2, ⟨r2, hr2⟩, hM2, f2, min2⟩ := find3 hD hps (fun v => goesOn (b3 m) ([l3 (m.pt c1)] ++ [v])) (fun k => ∃ r, V3.dot r (V3.cross c1 k) = 1)
    (fun k => goes32 m hD c1 k)
    (fun k ⟨r, hr⟩ => ⟨neg3 r, by rw [← hr, cross_neg]; simp only [V3.dot, neg3, V3.smul]; grind⟩)
    (fun k ⟨r, hr⟩ => by rintro rfl; simp [V3.dot, V3.cross, V3.zero] at hr) (w := w2) ⟨s2, hs2⟩ (by omega)
  have m2 : ∀ c, V3.cross c1 c ≠ V3.zero → V3.nrm (m.pt c2) ≤ V3.nrm (m.pt c) := fun c hc0 => by
    obtain ⟨w, s, hs, hw⟩ := step2 m hD c1 c r1 hr1 m1 hc0
    have := min2 w ⟨s, hs⟩
    omega
  have hn : V3.cross c1 c2 ≠ V3.zero := dot_one_ne hr2
  have hc20 : c2 ≠ V3.zero := by rintro rfl; apply hn; apply V3.ext' <;> simp [V3.cross, V3.zero]
  have hAC := m1 c2 hc20
  have sh : ∀ i : Int, V3.cross c1 (V3.add c2 (V3.smul i c1)) = V3.cross c1 c2 := fun i => by
    apply V3.ext' <;> simp only [V3.cross, V3.add, V3.smul] <;> grind
  have nn : ∀ i : Int, V3.nrm (m.pt (V3.add c2 (V3.smul i c1))) = V3.nrm (m.pt c2) + 2 * (i * V3.dot (m.pt c1) (m.pt c2)) + i * i * V3.nrm (m.pt c1) := fun i => by
    rw [B3.pt_add, B3.pt_smul]; simp only [V3.nrm, V3.dot, V3.add, V3.smul]; grind
  have hb1 := m2 _ (by rw [sh 1]; exact hn)
  have hb2 := m2 _ (by rw [sh (-1)]; exact hn)
  rw [nn] at hb1 hb2
  -- the third
  have ex3 : ∃ w, V3.dot (V3.cross c1 c2) w ≠ 0 ∧ V3.nrm (m.pt w) ≤ M := by
    by_cases x1 : V3.dot (V3.cross c1 c2) ⟨1, 0, 0⟩ = 0
    · by_cases x2 : V3.dot (V3.cross c1 c2) ⟨0, 1, 0⟩ = 0
      · refine ⟨⟨0, 0, 1⟩, ?_, by rw [ec]; exact hc⟩
        intro x3
        apply hn
        generalize V3.cross c1 c2 = n at *
        simp only [V3.dot] at x1 x2 x3
        exact V3.ext' (by show n.x = 0; omega) (by show n.y = 0; omega) (by show n.z = 0; omega)
      · exact ⟨⟨0, 1, 0⟩, x2, by rw [eb]; exact hb⟩
    · exact ⟨⟨1, 0, 0⟩, x1, by rw [ea]; exact ha⟩
  have m2' : ∀ c, V3.dot (V3.cross c1 c2) c ≠ 0 → V3.nrm (m.pt c2) ≤ V3.nrm (m.pt c) := fun c hc0 => m2 c (by
    intro e
    apply hc0
    have : V3.dot (V3.cross c1 c2) c = - V3.dot (V3.cross c1 c) c2 := by simp only [V3.dot, V3.cross]; grind
    rw [this, e]; simp [V3.dot, V3.zero])
  obtain ⟨u3, hu3, hu3M⟩ := ex3
  obtain ⟨w3, hs3, hw3⟩ := step3 m hD c1 c2 u3 r2 hr2 m2' hAC (by omega) (by omega) hu3
  obtain ⟨c3, e3, hone, hM3, f3, min3⟩ := find3 hD hps (fun v => goesOn (b3 m) ([l3 (m.pt c1), l3 (m.pt c2)] ++ [v])) (fun k => V3.dot (V3.cross c1 c2) k = 1 ∨ V3.dot (V3.cross c1 c2) k = -1)
    (fun k => goes33 m hD c1 c2 k)
    (fun k hk => by rw [dot_neg]; omega)
    (fun k hk => by rintro rfl; simp [V3.dot, V3.zero] at hk) (w := w3) hs3 (by omega)
  have m3 : ∀ c, V3.dot (V3.cross c1 c2) c ≠ 0 → V3.nrm (m.pt c3) ≤ V3.nrm (m.pt c) := fun c hc0 => by
    obtain ⟨w, hs, hw⟩ := step3 m hD c1 c2 c r2 hr2 m2' hAC (by omega) (by omega) hc0
    have := min3 w hs
    omega
  refine ⟨c1, c2, c3, ?_, ⟨hone, m1, m2, m3, f1, f2, f3⟩⟩
  simp only [List.cons_append, List.nil_append] at e1 e2 e3
  simp only [gf, List.nil_append, List.cons_append, e1, e2, e3]

structure Red2 (m : B2) (c1 c2 : V2) : Prop where
  one : V2.crs c1 c2 = 1 ∨ V2.crs c1 c2 = -1
  m1 : ∀ c, c ≠ V2.zero → V2.nrm (m.pt c1) ≤ V2.nrm (m.pt c)
  m2 : ∀ c, V2.crs c1 c ≠ 0 → V2.nrm (m.pt c2) ≤ V2.nrm (m.pt c)
  f1 : forward (l2 (m.pt c1)) = true
  f2 : forward (l2 (m.pt c2)) = true

theorem find2 {m : B2} (hD : m.det ≠ 0) {M : Int} {ps : List Vec} (hps : Told (In2 m M) ps) (p : Vec → Bool) (F : V2 → Prop)
    (hp : ∀ k, p (l2 (m.pt k)) = true ↔ F k) (hneg : ∀ k, F k → F (neg2 k)) (hne : ∀ k, F k → k ≠ V2.zero)
    {w : V2} (hw : F w) (hM : V2.nrm (m.pt w) ≤ M) :
    ∃ c, ps.find? p = some (l2 (m.pt c)) ∧ F c ∧ V2.nrm (m.pt c) ≤ M ∧ forward (l2 (m.pt c)) = true ∧ ∀ k, F k → V2.nrm (m.pt c) ≤ V2.nrm (m.pt k) := by
  have key : ∀ k, F k → ∃ k', F k' ∧ V2.nrm (m.pt k') = V2.nrm (m.pt k) ∧ forward (l2 (m.pt k')) = true := fun k hk => by
    obtain ⟨k', e, hf⟩ := fwd_k2 hD (hne k hk)
    rcases e with rfl | rfl
    · exact ⟨k', hk, rfl, hf⟩
    · exact ⟨_, hneg k hk, nrm_neg2 m k, hf⟩
  obtain ⟨w', hw', en, hf⟩ := key w hw
  obtain ⟨v, hv, hP, pv, hmin⟩ := hps.find p (w := l2 (m.pt w')) ⟨⟨w', rfl, hf⟩, by rw [norm2, en]; exact hM⟩ ((hp w').mpr hw')
  obtain ⟨⟨c, rfl, hfc⟩, hcM⟩ := hP
  rw [norm2] at hcM
  refine ⟨c, hv, (hp c).mp pv, hcM, hfc, fun k hk => ?_⟩
  obtain ⟨k', hk', en', hf'⟩ := key k hk
  rcases Int.lt_or_le M (V2.nrm (m.pt k)) with g | g
  · omega
  · have := hmin (l2 (m.pt k')) ⟨⟨k', rfl, hf'⟩, by rw [norm2, en']; exact g⟩ ((hp k').mpr hk')
    rw [norm2, norm2, en'] at this
    exact this

theorem greedy2 (m : B2) (hD : m.det ≠ 0) (M : Int) (ps : List Vec) (hps : Told (In2 m M) ps)
    (ha : V2.nrm m.a ≤ M) (hb : V2.nrm m.b ≤ M) :
    ∃ c1 c2, gf (goesOn (b2 m)) ps 2 [] = [l2 (m.pt c1), l2 (m.pt c2)] ∧ Red2 m c1 c2 := by
  have ea : m.pt ⟨1, 0⟩ = m.a := by apply V2.ext' <;> simp [B2.pt]
  have eb : m.pt ⟨0, 1⟩ = m.b := by apply V2.ext' <;> simp [B2.pt]
  obtain ⟨c1, e1, ⟨r1, hr1⟩, hM1, f1, min1⟩ := find2 hD hps (fun v => goesOn (b2 m) ([] ++ [v])) (fun k => ∃ r, V2.dot r k = 1)
    (fun k => goes21 m hD k)
    (fun k ⟨r, hr⟩ => ⟨neg2 r, by rw [← hr]; simp only [V2.dot, neg2, V2.smul]; grind⟩)
    (fun k ⟨r, hr⟩ => by rintro rfl; simp [V2.dot, V2.zero] at hr) (w := ⟨1, 0⟩) ⟨⟨1, 0⟩, rfl⟩ (by rw [ea]; exact ha)
  have m1 : ∀ c, c ≠ V2.zero → V2.nrm (m.pt c1) ≤ V2.nrm (m.pt c) := fun c hc0 => by
    obtain ⟨g, l, r, hg, e, hr⟩ := primitive2 c hc0
    have := min1 l ⟨r, hr⟩
    rw [e, B2.pt_smul, B2.nrm_smul]
    have n0 := V2.nrm_nonneg (m.pt l)
    have : 1 * V2.nrm (m.pt l) ≤ g * g * V2.nrm (m.pt l) := by
      refine Int.mul_le_mul_of_nonneg_right ?_ n0
      have := sq_pos (a := g) (by omega)
      omega
    omega
  have hc10 : c1 ≠ V2.zero := by rintro rfl; simp [V2.dot, V2.zero] at hr1
  have ex2 : ∃ w, V2.crs c1 w ≠ 0 ∧ V2.nrm (m.pt w) ≤ M := by
    by_cases x1 : V2.crs c1 ⟨1, 0⟩ = 0
    · refine ⟨⟨0, 1⟩, ?_, by rw [eb]; exact hb⟩
      intro x2
      apply hc10
      simp only [V2.crs] at x1 x2
      exact V2.ext' (by show c1.x = 0; omega) (by show c1.y = 0; omega)
    · exact ⟨⟨1, 0⟩, x1, by rw [ea]; exact ha⟩
  obtain ⟨u2, hu2, hu2M⟩ := ex2
  obtain ⟨w2, hs2, hw2⟩ := step2of2 m hD c1 u2 r1 hr1 m1 hu2
  obtain ⟨c2, e2, hone, hM2, f2, min2⟩ := find2 hD hps (fun v => goesOn (b2 m) ([l2 (m.pt c1)] ++ [v])) (fun k => V2.crs c1 k = 1 ∨ V2.crs c1 k = -1)
    (fun k => goes22 m hD c1 k)
    (fun k hk => by
      have : V2.crs c1 (neg2 k) = - V2.crs c1 k := by simp only [V2.crs, neg2, V2.smul]; grind
      rw [this]; omega)
    (fun k hk => by rintro rfl; simp [V2.crs, V2.zero] at hk) (w := w2) hs2 (by omega)
  have m2 : ∀ c, V2.crs c1 c ≠ 0 → V2.nrm (m.pt c2) ≤ V2.nrm (m.pt c) := fun c hc0 => by
    obtain ⟨w, hs, hw⟩ := step2of2 m hD c1 c r1 hr1 m1 hc0
    have := min2 w hs
    omega
  refine ⟨c1, c2, ?_, ⟨hone, m1, m2, f1, f2⟩⟩
  simp only [List.cons_append, List.nil_append] at e1 e2
  simp only [gf, List.nil_append, List.cons_append, e1, e2]
end Np
end
section
/-! Other steps that lead to the same points; the search in one go. -/
namespace Np
open Sq67 (Vec before forward box rootUp norm detOf shares has coefficients goesOn gcdAll minors near longest apart)

/-! ## the search in one go -/
def gl (P : List Vec → Bool) (n : Nat) : List Vec → List Vec → List Vec
  | [], l => l
  | v :: ps, l => if (decide (l.length < n) && P (l ++ [v])) = true then gl P n ps (l ++ [v]) else gl P n ps l

theorem gl_full (P : List Vec → Bool) (n : Nat) : ∀ ps l, n ≤ l.length → gl P n ps l = l
  | [], l, _ => rfl
  | v :: ps, l, h => by
    have : decide (l.length < n) = false := by simp; omega
    simp only [gl, this, Bool.false_and, Bool.false_eq_true, if_false]
    exact gl_full P n ps l h

theorem gl_append (P : List Vec → Bool) (n : Nat) : ∀ ps t l, gl P n (ps ++ t) l = gl P n t (gl P n ps l)
  | [], t, l => rfl
  | v :: ps, t, l => by
    rw [List.cons_append, gl, gl]
    split
    · exact gl_append P n ps t _
    · exact gl_append P n ps t _

theorem foldl_gl (P : List Vec → Bool) (n : Nat) : ∀ ps l,
    ps.foldl (fun (l : List Vec) v => if (decide (l.length < n) && P (l ++ [v])) = true then l ++ [v] else l) l = gl P n ps l
  | [], l => rfl
  | v :: ps, l => by
    rw [List.foldl_cons, gl]
    split
    · exact foldl_gl P n ps _
    · exact foldl_gl P n ps _

theorem gl_congr (P Q : List Vec → Bool) (S : Vec → Prop) (n : Nat)
    (hPQ : ∀ l, (∀ v ∈ l, S v) → l.length ≤ n → P l = Q l) : ∀ ps l, (∀ v ∈ ps, S v) → (∀ v ∈ l, S v) → gl P n ps l = gl Q n ps l
  | [], l, _, _ => rfl
  | v :: ps, l, h1, h2 => by
    have hb : ∀ w ∈ l ++ [v], S w := by
      intro w hw
      rcases List.mem_append.mp hw with g | g
      · exact h2 w g
      · rw [List.mem_singleton.mp g]; exact h1 v (by simp)
    have e : (decide (l.length < n) && P (l ++ [v])) = (decide (l.length < n) && Q (l ++ [v])) := by
      by_cases hl : l.length < n
      · rw [hPQ _ hb (by simp; omega)]
      · simp [hl]
    rw [gl, gl, e]
    split
    · exact gl_congr P Q S n hPQ ps _ (fun v hv => h1 v (by simp [hv])) hb
    · exact gl_congr P Q S n hPQ ps _ (fun v hv => h1 v (by simp [hv])) h2

theorem gf_eq_gl_aux (P : List Vec → Bool) (S : Vec → Prop) (n : Nat)
    (hc : ∀ l t v, (∀ x ∈ l ++ t ++ [v], S x) → (l ++ t ++ [v]).length ≤ n → P (l ++ t ++ [v]) = true → P (l ++ [v]) = true)
    (hs : ∀ l t v, (∀ x ∈ l ++ [v] ++ t ++ [v], S x) → (l ++ [v] ++ t ++ [v]).length ≤ n → P (l ++ [v] ++ t ++ [v]) = false) :
    ∀ (ps gone : List Vec) (f : Nat) (l : List Vec), (∀ v ∈ ps, S v) → (∀ v ∈ gone, S v) → (∀ v ∈ l, S v) → l.length + f = n →
      (∀ v ∈ gone, ∀ t, (∀ x ∈ l ++ t ++ [v], S x) → (l ++ t ++ [v]).length ≤ n → P (l ++ t ++ [v]) = false) →
      gf P (gone ++ ps) f l = gl P n ps l
  | [], gone, 0, l, _, _, _, _, _ => rfl
  | [], gone, f + 1, l, hp, hd, hl, hn, hg => by
    rw [gf]
    have : ((gone ++ []).find? fun v => P (l ++ [v])) = none := by
      rw [List.find?_eq_none]
      intro v hv
      rw [List.append_nil] at hv
      have := hg v hv [] (by
        intro x hx
        rcases List.mem_append.mp hx with h | h
        · rcases List.mem_append.mp h with h | h
          · exact hl x h
          · simp at h
        · rw [List.mem_singleton.mp h]; exact hd v hv) (by simp; omega)
      rw [List.append_nil] at this
      rw [this]; decide
    rw [this]; rfl
  | v :: ps, gone, 0, l, _, _, _, hn, _ => by
    rw [gl_full P n _ l (by omega)]; rfl
  | v :: ps, gone, f + 1, l, hp, hd, hl, hn, hg => by
    have sv : S v := hp v (by simp)
    have hlv : ∀ w ∈ l ++ [v], S w := by
      intro w hw
      rcases List.mem_append.mp hw with g | g
      · exact hl w g
      · rw [List.mem_singleton.mp g]; exact sv
    have hd' : ∀ w ∈ gone ++ [v], S w := by
      intro w hw
      rcases List.mem_append.mp hw with g | g
      · exact hd w g
      · rw [List.mem_singleton.mp g]; exact sv
    have hgone : ((gone).find? fun v => P (l ++ [v])) = none := by
      rw [List.find?_eq_none]
      intro w hw
      have := hg w hw [] (by
        intro x hx
        rcases List.mem_append.mp hx with h | h
        · rcases List.mem_append.mp h with h | h
          · exact hl x h
          · simp at h
        · rw [List.mem_singleton.mp h]; exact hd w hw) (by simp; omega)
      rw [List.append_nil] at this
      rw [this]; decide
    have hlt : decide (l.length < n) = true := by simp; omega
    have ea : gone ++ v :: ps = (gone ++ [v]) ++ ps := by simp
    cases e : P (l ++ [v]) with
    | true =>
      rw [gl, e, hlt]
      simp only [Bool.and_self, if_true]
      rw [gf, List.find?_append, hgone, List.find?_cons, e]
      simp only [Option.none_or]
      rw [ea]
      refine gf_eq_gl_aux P S n hc hs ps (gone ++ [v]) f (l ++ [v]) (fun w hw => hp w (by simp [hw])) hd' hlv (by simp; omega) ?_
      intro w hw t ht hlen
      rcases List.mem_append.mp hw with g | g
      · have := hg w g ([v] ++ t) (by simpa using ht) (by simpa using hlen)
        simpa using this
      · rw [List.mem_singleton.mp g] at ht hlen ⊢
        exact hs l t v ht hlen
    | false =>
      rw [gl, e]
      simp only [Bool.and_false, Bool.false_eq_true, if_false]
      rw [ea]
      refine gf_eq_gl_aux P S n hc hs ps (gone ++ [v]) (f + 1) l (fun w hw => hp w (by simp [hw])) hd' hl hn ?_
      intro w hw t ht hlen
      rcases List.mem_append.mp hw with g | g
      · exact hg w g t ht hlen
      · rw [List.mem_singleton.mp g] at ht hlen ⊢
        cases e2 : P (l ++ t ++ [v]) with
        | false => rfl
        | true => rw [hc l t v ht hlen e2] at e; cases e

theorem gf_eq_gl (P : List Vec → Bool) (S : Vec → Prop) (n : Nat)
    (hc : ∀ l t v, (∀ x ∈ l ++ t ++ [v], S x) → (l ++ t ++ [v]).length ≤ n → P (l ++ t ++ [v]) = true → P (l ++ [v]) = true)
    (hs : ∀ l t v, (∀ x ∈ l ++ [v] ++ t ++ [v], S x) → (l ++ [v] ++ t ++ [v]).length ≤ n → P (l ++ [v] ++ t ++ [v]) = false)
    (ps : List Vec) (hps : ∀ v ∈ ps, S v) : gf P ps n [] = gl P n ps [] :=
  gf_eq_gl_aux P S n hc hs ps [] n [] hps (by simp) (by simp) (by simp) (by simp)

/-- The two conditions above, for three, from the few that there are. -/
theorem close3 {P : List Vec → Bool} {S : Vec → Prop}
    (h1 : ∀ u v, S u → S v → P [u, v] = true → P [v] = true)
    (h2 : ∀ u w v, S u → S w → S v → P [u, w, v] = true → P [v] = true)
    (h3 : ∀ u w v, S u → S w → S v → P [u, w, v] = true → P [u, v] = true)
    (l t : List Vec) (v : Vec) (hx : ∀ x ∈ l ++ t ++ [v], S x) (hn : (l ++ t ++ [v]).length ≤ 3) (h : P (l ++ t ++ [v]) = true) :
    P (l ++ [v]) = true := by
  match l, t with
  | l, [] => simpa using h
  | [], [w] => exact h1 w v (hx w (by simp)) (hx v (by simp)) h
  | [], [u, w] => exact h2 u w v (hx u (by simp)) (hx w (by simp)) (hx v (by simp)) h
  | [u], [w] => exact h3 u w v (hx u (by simp)) (hx w (by simp)) (hx v (by simp)) h
  | [], _ :: _ :: _ :: _ => simp at hn
  | [_], _ :: _ :: _ => simp at hn
  | _ :: _ :: _, _ :: _ => simp at hn; omega
theorem self3 {P : List Vec → Bool} {S : Vec → Prop}
    (h1 : ∀ v, S v → P [v, v] = false)
    (h2 : ∀ u v, S u → S v → P [u, v, v] = false)
    (h3 : ∀ u v, S u → S v → P [v, u, v] = false)
    (l t : List Vec) (v : Vec) (hx : ∀ x ∈ l ++ [v] ++ t ++ [v], S x) (hn : (l ++ [v] ++ t ++ [v]).length ≤ 3) :
    P (l ++ [v] ++ t ++ [v]) = false := by
  match l, t with
  | [], [] => exact h1 v (hx v (by simp))
  | [], [w] => exact h3 w v (hx w (by simp)) (hx v (by simp))
  | [u], [] => exact h2 u v (hx u (by simp)) (hx v (by simp))
  | [], _ :: _ :: _ => simp at hn
  | [_], _ :: _ => simp at hn
  | _ :: _ :: _, _ => simp at hn; omega

/-! ## the same points by other steps -/
def Same3 (m s : B3) : Prop := ∃ U V : B3, (∀ k, m.pt k = s.pt (U.pt k)) ∧ (∀ k, s.pt k = m.pt (V.pt k))
def Same2 (m s : B2) : Prop := ∃ U V : B2, (∀ k, m.pt k = s.pt (U.pt k)) ∧ (∀ k, s.pt k = m.pt (V.pt k))
theorem Same3.symm {m s : B3} (h : Same3 m s) : Same3 s m := let ⟨U, V, a, b⟩ := h; ⟨V, U, b, a⟩
theorem Same2.symm {m s : B2} (h : Same2 m s) : Same2 s m := let ⟨U, V, a, b⟩ := h; ⟨V, U, b, a⟩
theorem Same3.refl (m : B3) : Same3 m m := by
  refine ⟨⟨⟨1, 0, 0⟩, ⟨0, 1, 0⟩, ⟨0, 0, 1⟩⟩, ⟨⟨1, 0, 0⟩, ⟨0, 1, 0⟩, ⟨0, 0, 1⟩⟩, fun k => ?_, fun k => ?_⟩ <;>
  · congr 1; apply V3.ext' <;> simp [B3.pt]
theorem Same2.refl (m : B2) : Same2 m m := by
  refine ⟨⟨⟨1, 0⟩, ⟨0, 1⟩⟩, ⟨⟨1, 0⟩, ⟨0, 1⟩⟩, fun k => ?_, fun k => ?_⟩ <;>
  · congr 1; apply V2.ext' <;> simp [B2.pt]
def comp3 (U V : B3) : B3 := ⟨U.pt V.a, U.pt V.b, U.pt V.c⟩
theorem comp3_pt (U V : B3) (k : V3) : (comp3 U V).pt k = U.pt (V.pt k) := by
  apply V3.ext' <;> simp only [B3.pt, comp3] <;> grind
theorem comp3_det (U V : B3) : (comp3 U V).det = U.det * V.det := by
  simp only [B3.det, comp3, B3.pt, V3.dot, V3.cross]; grind
def comp2 (U V : B2) : B2 := ⟨U.pt V.a, U.pt V.b⟩
theorem comp2_pt (U V : B2) (k : V2) : (comp2 U V).pt k = U.pt (V.pt k) := by
  apply V2.ext' <;> simp only [B2.pt, comp2] <;> grind
theorem comp2_det (U V : B2) : (comp2 U V).det = U.det * V.det := by
  simp only [B2.det, comp2, B2.pt, V2.crs]; grind
theorem Same3.trans {m s t : B3} (h : Same3 m s) (g : Same3 s t) : Same3 m t := by
  obtain ⟨U, V, a, b⟩ := h
  obtain ⟨U', V', a', b'⟩ := g
  exact ⟨comp3 U' U, comp3 V V', fun k => by rw [comp3_pt, a, a'], fun k => by rw [comp3_pt, b', b]⟩
theorem Same2.trans {m s t : B2} (h : Same2 m s) (g : Same2 s t) : Same2 m t := by
  obtain ⟨U, V, a, b⟩ := h
  obtain ⟨U', V', a', b'⟩ := g
  exact ⟨comp2 U' U, comp2 V V', fun k => by rw [comp2_pt, a, a'], fun k => by rw [comp2_pt, b', b]⟩
theorem pts3 (m : B3) : m.pt ⟨1, 0, 0⟩ = m.a ∧ m.pt ⟨0, 1, 0⟩ = m.b ∧ m.pt ⟨0, 0, 1⟩ = m.c := by
  refine ⟨?_, ?_, ?_⟩ <;> apply V3.ext' <;> simp [B3.pt]
theorem pts2 (m : B2) : m.pt ⟨1, 0⟩ = m.a ∧ m.pt ⟨0, 1⟩ = m.b := by
  refine ⟨?_, ?_⟩ <;> apply V2.ext' <;> simp [B2.pt]
theorem b3_ext {m s : B3} (h : ∀ k, m.pt k = s.pt k) : m = s := by
  have h1 := h ⟨1, 0, 0⟩; have h2 := h ⟨0, 1, 0⟩; have h3 := h ⟨0, 0, 1⟩
  rw [(pts3 m).1, (pts3 s).1] at h1
  rw [(pts3 m).2.1, (pts3 s).2.1] at h2
  rw [(pts3 m).2.2, (pts3 s).2.2] at h3
  cases m; cases s; simp_all
theorem b2_ext {m s : B2} (h : ∀ k, m.pt k = s.pt k) : m = s := by
  have h1 := h ⟨1, 0⟩; have h2 := h ⟨0, 1⟩
  rw [(pts2 m).1, (pts2 s).1] at h1
  rw [(pts2 m).2, (pts2 s).2] at h2
  cases m; cases s; simp_all
/-- the two tables undo each other -/
theorem Same3.inv {m s : B3} (hm : m.det ≠ 0) (h : Same3 m s) : ∃ U V : B3, (∀ k, m.pt k = s.pt (U.pt k)) ∧ (∀ k, s.pt k = m.pt (V.pt k)) ∧
    (∀ k, V.pt (U.pt k) = k) ∧ (∀ k, U.pt (V.pt k) = k) ∧ (U.det = 1 ∨ U.det = -1) := by
  obtain ⟨U, V, a, b⟩ := h
  have i1 : ∀ k, V.pt (U.pt k) = k := fun k => B3.pt_inj hm (by rw [← b, ← a])
  have c1 : comp3 V U = ⟨⟨1, 0, 0⟩, ⟨0, 1, 0⟩, ⟨0, 0, 1⟩⟩ := b3_ext (fun k => by
    rw [comp3_pt, i1]; apply V3.ext' <;> simp [B3.pt])
  have d1 := congrArg B3.det c1
  rw [comp3_det] at d1
  have d2 : U.det = 1 ∨ U.det = -1 := by
    have : V.det * U.det = 1 := d1
    have hd : U.det ∣ 1 := ⟨V.det, by rw [← this, Int.mul_comm]⟩
    have := Int.natAbs_dvd_natAbs.mpr hd
    have := Nat.dvd_one.mp this
    omega
  have hs : s.det ≠ 0 := by
    have : comp3 s U = m := b3_ext (fun k => by rw [comp3_pt, ← a])
    rw [← this, comp3_det] at hm
    intro e; rw [e] at hm; simp at hm
  exact ⟨U, V, a, b, i1, fun k => B3.pt_inj hs (by rw [← a, ← b]), d2⟩
theorem Same2.inv {m s : B2} (hm : m.det ≠ 0) (h : Same2 m s) : ∃ U V : B2, (∀ k, m.pt k = s.pt (U.pt k)) ∧ (∀ k, s.pt k = m.pt (V.pt k)) ∧
    (∀ k, V.pt (U.pt k) = k) ∧ (∀ k, U.pt (V.pt k) = k) ∧ (U.det = 1 ∨ U.det = -1) := by
  obtain ⟨U, V, a, b⟩ := h
  have i1 : ∀ k, V.pt (U.pt k) = k := fun k => B2.pt_inj hm (by rw [← b, ← a])
  have c1 : comp2 V U = ⟨⟨1, 0⟩, ⟨0, 1⟩⟩ := b2_ext (fun k => by
    rw [comp2_pt, i1]; apply V2.ext' <;> simp [B2.pt])
  have d1 := congrArg B2.det c1
  rw [comp2_det] at d1
  have d2 : U.det = 1 ∨ U.det = -1 := by
    have : V.det * U.det = 1 := d1
    have hd : U.det ∣ 1 := ⟨V.det, by rw [← this, Int.mul_comm]⟩
    have := Int.natAbs_dvd_natAbs.mpr hd
    have := Nat.dvd_one.mp this
    omega
  have hs : s.det ≠ 0 := by
    have : comp2 s U = m := b2_ext (fun k => by rw [comp2_pt, ← a])
    rw [← this, comp2_det] at hm
    intro e; rw [e] at hm; simp at hm
  exact ⟨U, V, a, b, i1, fun k => B2.pt_inj hs (by rw [← a, ← b]), d2⟩
theorem Same3.det_ne {m s : B3} (hm : m.det ≠ 0) (h : Same3 m s) : s.det ≠ 0 := by
  obtain ⟨U, V, a, b⟩ := h
  have : comp3 s U = m := b3_ext (fun k => by rw [comp3_pt, ← a])
  rw [← this, comp3_det] at hm
  intro e; rw [e] at hm; simp at hm
theorem Same2.det_ne {m s : B2} (hm : m.det ≠ 0) (h : Same2 m s) : s.det ≠ 0 := by
  obtain ⟨U, V, a, b⟩ := h
  have : comp2 s U = m := b2_ext (fun k => by rw [comp2_pt, ← a])
  rw [← this, comp2_det] at hm
  intro e; rw [e] at hm; simp at hm

def tr3 (U : B3) : B3 := ⟨⟨U.a.x, U.b.x, U.c.x⟩, ⟨U.a.y, U.b.y, U.c.y⟩, ⟨U.a.z, U.b.z, U.c.z⟩⟩
theorem dot_tr3 (U : B3) (r k : V3) : V3.dot r (U.pt k) = V3.dot ((tr3 U).pt r) k := by
  simp only [V3.dot, B3.pt, tr3]; grind
def tr2 (U : B2) : B2 := ⟨⟨U.a.x, U.b.x⟩, ⟨U.a.y, U.b.y⟩⟩
theorem dot_tr2 (U : B2) (r k : V2) : V2.dot r (U.pt k) = V2.dot ((tr2 U).pt r) k := by
  simp only [V2.dot, B2.pt, tr2]; grind

def S3 (m : B3) (v : Vec) : Prop := ∃ k, v = l3 (m.pt k)
def S2 (m : B2) (v : Vec) : Prop := ∃ k, v = l2 (m.pt k)
theorem Same3.S {m s : B3} (h : Same3 m s) (v : Vec) : S3 m v ↔ S3 s v := by
  obtain ⟨U, V, a, b⟩ := h
  exact ⟨fun ⟨k, e⟩ => ⟨U.pt k, by rw [e, a]⟩, fun ⟨k, e⟩ => ⟨V.pt k, by rw [e, b]⟩⟩
theorem Same2.S {m s : B2} (h : Same2 m s) (v : Vec) : S2 m v ↔ S2 s v := by
  obtain ⟨U, V, a, b⟩ := h
  exact ⟨fun ⟨k, e⟩ => ⟨U.pt k, by rw [e, a]⟩, fun ⟨k, e⟩ => ⟨V.pt k, by rw [e, b]⟩⟩
theorem Same3.In {m s : B3} (h : Same3 m s) (M : Int) (v : Vec) : In3 m M v ↔ In3 s M v := by
  obtain ⟨U, V, a, b⟩ := h
  exact ⟨fun ⟨⟨k, e, f⟩, n⟩ => ⟨⟨U.pt k, by rw [e, a], f⟩, n⟩, fun ⟨⟨k, e, f⟩, n⟩ => ⟨⟨V.pt k, by rw [e, b], f⟩, n⟩⟩
theorem Same2.In {m s : B2} (h : Same2 m s) (M : Int) (v : Vec) : In2 m M v ↔ In2 s M v := by
  obtain ⟨U, V, a, b⟩ := h
  exact ⟨fun ⟨⟨k, e, f⟩, n⟩ => ⟨⟨U.pt k, by rw [e, a], f⟩, n⟩, fun ⟨⟨k, e, f⟩, n⟩ => ⟨⟨V.pt k, by rw [e, b], f⟩, n⟩⟩

theorem bool_eq_of_imp {a b : Bool} (h1 : a = true → b = true) (h2 : b = true → a = true) : a = b := by
  cases a <;> cases b <;> simp_all

theorem goes_half3 {m s : B3} (hm : m.det ≠ 0) (h : Same3 m s) (l : List Vec) (hl : ∀ v ∈ l, S3 m v) (hn : l.length ≤ 3)
    (hg : goesOn (b3 m) l = true) : goesOn (b3 s) l = true := by
  have hs := h.det_ne hm
  obtain ⟨U, V, a, b, i1, i2, d⟩ := h.inv hm
  match l with
  | [] => rfl
  | [x] =>
    obtain ⟨k, rfl⟩ := hl x (by simp)
    obtain ⟨r, hr⟩ := (goes31 m hm k).mp hg
    rw [a]
    exact (goes31 s hs _).mpr ⟨(tr3 V).pt r, by rw [← dot_tr3, i1, hr]⟩
  | [x, y] =>
    obtain ⟨k, rfl⟩ := hl x (by simp)
    obtain ⟨k', rfl⟩ := hl y (by simp)
    obtain ⟨r, hr⟩ := (goes32 m hm k k').mp hg
    rw [a, a]
    refine (goes32 s hs _ _).mpr ⟨(tr3 V.cof).pt r, ?_⟩
    rw [← dot_tr3, ← B3.cross_pt, i1, i1, hr]
  | [x, y, z] =>
    obtain ⟨k, rfl⟩ := hl x (by simp)
    obtain ⟨k', rfl⟩ := hl y (by simp)
    obtain ⟨k'', rfl⟩ := hl z (by simp)
    have hr := (goes33 m hm k k' k'').mp hg
    rw [a, a, a]
    refine (goes33 s hs _ _ _).mpr ?_
    rw [B3.det_pt]
    rcases d with d | d <;> rcases hr with hr | hr <;> rw [d, hr] <;> simp
  | _ :: _ :: _ :: _ :: _ => simp at hn
theorem goes_same3 {m s : B3} (hm : m.det ≠ 0) (h : Same3 m s) (l : List Vec) (hl : ∀ v ∈ l, S3 m v) (hn : l.length ≤ 3) :
    goesOn (b3 m) l = goesOn (b3 s) l :=
  bool_eq_of_imp (goes_half3 hm h l hl hn) (goes_half3 (h.det_ne hm) h.symm l (fun v hv => (h.S v).mp (hl v hv)) hn)

theorem goes_half2 {m s : B2} (hm : m.det ≠ 0) (h : Same2 m s) (l : List Vec) (hl : ∀ v ∈ l, S2 m v) (hn : l.length ≤ 2)
    (hg : goesOn (b2 m) l = true) : goesOn (b2 s) l = true := by
  have hs := h.det_ne hm
  obtain ⟨U, V, a, b, i1, i2, d⟩ := h.inv hm
  match l with
  | [] => rfl
  | [x] =>
    obtain ⟨k, rfl⟩ := hl x (by simp)
    obtain ⟨r, hr⟩ := (goes21 m hm k).mp hg
    rw [a]
    exact (goes21 s hs _).mpr ⟨(tr2 V).pt r, by rw [← dot_tr2, i1, hr]⟩
  | [x, y] =>
    obtain ⟨k, rfl⟩ := hl x (by simp)
    obtain ⟨k', rfl⟩ := hl y (by simp)
    have hr := (goes22 m hm k k').mp hg
    rw [a, a]
    refine (goes22 s hs _ _).mpr ?_
    rw [B2.crs_pt]
    rcases d with d | d <;> rcases hr with hr | hr <;> rw [d, hr] <;> simp
  | _ :: _ :: _ :: _ => simp at hn
theorem goes_same2 {m s : B2} (hm : m.det ≠ 0) (h : Same2 m s) (l : List Vec) (hl : ∀ v ∈ l, S2 m v) (hn : l.length ≤ 2) :
    goesOn (b2 m) l = goesOn (b2 s) l :=
  bool_eq_of_imp (goes_half2 hm h l hl hn) (goes_half2 (h.det_ne hm) h.symm l (fun v hv => (h.S v).mp (hl v hv)) hn)

/-- **The reduced steps, by any steps to the same points, and any list long enough.** -/
theorem reduced_eq3 {m s : B3} (hm : m.det ≠ 0) (h : Same3 m s) {M : Int} {ps : List Vec} (hps : Told (In3 s M) ps)
    (ha : V3.nrm s.a ≤ M) (hb : V3.nrm s.b ≤ M) (hc : V3.nrm s.c ≤ M) : Sq67.reduced (b3 m) = gf (goesOn (b3 s)) ps 3 [] := by
  have hs := h.det_ne hm
  show Sq67.reducedFrom (b3 m) (near (b3 m)) 3 [] = _
  rw [reducedFrom_eq]
  have hn := near3 m hm
  obtain ⟨la, lb, lc⟩ := longest3 m
  obtain ⟨_, _, _, g1, _⟩ := greedy3 m hm _ _ hn la lb lc
  obtain ⟨_, _, _, g2, _⟩ := greedy3 s hs M ps hps ha hb hc
  have hps' : Told (In3 m M) ps := hps.congr (fun v => (h.In M v).symm)
  have inS : ∀ v ∈ ps, S3 m v := fun v hv => let ⟨⟨k, e, _⟩, _⟩ := (hps'.2 v).mp hv; ⟨k, e⟩
  rw [← gf_congr (goesOn (b3 m)) (goesOn (b3 s)) (S3 m) ps inS 3 (goes_same3 hm h) 3 [] (by simp) (by simp)]
  have g2' : (gf (goesOn (b3 m)) ps 3 []).length = 3 := by
    rw [gf_congr (goesOn (b3 m)) (goesOn (b3 s)) (S3 m) ps inS 3 (goes_same3 hm h) 3 [] (by simp) (by simp), g2]; rfl
  rcases Int.le_total M (longest (b3 m)) with hle | hle
  · obtain ⟨t, ht⟩ := hps'.prefix hn hle
    rw [ht]; exact gf_prefix _ ps t 3 [] (by rw [g2']; rfl)
  · obtain ⟨t, ht⟩ := hn.prefix hps' hle
    rw [ht]; exact (gf_prefix _ _ t 3 [] (by rw [g1]; rfl)).symm
theorem reduced_eq2 {m s : B2} (hm : m.det ≠ 0) (h : Same2 m s) {M : Int} {ps : List Vec} (hps : Told (In2 s M) ps)
    (ha : V2.nrm s.a ≤ M) (hb : V2.nrm s.b ≤ M) : Sq67.reduced (b2 m) = gf (goesOn (b2 s)) ps 2 [] := by
  have hs := h.det_ne hm
  show Sq67.reducedFrom (b2 m) (near (b2 m)) 2 [] = _
  rw [reducedFrom_eq]
  have hn := near2 m hm
  obtain ⟨la, lb⟩ := longest2 m
  obtain ⟨_, _, g1, _⟩ := greedy2 m hm _ _ hn la lb
  obtain ⟨_, _, g2, _⟩ := greedy2 s hs M ps hps ha hb
  have hps' : Told (In2 m M) ps := hps.congr (fun v => (h.In M v).symm)
  have inS : ∀ v ∈ ps, S2 m v := fun v hv => let ⟨⟨k, e, _⟩, _⟩ := (hps'.2 v).mp hv; ⟨k, e⟩
  rw [← gf_congr (goesOn (b2 m)) (goesOn (b2 s)) (S2 m) ps inS 2 (goes_same2 hm h) 2 [] (by simp) (by simp)]
  have g2' : (gf (goesOn (b2 m)) ps 2 []).length = 2 := by
    rw [gf_congr (goesOn (b2 m)) (goesOn (b2 s)) (S2 m) ps inS 2 (goes_same2 hm h) 2 [] (by simp) (by simp), g2]; rfl
  rcases Int.le_total M (longest (b2 m)) with hle | hle
  · obtain ⟨t, ht⟩ := hps'.prefix hn hle
    rw [ht]; exact gf_prefix _ ps t 2 [] (by rw [g2']; rfl)
  · obtain ⟨t, ht⟩ := hn.prefix hps' hle
    rw [ht]; exact (gf_prefix _ _ t 2 [] (by rw [g1]; rfl)).symm
end Np
end
section
/-! The reduced steps lead to the same points; how long in different ways; the shortest. -/
namespace Np
open Sq67 (Vec before forward box rootUp norm detOf shares has coefficients goesOn gcdAll minors near longest apart)

/-- the table that undoes another, times its number -/
def adj3 (U : B3) : B3 := tr3 U.cof
theorem adj_l (U : B3) (k : V3) : (adj3 U).pt (U.pt k) = V3.smul U.det k := by
  apply V3.ext' <;> simp only [adj3, tr3, B3.cof, B3.det, B3.pt, V3.cross, V3.dot, V3.smul] <;> grind
theorem adj_r (U : B3) (k : V3) : U.pt ((adj3 U).pt k) = V3.smul U.det k := by
  apply V3.ext' <;> simp only [adj3, tr3, B3.cof, B3.det, B3.pt, V3.cross, V3.dot, V3.smul] <;> grind
def adj2 (U : B2) : B2 := ⟨⟨U.b.y, -U.a.y⟩, ⟨-U.b.x, U.a.x⟩⟩
theorem adj2_l (U : B2) (k : V2) : (adj2 U).pt (U.pt k) = V2.smul U.det k := by
  apply V2.ext' <;> simp only [adj2, B2.det, B2.pt, V2.crs, V2.smul] <;> grind
theorem adj2_r (U : B2) (k : V2) : U.pt ((adj2 U).pt k) = V2.smul U.det k := by
  apply V2.ext' <;> simp only [adj2, B2.det, B2.pt, V2.crs, V2.smul] <;> grind
def sc3 (g : Int) (U : B3) : B3 := ⟨V3.smul g U.a, V3.smul g U.b, V3.smul g U.c⟩
theorem sc3_pt (g : Int) (U : B3) (k : V3) : (sc3 g U).pt k = V3.smul g (U.pt k) := by
  apply V3.ext' <;> simp only [sc3, B3.pt, V3.smul] <;> grind
def sc2 (g : Int) (U : B2) : B2 := ⟨V2.smul g U.a, V2.smul g U.b⟩
theorem sc2_pt (g : Int) (U : B2) (k : V2) : (sc2 g U).pt k = V2.smul g (U.pt k) := by
  apply V2.ext' <;> simp only [sc2, B2.pt, V2.smul] <;> grind
theorem smul_smul3 (g : Int) (k : V3) (h : g = 1 ∨ g = -1) : V3.smul g (V3.smul g k) = k := by
  rcases h with rfl | rfl <;> apply V3.ext' <;> simp only [V3.smul] <;> omega
theorem smul_smul2 (g : Int) (k : V2) (h : g = 1 ∨ g = -1) : V2.smul g (V2.smul g k) = k := by
  rcases h with rfl | rfl <;> apply V2.ext' <;> simp only [V2.smul] <;> omega

/-- Steps by a table of number 1 or -1 lead to the same points. -/
theorem same_comp3 (m U : B3) (h : U.det = 1 ∨ U.det = -1) : Same3 m (comp3 m U) :=
  ⟨sc3 U.det (adj3 U), U, fun k => by rw [comp3_pt, sc3_pt, B3.pt_smul, adj_r, smul_smul3 _ _ h], fun k => comp3_pt m U k⟩
theorem same_comp2 (m U : B2) (h : U.det = 1 ∨ U.det = -1) : Same2 m (comp2 m U) :=
  ⟨sc2 U.det (adj2 U), U, fun k => by rw [comp2_pt, sc2_pt, B2.pt_smul, adj2_r, smul_smul2 _ _ h], fun k => comp2_pt m U k⟩

/-- As short as different ways can be. -/
structure Mink3 (r : B3) : Prop where
  m1 : ∀ k, k ≠ V3.zero → V3.nrm r.a ≤ V3.nrm (r.pt k)
  m2 : ∀ k : V3, k.y ≠ 0 ∨ k.z ≠ 0 → V3.nrm r.b ≤ V3.nrm (r.pt k)
  m3 : ∀ k : V3, k.z ≠ 0 → V3.nrm r.c ≤ V3.nrm (r.pt k)
  f1 : forward (l3 r.a) = true
  f2 : forward (l3 r.b) = true
  f3 : forward (l3 r.c) = true
structure Mink2 (r : B2) : Prop where
  m1 : ∀ k, k ≠ V2.zero → V2.nrm r.a ≤ V2.nrm (r.pt k)
  m2 : ∀ k : V2, k.y ≠ 0 → V2.nrm r.b ≤ V2.nrm (r.pt k)
  f1 : forward (l2 r.a) = true
  f2 : forward (l2 r.b) = true

theorem cof_det (U : B3) : U.cof.det = U.det * U.det := by
  simp only [B3.det, B3.cof, V3.dot, V3.cross]; grind
theorem det_alt (U : B3) : U.det = V3.dot (V3.cross U.a U.b) U.c := by
  simp only [B3.det, V3.dot, V3.cross]; grind
theorem cross_first (U : B3) (k : V3) : V3.cross U.a (U.pt k) = U.cof.pt ⟨0, -k.z, k.y⟩ := by
  apply V3.ext' <;> simp only [V3.cross, B3.pt, B3.cof] <;> grind
theorem dot_third (U : B3) (k : V3) : V3.dot (V3.cross U.a U.b) (U.pt k) = U.det * k.z := by
  rw [det_alt]; simp only [B3.pt, V3.dot, V3.cross]; grind
theorem mink3 {m U : B3} (h : Red3 m U.a U.b U.c) : Same3 m (comp3 m U) ∧ Mink3 (comp3 m U) := by
  have hd : U.det = 1 ∨ U.det = -1 := by rw [det_alt]; exact h.one
  have hd0 : U.det ≠ 0 := by omega
  refine ⟨same_comp3 m U hd, ⟨fun k hk => ?_, fun k hk => ?_, fun k hk => ?_, h.f1, h.f2, h.f3⟩⟩
  · rw [comp3_pt]; exact h.m1 _ (fun z => hk (B3.pt_zero_of hd0 z))
  · rw [comp3_pt]; refine h.m2 _ (fun z => ?_)
    rw [cross_first] at z
    have cd : U.cof.det ≠ 0 := by
      rw [cof_det]; exact fun z => hd0 ((Int.mul_eq_zero.mp z).elim id id)
    have := B3.pt_zero_of cd z
    simp only [V3.zero, V3.mk.injEq] at this
    omega
  · rw [comp3_pt]; refine h.m3 _ (fun z => hk ?_)
    rw [dot_third] at z
    exact (Int.mul_eq_zero.mp z).resolve_left hd0
theorem crs_second (U : B2) (k : V2) : V2.crs U.a (U.pt k) = U.det * k.y := by
  simp only [B2.det, B2.pt, V2.crs]; grind
theorem mink2 {m U : B2} (h : Red2 m U.a U.b) : Same2 m (comp2 m U) ∧ Mink2 (comp2 m U) := by
  have hd : U.det = 1 ∨ U.det = -1 := h.one
  have hd0 : U.det ≠ 0 := by omega
  refine ⟨same_comp2 m U hd, ⟨fun k hk => ?_, fun k hk => ?_, h.f1, h.f2⟩⟩
  · rw [comp2_pt]; exact h.m1 _ (fun z => hk (B2.pt_zero_of hd0 z))
  · rw [comp2_pt]; refine h.m2 _ (fun z => hk ?_)
    rw [crs_second] at z
    exact (Int.mul_eq_zero.mp z).resolve_left hd0

/-- **The reduced steps.** -/
theorem reduced3 {m : B3} (hm : m.det ≠ 0) : ∃ r, Sq67.reduced (b3 m) = b3 r ∧ Same3 m r ∧ Mink3 r := by
  obtain ⟨la, lb, lc⟩ := longest3 m
  obtain ⟨c1, c2, c3, g, h⟩ := greedy3 m hm _ _ (near3 m hm) la lb lc
  refine ⟨comp3 m ⟨c1, c2, c3⟩, ?_, mink3 (U := ⟨c1, c2, c3⟩) h⟩
  show Sq67.reducedFrom (b3 m) (near (b3 m)) 3 [] = _
  rw [reducedFrom_eq, g]; rfl
theorem reduced2 {m : B2} (hm : m.det ≠ 0) : ∃ r, Sq67.reduced (b2 m) = b2 r ∧ Same2 m r ∧ Mink2 r := by
  obtain ⟨la, lb⟩ := longest2 m
  obtain ⟨c1, c2, g, h⟩ := greedy2 m hm _ _ (near2 m hm) la lb
  refine ⟨comp2 m ⟨c1, c2⟩, ?_, mink2 (U := ⟨c1, c2⟩) h⟩
  show Sq67.reducedFrom (b2 m) (near (b2 m)) 2 [] = _
  rw [reducedFrom_eq, g]; rfl

/-! ## in one go -/
theorem goes_gl3 {m : B3} (hm : m.det ≠ 0) {ps : List Vec} (hps : ∀ v ∈ ps, S3 m v) :
    gf (goesOn (b3 m)) ps 3 [] = gl (goesOn (b3 m)) 3 ps [] := by
  refine gf_eq_gl _ (S3 m) 3 (close3 ?_ ?_ ?_) (self3 ?_ ?_ ?_) ps hps
  · rintro _ _ ⟨k, rfl⟩ ⟨l, rfl⟩ h
    obtain ⟨r, hr⟩ := (goes32 m hm k l).mp h
    exact (goes31 m hm l).mpr ⟨V3.cross r k, by rw [← hr]; simp only [V3.dot, V3.cross]; grind⟩
  · rintro _ _ _ ⟨k, rfl⟩ ⟨l, rfl⟩ ⟨o, rfl⟩ h
    rcases (goes33 m hm k l o).mp h with hr | hr
    · exact (goes31 m hm o).mpr ⟨V3.cross k l, hr⟩
    · exact (goes31 m hm o).mpr ⟨neg3 (V3.cross k l), by simp only [neg3, V3.smul, V3.dot] at hr ⊢; grind⟩
  · rintro _ _ _ ⟨k, rfl⟩ ⟨l, rfl⟩ ⟨o, rfl⟩ h
    rcases (goes33 m hm k l o).mp h with hr | hr
    · exact (goes32 m hm k o).mpr ⟨neg3 l, by rw [← hr]; simp only [neg3, V3.smul, V3.dot, V3.cross]; grind⟩
    · exact (goes32 m hm k o).mpr ⟨l, by simp only [V3.dot, V3.cross] at hr ⊢; grind⟩
  · rintro _ ⟨k, rfl⟩
    rw [Bool.eq_false_iff]; intro h
    obtain ⟨r, hr⟩ := (goes32 m hm k k).mp h
    have : V3.cross k k = V3.zero := by apply V3.ext' <;> simp only [V3.cross, V3.zero] <;> grind
    rw [this] at hr; simp [V3.dot, V3.zero] at hr
  · rintro _ _ ⟨k, rfl⟩ ⟨l, rfl⟩
    rw [Bool.eq_false_iff]; intro h
    have := (goes33 m hm k l l).mp h
    have e : V3.dot (V3.cross k l) l = 0 := by simp only [V3.dot, V3.cross]; grind
    omega
  · rintro _ _ ⟨k, rfl⟩ ⟨l, rfl⟩
    rw [Bool.eq_false_iff]; intro h
    have := (goes33 m hm l k l).mp h
    have e : V3.dot (V3.cross l k) l = 0 := by simp only [V3.dot, V3.cross]; grind
    omega
theorem goes_gl2 {m : B2} (hm : m.det ≠ 0) {ps : List Vec} (hps : ∀ v ∈ ps, S2 m v) :
    gf (goesOn (b2 m)) ps 2 [] = gl (goesOn (b2 m)) 2 ps [] := by
  have hc : ∀ u v, S2 m u → S2 m v → goesOn (b2 m) [u, v] = true → goesOn (b2 m) [v] = true := by
    rintro _ _ ⟨k, rfl⟩ ⟨l, rfl⟩ h
    rcases (goes22 m hm k l).mp h with hr | hr
    · exact (goes21 m hm l).mpr ⟨⟨-k.y, k.x⟩, by simp only [V2.dot, V2.crs] at hr ⊢; grind⟩
    · exact (goes21 m hm l).mpr ⟨⟨k.y, -k.x⟩, by simp only [V2.dot, V2.crs] at hr ⊢; grind⟩
  have hs : ∀ v, S2 m v → goesOn (b2 m) [v, v] = false := by
    rintro _ ⟨k, rfl⟩
    rw [Bool.eq_false_iff]; intro h
    have := (goes22 m hm k k).mp h
    have e : V2.crs k k = 0 := by simp only [V2.crs]; grind
    omega
  refine gf_eq_gl _ (S2 m) 2 (fun l t v hx hn h => ?_) (fun l t v hx hn => ?_) ps hps
  · match l, t with
    | l, [] => simpa using h
    | [], [w] => exact hc w v (hx w (by simp)) (hx v (by simp)) h
    | [], _ :: _ :: _ => simp at hn
    | _ :: _, _ :: _ => simp at hn; omega
  · match l, t with
    | [], [] => exact hs v (hx v (by simp))
    | [], _ :: _ => simp at hn
    | _ :: _, _ => simp at hn; omega

/-! ## how long in different ways -/
theorem any3 (k : V3) : ((l3 k).any fun x => x != 0) = true ↔ k ≠ V3.zero := by
  simp only [l3, List.any_cons, List.any_nil, Bool.or_false, Bool.or_eq_true, bne_iff_ne, ne_eq]
  constructor
  · rintro h rfl; simp [V3.zero] at h
  · intro h
    by_cases e1 : k.x = 0
    · by_cases e2 : k.y = 0
      · by_cases e3 : k.z = 0
        · exact absurd (V3.ext' e1 e2 e3) h
        · exact .inr (.inr e3)
      · exact .inr (.inl e2)
    · exact .inl e1
theorem apart31 (m : B3) (h : m.det ≠ 0) (k : V3) : apart 3 [l3 (m.pt k)] = true ↔ k ≠ V3.zero := by
  show ((l3 (m.pt k)).any fun x => x != 0) = true ↔ _
  rw [any3]
  exact ⟨fun g e => g (by rw [e]; apply V3.ext' <;> simp [B3.pt, V3.zero]), fun g e => g (B3.pt_zero_of h e)⟩
theorem apart32' (a b : V3) : apart 3 [l3 a, l3 b] = true ↔ V3.cross a b ≠ V3.zero := by
  unfold apart
  rw [minors32]
  have := any3 ⟨a.x * b.y - a.y * b.x, a.x * b.z - a.z * b.x, a.y * b.z - a.z * b.y⟩
  simp only [l3] at this
  rw [this]
  simp only [V3.cross, V3.zero, ne_eq, V3.mk.injEq]
  constructor
  · intro g e; apply g; omega
  · intro g e; apply g; omega
theorem apart32 (m : B3) (h : m.det ≠ 0) (k l : V3) : apart 3 [l3 (m.pt k), l3 (m.pt l)] = true ↔ V3.cross k l ≠ V3.zero := by
  rw [apart32', B3.cross_pt]
  have cd : m.cof.det ≠ 0 := by
    have : m.cof.det = m.det * m.det := by simp only [B3.det, B3.cof, V3.dot, V3.cross]; grind
    rw [this]; exact fun z => h ((Int.mul_eq_zero.mp z).elim id id)
  exact ⟨fun g e => g (by rw [e]; apply V3.ext' <;> simp [B3.pt, V3.zero]), fun g e => g (B3.pt_zero_of cd e)⟩
theorem apart33 (m : B3) (h : m.det ≠ 0) (k l o : V3) : apart 3 [l3 (m.pt k), l3 (m.pt l), l3 (m.pt o)] = true ↔ V3.dot (V3.cross k l) o ≠ 0 := by
  unfold apart
  rw [minors33]
  have e : V3.dot (m.pt k) (V3.cross (m.pt l) (m.pt o)) = m.det * V3.dot (V3.cross k l) o := by
    rw [← B3.det_pt]; simp only [V3.dot, V3.cross]; grind
  simp only [e, List.any_cons, List.any_nil, Bool.or_false, bne_iff_ne, ne_eq]
  constructor
  · intro g z; apply g; rw [z]; simp
  · intro g z; exact g ((Int.mul_eq_zero.mp z).resolve_left h)
theorem any2 (k : V2) : ((l2 k).any fun x => x != 0) = true ↔ k ≠ V2.zero := by
  simp only [l2, List.any_cons, List.any_nil, Bool.or_false, Bool.or_eq_true, bne_iff_ne, ne_eq]
  constructor
  · rintro h rfl; simp [V2.zero] at h
  · intro h
    by_cases e1 : k.x = 0
    · by_cases e2 : k.y = 0
      · exact absurd (V2.ext' e1 e2) h
      · exact .inr e2
    · exact .inl e1
theorem apart21 (m : B2) (h : m.det ≠ 0) (k : V2) : apart 2 [l2 (m.pt k)] = true ↔ k ≠ V2.zero := by
  show ((l2 (m.pt k)).any fun x => x != 0) = true ↔ _
  rw [any2]
  exact ⟨fun g e => g (by rw [e]; apply V2.ext' <;> simp [B2.pt, V2.zero]), fun g e => g (B2.pt_zero_of h e)⟩
theorem apart22 (m : B2) (h : m.det ≠ 0) (k l : V2) : apart 2 [l2 (m.pt k), l2 (m.pt l)] = true ↔ V2.crs k l ≠ 0 := by
  unfold apart
  rw [minors22, B2.crs_pt]
  simp only [List.any_cons, List.any_nil, Bool.or_false, bne_iff_ne, ne_eq]
  constructor
  · intro g z; apply g; rw [z]; simp
  · intro g z; exact g ((Int.mul_eq_zero.mp z).resolve_left h)

theorem apart_gl3 {m : B3} (hm : m.det ≠ 0) {ps : List Vec} (hps : ∀ v ∈ ps, S3 m v) :
    gf (apart 3) ps 3 [] = gl (apart 3) 3 ps [] := by
  refine gf_eq_gl _ (S3 m) 3 (close3 ?_ ?_ ?_) (self3 ?_ ?_ ?_) ps hps
  · rintro _ _ ⟨k, rfl⟩ ⟨l, rfl⟩ h
    refine (apart31 m hm l).mpr (fun z => (apart32 m hm k l).mp h ?_)
    rw [z]; apply V3.ext' <;> simp [V3.cross, V3.zero]
  · rintro _ _ _ ⟨k, rfl⟩ ⟨l, rfl⟩ ⟨o, rfl⟩ h
    refine (apart31 m hm o).mpr (fun z => (apart33 m hm k l o).mp h ?_)
    rw [z]; simp [V3.dot, V3.zero]
  · rintro _ _ _ ⟨k, rfl⟩ ⟨l, rfl⟩ ⟨o, rfl⟩ h
    refine (apart32 m hm k o).mpr (fun z => (apart33 m hm k l o).mp h ?_)
    have : V3.dot (V3.cross k l) o = - V3.dot (V3.cross k o) l := by simp only [V3.dot, V3.cross]; grind
    rw [this, z]; simp [V3.dot, V3.zero]
  · rintro _ ⟨k, rfl⟩
    rw [Bool.eq_false_iff]; intro h
    refine (apart32 m hm k k).mp h ?_
    apply V3.ext' <;> simp only [V3.cross, V3.zero] <;> grind
  · rintro _ _ ⟨k, rfl⟩ ⟨l, rfl⟩
    rw [Bool.eq_false_iff]; intro h
    exact (apart33 m hm k l l).mp h (by simp only [V3.dot, V3.cross]; grind)
  · rintro _ _ ⟨k, rfl⟩ ⟨l, rfl⟩
    rw [Bool.eq_false_iff]; intro h
    exact (apart33 m hm l k l).mp h (by simp only [V3.dot, V3.cross]; grind)
theorem apart_gl2 {m : B2} (hm : m.det ≠ 0) {ps : List Vec} (hps : ∀ v ∈ ps, S2 m v) :
    gf (apart 2) ps 2 [] = gl (apart 2) 2 ps [] := by
  have hc : ∀ u v, S2 m u → S2 m v → apart 2 [u, v] = true → apart 2 [v] = true := by
    rintro _ _ ⟨k, rfl⟩ ⟨l, rfl⟩ h
    refine (apart21 m hm l).mpr (fun z => (apart22 m hm k l).mp h ?_)
    rw [z]; simp [V2.crs, V2.zero]
  have hs : ∀ v, S2 m v → apart 2 [v, v] = false := by
    rintro _ ⟨k, rfl⟩
    rw [Bool.eq_false_iff]; intro h
    exact (apart22 m hm k k).mp h (by simp only [V2.crs]; grind)
  refine gf_eq_gl _ (S2 m) 2 (fun l t v hx hn h => ?_) (fun l t v hx hn => ?_) ps hps
  · match l, t with
    | l, [] => simpa using h
    | [], [w] => exact hc w v (hx w (by simp)) (hx v (by simp)) h
    | [], _ :: _ :: _ => simp at hn
    | _ :: _, _ :: _ => simp at hn; omega
  · match l, t with
    | [], [] => exact hs v (hx v (by simp))
    | [], _ :: _ => simp at hn
    | _ :: _, _ => simp at hn; omega

theorem apart_len3 {m : B3} (hD : m.det ≠ 0) {M : Int} {ps : List Vec} (hps : Told (In3 m M) ps)
    (ha : V3.nrm m.a ≤ M) (hb : V3.nrm m.b ≤ M) (hc : V3.nrm m.c ≤ M) : (gf (apart 3) ps 3 []).length = 3 := by
  obtain ⟨ea, eb, ec⟩ := pts3 m
  have nz : ∀ k, k ≠ V3.zero → neg3 k ≠ V3.zero := fun k h e => h (by rw [← neg_neg3 k, e]; rfl)
  obtain ⟨c1, e1, hc1, -, -, -⟩ := find3 hD hps (fun v => apart 3 ([] ++ [v])) (fun k => k ≠ V3.zero)
    (fun k => apart31 m hD k) nz (fun k h => h) (w := ⟨1, 0, 0⟩) (by simp [V3.zero]) (by rw [ea]; exact ha)
  have ex2 : ∃ w, V3.cross c1 w ≠ V3.zero ∧ V3.nrm (m.pt w) ≤ M := by
    by_cases x1 : V3.cross c1 ⟨1, 0, 0⟩ = V3.zero
    · refine ⟨⟨0, 1, 0⟩, ?_, by rw [eb]; exact hb⟩
      intro x2
      apply hc1
      simp only [V3.cross, V3.zero, V3.mk.injEq] at x1 x2
      exact V3.ext' (by show c1.x = 0; omega) (by show c1.y = 0; omega) (by show c1.z = 0; omega)
    · exact ⟨⟨1, 0, 0⟩, x1, by rw [ea]; exact ha⟩
  obtain ⟨u2, hu2, hu2M⟩ := ex2
  obtain ⟨c2, e2, hn, -, -, -⟩ := find3 hD hps (fun v => apart 3 ([l3 (m.pt c1)] ++ [v])) (fun k => V3.cross c1 k ≠ V3.zero)
    (fun k => apart32 m hD c1 k) (fun k h => by rw [cross_neg]; exact nz _ h)
    (fun k h e => h (by rw [e]; apply V3.ext' <;> simp [V3.cross, V3.zero])) (w := u2) hu2 hu2M
  have ex3 : ∃ w, V3.dot (V3.cross c1 c2) w ≠ 0 ∧ V3.nrm (m.pt w) ≤ M := by
    by_cases x1 : V3.dot (V3.cross c1 c2) ⟨1, 0, 0⟩ = 0
    · by_cases x2 : V3.dot (V3.cross c1 c2) ⟨0, 1, 0⟩ = 0
      · refine ⟨⟨0, 0, 1⟩, ?_, by rw [ec]; exact hc⟩
        intro x3
        apply hn
        generalize V3.cross c1 c2 = n at *
        simp only [V3.dot] at x1 x2 x3
        exact V3.ext' (by show n.x = 0; omega) (by show n.y = 0; omega) (by show n.z = 0; omega)
      · exact ⟨⟨0, 1, 0⟩, x2, by rw [eb]; exact hb⟩
    · exact ⟨⟨1, 0, 0⟩, x1, by rw [ea]; exact ha⟩
  obtain ⟨u3, hu3, hu3M⟩ := ex3
  obtain ⟨c3, e3, -, -, -, -⟩ := find3 hD hps (fun v => apart 3 ([l3 (m.pt c1), l3 (m.pt c2)] ++ [v])) (fun k => V3.dot (V3.cross c1 c2) k ≠ 0)
    (fun k => apart33 m hD c1 c2 k) (fun k h => by rw [dot_neg]; omega)
    (fun k h e => h (by rw [e]; simp [V3.dot, V3.zero])) (w := u3) hu3 hu3M
  simp only [List.cons_append, List.nil_append] at e1 e2 e3
  simp only [gf, List.nil_append, List.cons_append, e1, e2, e3]
  rfl
theorem apart_len2 {m : B2} (hD : m.det ≠ 0) {M : Int} {ps : List Vec} (hps : Told (In2 m M) ps)
    (ha : V2.nrm m.a ≤ M) (hb : V2.nrm m.b ≤ M) : (gf (apart 2) ps 2 []).length = 2 := by
  obtain ⟨ea, eb⟩ := pts2 m
  have nz : ∀ k, k ≠ V2.zero → neg2 k ≠ V2.zero := fun k h e => h (by
    have h1 := congrArg V2.x e
    have h2 := congrArg V2.y e
    simp only [neg2, V2.smul, V2.zero] at h1 h2
    exact V2.ext' (by show k.x = 0; omega) (by show k.y = 0; omega))
  obtain ⟨c1, e1, hc1, -, -, -⟩ := find2 hD hps (fun v => apart 2 ([] ++ [v])) (fun k => k ≠ V2.zero)
    (fun k => apart21 m hD k) nz (fun k h => h) (w := ⟨1, 0⟩) (by simp [V2.zero]) (by rw [ea]; exact ha)
  have ex2 : ∃ w, V2.crs c1 w ≠ 0 ∧ V2.nrm (m.pt w) ≤ M := by
    by_cases x1 : V2.crs c1 ⟨1, 0⟩ = 0
    · refine ⟨⟨0, 1⟩, ?_, by rw [eb]; exact hb⟩
      intro x2
      apply hc1
      simp only [V2.crs] at x1 x2
      exact V2.ext' (by show c1.x = 0; omega) (by show c1.y = 0; omega)
    · exact ⟨⟨1, 0⟩, x1, by rw [ea]; exact ha⟩
  obtain ⟨u2, hu2, hu2M⟩ := ex2
  obtain ⟨c2, e2, -, -, -, -⟩ := find2 hD hps (fun v => apart 2 ([l2 (m.pt c1)] ++ [v])) (fun k => V2.crs c1 k ≠ 0)
    (fun k => apart22 m hD c1 k) (fun k h => by
      have : V2.crs c1 (neg2 k) = - V2.crs c1 k := by simp only [V2.crs, neg2, V2.smul]; grind
      rw [this]; omega)
    (fun k h e => h (by rw [e]; simp [V2.crs, V2.zero])) (w := u2) hu2 hu2M
  simp only [List.cons_append, List.nil_append] at e1 e2
  simp only [gf, List.nil_append, List.cons_append, e1, e2]
  rfl

theorem minima_gl (b : List Vec) : Sq67.minima b = (gl (apart b.length) b.length (near b) []).map norm :=
  congrArg (List.map norm) (foldl_gl (apart b.length) b.length (near b) [])
theorem b3_len (m : B3) : (b3 m).length = 3 := rfl
theorem b2_len (m : B2) : (b2 m).length = 2 := rfl
/-- **How long in different ways, by any steps to the same points, and any list long enough.** -/
theorem minima_eq3 {m s : B3} (hm : m.det ≠ 0) (h : Same3 m s) {M : Int} {ps : List Vec} (hps : Told (In3 s M) ps)
    (ha : V3.nrm s.a ≤ M) (hb : V3.nrm s.b ≤ M) (hc : V3.nrm s.c ≤ M) : Sq67.minima (b3 m) = (gl (apart 3) 3 ps []).map norm := by
  have hs := h.det_ne hm
  rw [minima_gl, b3_len]
  have hn := near3 m hm
  obtain ⟨la, lb, lc⟩ := longest3 m
  have hps' : Told (In3 m M) ps := hps.congr (fun v => (h.In M v).symm)
  have i1 : ∀ v ∈ near (b3 m), S3 m v := fun v hv => let ⟨⟨k, e, _⟩, _⟩ := (hn.2 v).mp hv; ⟨k, e⟩
  have i2 : ∀ v ∈ ps, S3 m v := fun v hv => let ⟨⟨k, e, _⟩, _⟩ := (hps'.2 v).mp hv; ⟨k, e⟩
  have g1 := apart_len3 hm hn la lb lc
  have g2 := apart_len3 hs hps ha hb hc
  rw [apart_gl3 hm i1] at g1
  rw [apart_gl3 hm i2] at g2
  refine congrArg (List.map norm) ?_
  rcases Int.le_total M (longest (b3 m)) with hle | hle
  · obtain ⟨t, ht⟩ := hps'.prefix hn hle
    rw [ht, gl_append, gl_full _ _ _ _ (by omega)]
  · obtain ⟨t, ht⟩ := hn.prefix hps' hle
    rw [ht, gl_append, gl_full _ _ t _ (by omega)]
theorem minima_eq2 {m s : B2} (hm : m.det ≠ 0) (h : Same2 m s) {M : Int} {ps : List Vec} (hps : Told (In2 s M) ps)
    (ha : V2.nrm s.a ≤ M) (hb : V2.nrm s.b ≤ M) : Sq67.minima (b2 m) = (gl (apart 2) 2 ps []).map norm := by
  have hs := h.det_ne hm
  rw [minima_gl, b2_len]
  have hn := near2 m hm
  obtain ⟨la, lb⟩ := longest2 m
  have hps' : Told (In2 m M) ps := hps.congr (fun v => (h.In M v).symm)
  have i1 : ∀ v ∈ near (b2 m), S2 m v := fun v hv => let ⟨⟨k, e, _⟩, _⟩ := (hn.2 v).mp hv; ⟨k, e⟩
  have i2 : ∀ v ∈ ps, S2 m v := fun v hv => let ⟨⟨k, e, _⟩, _⟩ := (hps'.2 v).mp hv; ⟨k, e⟩
  have g1 := apart_len2 hm hn la lb
  have g2 := apart_len2 hs hps ha hb
  rw [apart_gl2 hm i1] at g1
  rw [apart_gl2 hm i2] at g2
  refine congrArg (List.map norm) ?_
  rcases Int.le_total M (longest (b2 m)) with hle | hle
  · obtain ⟨t, ht⟩ := hps'.prefix hn hle
    rw [ht, gl_append, gl_full _ _ _ _ (by omega)]
  · obtain ⟨t, ht⟩ := hn.prefix hps' hle
    rw [ht, gl_append, gl_full _ _ t _ (by omega)]

/-! ## the shortest -/
theorem shortest_of {P : Vec → Prop} {M L : Int} {ps ns : List Vec} (h1 : Told (fun v => P v ∧ norm v ≤ M) ps)
    (h2 : Told (fun v => P v ∧ norm v ≤ L) ns) {v : Vec} {l : List Vec} (e : ps = v :: l) :
    ∃ l', ns = v :: l' ∨ ns = [] := by
  rcases Int.le_total M L with g | g
  · obtain ⟨t, ht⟩ := h1.prefix h2 g
    exact ⟨l ++ t, .inl (by rw [ht, e]; rfl)⟩
  · obtain ⟨t, ht⟩ := h2.prefix h1 g
    cases ns with
    | nil => exact ⟨[], .inr rfl⟩
    | cons w r => rw [e] at ht; injection ht with e1 e2; exact ⟨r, .inl (by rw [e1])⟩

theorem filter_first {P : Vec → Prop} {M L : Int} {ps ns : List Vec} (h1 : Told (fun v => P v ∧ norm v ≤ M) ps)
    (h2 : Told (fun v => P v ∧ norm v ≤ L) ns) {v : Vec} (hv : v ∈ ps) (hw : v ∈ ns) :
    ps.filter (fun u => norm u == norm v) = ns.filter (fun u => norm u == norm v) := by
  have a := (h1.2 v).mp hv
  have b := (h2.2 v).mp hw
  refine (h1.filter (fun u => norm u == norm v)).unique ((h2.filter (fun u => norm u == norm v)).congr (fun u => ?_))
  simp only [beq_iff_eq]
  constructor
  · rintro ⟨⟨p, q⟩, r⟩; exact ⟨⟨p, by omega⟩, r⟩
  · rintro ⟨⟨p, q⟩, r⟩; exact ⟨⟨p, by omega⟩, r⟩

/-- **The shortest, by any list that is not empty.** -/
theorem shortest_eq {P : Vec → Prop} {M L : Int} {ps : List Vec} {b : List Vec} (h1 : Told (fun v => P v ∧ norm v ≤ M) ps)
    (h2 : Told (fun v => P v ∧ norm v ≤ L) (near b)) (hn : near b ≠ []) {v : Vec} {l : List Vec} (e : ps = v :: l) :
    Sq67.shortest b = ps.filter (fun u => norm u == norm v) := by
  obtain ⟨l', hl'⟩ := shortest_of h1 h2 e
  rcases hl' with hl' | hl'
  · rw [filter_first h1 h2 (v := v) (by rw [e]; simp) (by rw [hl']; simp)]
    unfold Sq67.shortest
    rw [hl']
  · exact absurd hl' hn
theorem near_ne3 {m : B3} (hm : m.det ≠ 0) {M : Int} {ps : List Vec} (hps : Told (In3 m M) ps) (ha : V3.nrm m.a ≤ M) : ps ≠ [] := by
  have ha0 : (⟨1, 0, 0⟩ : V3) ≠ V3.zero := by simp [V3.zero]
  obtain ⟨k, hk, hf⟩ := fwd_k3 hm ha0
  have hn : V3.nrm (m.pt k) = V3.nrm m.a := by
    rcases hk with rfl | rfl
    · rw [(pts3 m).1]
    · rw [nrm_neg3, (pts3 m).1]
  have := (hps.2 (l3 (m.pt k))).mpr ⟨⟨k, rfl, hf⟩, by rw [norm3, hn]; exact ha⟩
  intro e; rw [e] at this; simp at this
theorem near_ne2 {m : B2} (hm : m.det ≠ 0) {M : Int} {ps : List Vec} (hps : Told (In2 m M) ps) (ha : V2.nrm m.a ≤ M) : ps ≠ [] := by
  have ha0 : (⟨1, 0⟩ : V2) ≠ V2.zero := by simp [V2.zero]
  obtain ⟨k, hk, hf⟩ := fwd_k2 hm ha0
  have hn : V2.nrm (m.pt k) = V2.nrm m.a := by
    rcases hk with rfl | rfl
    · rw [(pts2 m).1]
    · rw [nrm_neg2, (pts2 m).1]
  have := (hps.2 (l2 (m.pt k))).mpr ⟨⟨k, rfl, hf⟩, by rw [norm2, hn]; exact ha⟩
  intro e; rw [e] at this; simp at this

/-! ## led to, by other steps -/
theorem has_same3 {m s : B3} (hm : m.det ≠ 0) (h : Same3 m s) (v : V3) : has (b3 m) (l3 v) = has (b3 s) (l3 v) := by
  obtain ⟨U, V, a, b⟩ := id h
  apply bool_eq_of_imp
  · intro g; obtain ⟨k, rfl⟩ := (has3 m hm v).mp g; exact (has3 s (h.det_ne hm) _).mpr ⟨U.pt k, a k⟩
  · intro g; obtain ⟨k, rfl⟩ := (has3 s (h.det_ne hm) v).mp g; exact (has3 m hm _).mpr ⟨V.pt k, b k⟩
theorem has_same2 {m s : B2} (hm : m.det ≠ 0) (h : Same2 m s) (v : V2) : has (b2 m) (l2 v) = has (b2 s) (l2 v) := by
  obtain ⟨U, V, a, b⟩ := id h
  apply bool_eq_of_imp
  · intro g; obtain ⟨k, rfl⟩ := (has2 m hm v).mp g; exact (has2 s (h.det_ne hm) _).mpr ⟨U.pt k, a k⟩
  · intro g; obtain ⟨k, rfl⟩ := (has2 s (h.det_ne hm) v).mp g; exact (has2 m hm _).mpr ⟨V.pt k, b k⟩
/-- **The same points.** -/
theorem same_of3 {m s U V : B3} (h1 : m = comp3 s U) (h2 : s = comp3 m V) : Same3 m s :=
  ⟨U, V, fun k => (congrArg (fun (x : B3) => x.pt k) h1).trans (comp3_pt s U k), fun k => (congrArg (fun (x : B3) => x.pt k) h2).trans (comp3_pt m V k)⟩
theorem same_of2 {m s U V : B2} (h1 : m = comp2 s U) (h2 : s = comp2 m V) : Same2 m s :=
  ⟨U, V, fun k => (congrArg (fun (x : B2) => x.pt k) h1).trans (comp2_pt s U k), fun k => (congrArg (fun (x : B2) => x.pt k) h2).trans (comp2_pt m V k)⟩
theorem b3_mk {m : B3} {a b c : V3} (h1 : m.a = a) (h2 : m.b = b) (h3 : m.c = c) : m = ⟨a, b, c⟩ := by
  cases m; cases h1; cases h2; cases h3; rfl
theorem b2_mk {m : B2} {a b : V2} (h1 : m.a = a) (h2 : m.b = b) : m = ⟨a, b⟩ := by
  cases m; cases h1; cases h2; rfl
theorem same_iff3 {m s : B3} (hm : m.det ≠ 0) (hs : s.det ≠ 0) :
    ((b3 s).all (has (b3 m)) && (b3 m).all (has (b3 s))) = true ↔ Same3 m s := by
  have e : ∀ (m s : B3), m.det ≠ 0 → ((b3 s).all (has (b3 m)) = true ↔ (∃ k, s.a = m.pt k) ∧ (∃ k, s.b = m.pt k) ∧ (∃ k, s.c = m.pt k)) := fun m s h => by
    rw [show (b3 s).all (has (b3 m)) = (has (b3 m) (l3 s.a) && (has (b3 m) (l3 s.b) && (has (b3 m) (l3 s.c) && true))) from rfl]
    rw [Bool.and_true, Bool.and_eq_true, Bool.and_eq_true, has3 m h, has3 m h, has3 m h]
  rw [Bool.and_eq_true, e m s hm, e s m hs]
  constructor
  · rintro ⟨⟨⟨a, ha⟩, ⟨b, hb⟩, ⟨c, hc⟩⟩, ⟨a', ha'⟩, ⟨b', hb'⟩, ⟨c', hc'⟩⟩
    exact same_of3 (U := ⟨a', b', c'⟩) (V := ⟨a, b, c⟩) (b3_mk ha' hb' hc') (b3_mk ha hb hc)
  · rintro ⟨U, V, a, b⟩
    exact ⟨⟨⟨_, (pts3 s).1.symm.trans (b _)⟩, ⟨_, (pts3 s).2.1.symm.trans (b _)⟩, ⟨_, (pts3 s).2.2.symm.trans (b _)⟩⟩,
      ⟨_, (pts3 m).1.symm.trans (a _)⟩, ⟨_, (pts3 m).2.1.symm.trans (a _)⟩, ⟨_, (pts3 m).2.2.symm.trans (a _)⟩⟩
theorem same_iff2 {m s : B2} (hm : m.det ≠ 0) (hs : s.det ≠ 0) :
    ((b2 s).all (has (b2 m)) && (b2 m).all (has (b2 s))) = true ↔ Same2 m s := by
  have e : ∀ (m s : B2), m.det ≠ 0 → ((b2 s).all (has (b2 m)) = true ↔ (∃ k, s.a = m.pt k) ∧ (∃ k, s.b = m.pt k)) := fun m s h => by
    rw [show (b2 s).all (has (b2 m)) = (has (b2 m) (l2 s.a) && (has (b2 m) (l2 s.b) && true)) from rfl]
    rw [Bool.and_true, Bool.and_eq_true, has2 m h, has2 m h]
  rw [Bool.and_eq_true, e m s hm, e s m hs]
  constructor
  · rintro ⟨⟨⟨a, ha⟩, ⟨b, hb⟩⟩, ⟨a', ha'⟩, ⟨b', hb'⟩⟩
    exact same_of2 (U := ⟨a', b'⟩) (V := ⟨a, b⟩) (b2_mk ha' hb') (b2_mk ha hb)
  · rintro ⟨U, V, a, b⟩
    exact ⟨⟨⟨_, (pts2 s).1.symm.trans (b _)⟩, ⟨_, (pts2 s).2.symm.trans (b _)⟩⟩,
      ⟨_, (pts2 m).1.symm.trans (a _)⟩, ⟨_, (pts2 m).2.symm.trans (a _)⟩⟩
end Np
end
section
/-! The nearest points. -/
namespace Np
open Sq67 (Vec before forward box rootUp norm detOf shares has coefficients goesOn gcdAll minors near longest apart far)

/-- Of two neighbours one is no further than the average. -/
theorem pick {a b : Int} {r Q X : Int} (hQ : 0 < Q) (h0 : 0 ≤ r) (h1 : r ≤ Q) (e : (Q - r) * a + r * b = Q * X) : a ≤ X ∨ b ≤ X := by
  rcases Int.lt_or_le X a with ha | ha
  · rcases Int.lt_or_le X b with hb | hb
    · exfalso
      have p1 : (Q - r) * (X + 1) ≤ (Q - r) * a := Int.mul_le_mul_of_nonneg_left (by omega) (by omega)
      have p2 : r * (X + 1) ≤ r * b := Int.mul_le_mul_of_nonneg_left (by omega) h0
      have : (Q - r) * (X + 1) + r * (X + 1) = Q * X + Q := by grind
      omega
    · exact .inr hb
  · exact .inl ha
theorem four_mul {r Q : Int} : 4 * (r * (Q - r)) ≤ Q * Q := by
  have := sq_nonneg (Q - 2 * r)
  grind
theorem pick3 {r Q : Int} (hQ : 0 < Q) (h0 : 0 ≤ r) (h1 : r ≤ Q) (y b : V3) :
    ∃ e : Int, 4 * V3.nrm (V3.add y (V3.smul (r - e * Q) b)) ≤ 4 * V3.nrm y + Q * Q * V3.nrm b := by
  have id1 : (Q - r) * V3.nrm (V3.add y (V3.smul (r - 0 * Q) b)) + r * V3.nrm (V3.add y (V3.smul (r - 1 * Q) b)) = Q * (V3.nrm y + r * (Q - r) * V3.nrm b) := by
    simp only [V3.nrm, V3.dot, V3.add, V3.smul]; grind
  have f := Int.mul_le_mul_of_nonneg_right (four_mul (r := r) (Q := Q)) (V3.nrm_nonneg b)
  have f' : 4 * (r * (Q - r)) * V3.nrm b = 4 * (r * (Q - r) * V3.nrm b) := by grind
  rcases pick hQ h0 h1 id1 with h | h
  · exact ⟨0, by omega⟩
  · exact ⟨1, by omega⟩
theorem pick2 {r Q : Int} (hQ : 0 < Q) (h0 : 0 ≤ r) (h1 : r ≤ Q) (y b : V2) :
    ∃ e : Int, 4 * V2.nrm (V2.add y (V2.smul (r - e * Q) b)) ≤ 4 * V2.nrm y + Q * Q * V2.nrm b := by
  have id1 : (Q - r) * V2.nrm (V2.add y (V2.smul (r - 0 * Q) b)) + r * V2.nrm (V2.add y (V2.smul (r - 1 * Q) b)) = Q * (V2.nrm y + r * (Q - r) * V2.nrm b) := by
    simp only [V2.nrm, V2.dot, V2.add, V2.smul]; grind
  have f := Int.mul_le_mul_of_nonneg_right (four_mul (r := r) (Q := Q)) (V2.nrm_nonneg b)
  have f' : 4 * (r * (Q - r)) * V2.nrm b = 4 * (r * (Q - r) * V2.nrm b) := by grind
  rcases pick hQ h0 h1 id1 with h | h
  · exact ⟨0, by omega⟩
  · exact ⟨1, by omega⟩

theorem div_parts (s : Int) {Q : Int} (hQ : 0 < Q) : ∃ k r, s = k * Q + r ∧ 0 ≤ r ∧ r ≤ Q := by
  refine ⟨s / Q, s % Q, ?_, Int.emod_nonneg _ (by omega), by have := Int.emod_lt_of_pos s hQ; omega⟩
  have := Int.mul_ediv_add_emod s Q
  rw [Int.mul_comm] at this; omega

def df3 (q : Int) (t v : V3) : V3 := V3.add t (V3.smul (-q) v)
def df2 (q : Int) (t v : V2) : V2 := V2.add t (V2.smul (-q) v)

theorem cover3_pos (m : B3) (hD : 0 < m.det) {q : Int} (hq : 0 < q) (t : V3) :
    ∃ k, 4 * V3.nrm (df3 q t (m.pt k)) ≤ q * q * (V3.nrm m.a + V3.nrm m.b + V3.nrm m.c) := by
  have hQ : 0 < q * m.det := Int.mul_pos hq hD
  obtain ⟨k1, r1, e1, l1, u1⟩ := div_parts (V3.dot t m.cof.a) hQ
  obtain ⟨k2, r2, e2, l2, u2⟩ := div_parts (V3.dot t m.cof.b) hQ
  obtain ⟨k3, r3, e3, l3, u3⟩ := div_parts (V3.dot t m.cof.c) hQ
  obtain ⟨j1, h1⟩ := pick3 hQ l1 u1 V3.zero m.a
  generalize hy1 : V3.add V3.zero (V3.smul (r1 - j1 * (q * m.det)) m.a) = y1 at *
  obtain ⟨j2, h2⟩ := pick3 hQ l2 u2 y1 m.b
  generalize hy2 : V3.add y1 (V3.smul (r2 - j2 * (q * m.det)) m.b) = y2 at *
  obtain ⟨j3, h3⟩ := pick3 hQ l3 u3 y2 m.c
  generalize hy3 : V3.add y2 (V3.smul (r3 - j3 * (q * m.det)) m.c) = y3 at *
  have hT : V3.smul m.det t = m.pt ⟨V3.dot t m.cof.a, V3.dot t m.cof.b, V3.dot t m.cof.c⟩ := by
    apply V3.ext' <;> simp only [B3.det, B3.pt, B3.cof, V3.cross, V3.dot, V3.smul] <;> grind
  have hy : y3 = V3.smul m.det (df3 q t (m.pt ⟨k1 + j1, k2 + j2, k3 + j3⟩)) := by
    have hx := congrArg V3.x hT
    have hyy := congrArg V3.y hT
    have hz := congrArg V3.z hT
    rw [e1, e2, e3] at hx hyy hz
    simp only [B3.pt, V3.smul] at hx hyy hz
    rw [← hy3, ← hy2, ← hy1]
    generalize m.det = D at *
    apply V3.ext' <;> simp only [df3, V3.add, V3.smul, V3.zero, B3.pt] <;> grind
  refine ⟨⟨k1 + j1, k2 + j2, k3 + j3⟩, ?_⟩
  rw [hy, B3.nrm_smul] at h3
  have z0 : V3.nrm V3.zero = 0 := rfl
  refine le_of_mul_le (Int.mul_pos hD hD) ?_
  generalize V3.nrm (df3 q t (m.pt ⟨k1 + j1, k2 + j2, k3 + j3⟩)) = N at *
  have e7 : m.det * m.det * (4 * N) = 4 * (m.det * m.det * N) := by grind
  have e8 : m.det * m.det * (q * q * (V3.nrm m.a + V3.nrm m.b + V3.nrm m.c))
      = q * m.det * (q * m.det) * V3.nrm m.a + q * m.det * (q * m.det) * V3.nrm m.b + q * m.det * (q * m.det) * V3.nrm m.c := by grind
  omega
theorem cover3 (m : B3) (hD : m.det ≠ 0) {q : Int} (hq : 0 < q) (t : V3) :
    ∃ k, 4 * V3.nrm (df3 q t (m.pt k)) ≤ q * q * (V3.nrm m.a + V3.nrm m.b + V3.nrm m.c) := by
  rcases Int.lt_or_le 0 m.det with h | h
  · exact cover3_pos m h hq t
  · have hd : 0 < (B3.mk (neg3 m.a) m.b m.c).det := by
      have : (B3.mk (neg3 m.a) m.b m.c).det = - m.det := by simp only [B3.det, neg3, V3.smul, V3.dot, V3.cross]; grind
      omega
    obtain ⟨k, hk⟩ := cover3_pos ⟨neg3 m.a, m.b, m.c⟩ hd hq t
    refine ⟨⟨-k.x, k.y, k.z⟩, ?_⟩
    have e1 : m.pt ⟨-k.x, k.y, k.z⟩ = (B3.mk (neg3 m.a) m.b m.c).pt k := by
      apply V3.ext' <;> simp only [B3.pt, neg3, V3.smul] <;> grind
    have e2 : V3.nrm (neg3 m.a) = V3.nrm m.a := by rw [neg3, B3.nrm_smul]; omega
    rw [e1]; rw [e2] at hk; exact hk
theorem cover2_pos (m : B2) (hD : 0 < m.det) {q : Int} (hq : 0 < q) (t : V2) :
    ∃ k, 4 * V2.nrm (df2 q t (m.pt k)) ≤ q * q * (V2.nrm m.a + V2.nrm m.b) := by
  have hQ : 0 < q * m.det := Int.mul_pos hq hD
  obtain ⟨k1, r1, e1, l1, u1⟩ := div_parts (V2.crs t m.b) hQ
  obtain ⟨k2, r2, e2, l2, u2⟩ := div_parts (V2.crs m.a t) hQ
  obtain ⟨j1, h1⟩ := pick2 hQ l1 u1 V2.zero m.a
  generalize hy1 : V2.add V2.zero (V2.smul (r1 - j1 * (q * m.det)) m.a) = y1 at *
  obtain ⟨j2, h2⟩ := pick2 hQ l2 u2 y1 m.b
  generalize hy2 : V2.add y1 (V2.smul (r2 - j2 * (q * m.det)) m.b) = y2 at *
  have hT : V2.smul m.det t = m.pt ⟨V2.crs t m.b, V2.crs m.a t⟩ := by
    apply V2.ext' <;> simp only [B2.det, B2.pt, V2.crs, V2.smul] <;> grind
  have hy : y2 = V2.smul m.det (df2 q t (m.pt ⟨k1 + j1, k2 + j2⟩)) := by
    have hx := congrArg V2.x hT
    have hyy := congrArg V2.y hT
    rw [e1, e2] at hx hyy
    simp only [B2.pt, V2.smul] at hx hyy
    rw [← hy2, ← hy1]
    generalize m.det = D at *
    apply V2.ext' <;> simp only [df2, V2.add, V2.smul, V2.zero, B2.pt] <;> grind
  refine ⟨⟨k1 + j1, k2 + j2⟩, ?_⟩
  rw [hy, B2.nrm_smul] at h2
  have z0 : V2.nrm V2.zero = 0 := rfl
  refine le_of_mul_le (Int.mul_pos hD hD) ?_
  generalize V2.nrm (df2 q t (m.pt ⟨k1 + j1, k2 + j2⟩)) = N at *
  have e7 : m.det * m.det * (4 * N) = 4 * (m.det * m.det * N) := by grind
  have e8 : m.det * m.det * (q * q * (V2.nrm m.a + V2.nrm m.b))
      = q * m.det * (q * m.det) * V2.nrm m.a + q * m.det * (q * m.det) * V2.nrm m.b := by grind
  omega
theorem cover2 (m : B2) (hD : m.det ≠ 0) {q : Int} (hq : 0 < q) (t : V2) :
    ∃ k, 4 * V2.nrm (df2 q t (m.pt k)) ≤ q * q * (V2.nrm m.a + V2.nrm m.b) := by
  rcases Int.lt_or_le 0 m.det with h | h
  · exact cover2_pos m h hq t
  · have hd : 0 < (B2.mk (neg2 m.a) m.b).det := by
      have : (B2.mk (neg2 m.a) m.b).det = - m.det := by simp only [B2.det, neg2, V2.smul, V2.crs]; grind
      omega
    obtain ⟨k, hk⟩ := cover2_pos ⟨neg2 m.a, m.b⟩ hd hq t
    refine ⟨⟨-k.x, k.y⟩, ?_⟩
    have e1 : m.pt ⟨-k.x, k.y⟩ = (B2.mk (neg2 m.a) m.b).pt k := by
      apply V2.ext' <;> simp only [B2.pt, neg2, V2.smul] <;> grind
    have e2 : V2.nrm (neg2 m.a) = V2.nrm m.a := by rw [neg2, B2.nrm_smul]; omega
    rw [e1]; rw [e2] at hk; exact hk

theorem far3 (q : Nat) (t v : V3) : far q (l3 t) (l3 v) = V3.nrm (df3 q t v) := by
  have : Sq67.sub (l3 t) (Sq67.scale q (l3 v)) = l3 (df3 q t v) := by
    simp [Sq67.sub, Sq67.scale, l3, df3, V3.add, V3.smul]; refine ⟨?_, ?_, ?_⟩ <;> grind
  rw [far, this, norm3]
theorem far2 (q : Nat) (t v : V2) : far q (l2 t) (l2 v) = V2.nrm (df2 q t v) := by
  have : Sq67.sub (l2 t) (Sq67.scale q (l2 v)) = l2 (df2 q t v) := by
    simp [Sq67.sub, Sq67.scale, l2, df2, V2.add, V2.smul]; refine ⟨?_, ?_⟩ <;> grind
  rw [far, this, norm2]

/-- a number no further than so from the place stands within the box -/
theorem in_box_near {q S : Nat} (hq : 0 < q) {t v : Int} (h : 4 * ((t - q * v) * (t - q * v)) ≤ q * q * (S : Int)) :
    Sq67.rounded t q - ((rootUp S + 1) / 2 + 1 : Nat) ≤ v ∧ v ≤ Sq67.rounded t q + ((rootUp S + 1) / 2 + 1 : Nat) := by
  have h1 : (S : Int) ≤ (rootUp S : Int) * rootUp S := by
    have := Int.ofNat_le.mpr (le_rootUp S); rw [Int.natCast_mul] at this; exact this
  generalize rootUp S = R at *
  have h2 : (q : Int) * q * S ≤ q * q * (R * R) := Int.mul_le_mul_of_nonneg_left h1 (sq_nonneg _)
  have h3 : (2 * (t - q * v)) * (2 * (t - q * v)) ≤ (q * R) * ((q : Int) * R) := by grind
  have hqR : (0 : Int) ≤ q * R := Int.mul_nonneg (by omega) (by omega)
  obtain ⟨a1, a2⟩ := abs_le_of_sq hqR h3
  have b1 := Int.emod_add_mul_ediv (2 * t + q) (2 * q : Nat)
  have b2 := Int.emod_nonneg (2 * t + q) (b := (2 * q : Nat)) (by omega)
  have b3 := Int.emod_lt_of_pos (2 * t + q) (b := (2 * q : Nat)) (by omega)
  show (2 * t + q) / (2 * q : Nat) - _ ≤ v ∧ v ≤ (2 * t + q) / (2 * q : Nat) + _
  generalize (2 * t + (q : Int)) / (2 * q : Nat) = o at *
  generalize (2 * t + (q : Int)) % (2 * q : Nat) = e at *
  have hq' : (0 : Int) < q := by omega
  have c1 : (q : Int) * (2 * (v - o)) ≤ q * (R + 1) := by
    have : ((2 * q : Nat) : Int) * o = q * (2 * o) := by rw [Int.natCast_mul]; grind
    grind
  have c2 : (q : Int) * (2 * (o - v)) ≤ q * (R + 1) := by
    have : ((2 * q : Nat) : Int) * o = q * (2 * o) := by rw [Int.natCast_mul]; grind
    grind
  have d1 := le_of_mul_le hq' c1
  have d2 := le_of_mul_le hq' c2
  omega

theorem sum3 (m : B3) : (((b3 m).map fun v => (norm v).toNat).sum : Int) = V3.nrm m.a + V3.nrm m.b + V3.nrm m.c := by
  have h1 := V3.nrm_nonneg m.a
  have h2 := V3.nrm_nonneg m.b
  have h3 := V3.nrm_nonneg m.c
  simp only [b3, List.map_cons, List.map_nil, List.sum_cons, List.sum_nil, norm3]; omega
theorem sum2 (m : B2) : (((b2 m).map fun v => (norm v).toNat).sum : Int) = V2.nrm m.a + V2.nrm m.b := by
  have h1 := V2.nrm_nonneg m.a
  have h2 := V2.nrm_nonneg m.b
  simp only [b2, List.map_cons, List.map_nil, List.sum_cons, List.sum_nil, norm2]; omega

/-- The least of a list that holds all that are near enough. -/
theorem told_least {n : Nat} {L : Vec → Prop} {f : Vec → Int} {l : List Vec} {X : Int} (hlen : ∀ v ∈ l, v.length = n) (hnd : l.Nodup)
    (hin : ∀ v ∈ l, L v) (hall : ∀ v, L v → f v ≤ X → v ∈ l) (hex : ∃ v, L v ∧ f v ≤ X) :
    Told (fun v => L v ∧ ∀ u, L u → f v ≤ f u) (match (l.map f).min? with
      | none => []
      | some m => (l.filter fun v => f v == m).foldl (fun s v => Sq67.put v s) []) := by
  obtain ⟨v0, h0, h0'⟩ := hex
  have hv0 := hall v0 h0 h0'
  cases e : (l.map f).min? with
  | none =>
    rw [List.min?_eq_none_iff] at e
    rw [List.map_eq_nil_iff] at e
    rw [e] at hv0; simp at hv0
  | some m =>
    rw [List.min?_eq_some_iff] at e
    obtain ⟨hm, hle⟩ := e
    have hf := fold_put (n := n) (l.filter fun v => f v == m) [] (fun v hv => hlen v (List.mem_filter.mp hv).1) (by simp) (hnd.filter _) (by simp) (by simp)
    refine ⟨hf.1, fun v => (hf.2 v).trans ?_⟩
    have hle' : ∀ v ∈ l, m ≤ f v := fun v hv => hle _ (List.mem_map.mpr ⟨v, hv, rfl⟩)
    obtain ⟨w, hw, hwm⟩ := List.mem_map.mp hm
    have glob : ∀ u, L u → m ≤ f u := fun u hu => by
      rcases Int.lt_or_le X (f u) with g | g
      · have := hle' v0 hv0; omega
      · exact hle' u (hall u hu g)
    simp only [List.not_mem_nil, or_false, List.mem_filter, beq_iff_eq]
    constructor
    · rintro ⟨h1, h2⟩
      exact ⟨hin v h1, fun u hu => by rw [h2]; exact glob u hu⟩
    · rintro ⟨h1, h2⟩
      have a := h2 w (hin w hw)
      have b := h2 v0 h0
      have c := glob v h1
      exact ⟨hall v h1 (by omega), by omega⟩

/-- **The nearest points, all of them and no other.** -/
theorem nearest3 {m : B3} (hm : m.det ≠ 0) {q : Nat} (hq : 0 < q) (t : V3) :
    Told (fun v => S3 m v ∧ ∀ u, S3 m u → far q (l3 t) v ≤ far q (l3 t) u) (Sq67.nearest (b3 m) q (l3 t)) := by
  have hlen : ∀ v ∈ box ((rootUp (((b3 m).map fun v => (norm v).toNat).sum) + 1) / 2 + 1) ((l3 t).map fun x => Sq67.rounded x q), v.length = 3 :=
    fun v hv => (mem_box.mp hv).1
  refine told_least (n := 3) (X := (q * q * (V3.nrm m.a + V3.nrm m.b + V3.nrm m.c)) / 4) (fun v hv => hlen v (List.mem_filter.mp hv).1) (box_nodup.filter _) ?_ ?_ ?_
  · intro v hv
    obtain ⟨h1, h2⟩ := List.mem_filter.mp hv
    obtain ⟨w, rfl⟩ := len3 (hlen v h1)
    obtain ⟨k, rfl⟩ := (has3 m hm w).mp h2
    exact ⟨k, rfl⟩
  · rintro _ ⟨k, rfl⟩ hX
    refine List.mem_filter.mpr ⟨mem_box.mpr ⟨rfl, ?_⟩, (has3 m hm _).mpr ⟨k, rfl⟩⟩
    rw [far3] at hX
    have hX' : 4 * V3.nrm (df3 q t (m.pt k)) ≤ q * q * ((((b3 m).map fun v => (norm v).toNat).sum : Nat) : Int) := by rw [sum3]; omega
    generalize ((b3 m).map fun v => (norm v).toNat).sum = S at *
    generalize m.pt k = v at *
    have s1 := sq_nonneg (t.x - q * v.x)
    have s2 := sq_nonneg (t.y - q * v.y)
    have s3 := sq_nonneg (t.z - q * v.z)
    have e : V3.nrm (df3 q t v) = (t.x - q * v.x) * (t.x - q * v.x) + (t.y - q * v.y) * (t.y - q * v.y) + (t.z - q * v.z) * (t.z - q * v.z) := by
      simp only [V3.nrm, V3.dot, df3, V3.add, V3.smul]; grind
    rw [e] at hX'
    intro p hp
    simp only [l3, List.map_cons, List.map_nil, List.zip_cons_cons, List.zip_nil_right, List.mem_cons, List.not_mem_nil, or_false] at hp
    rcases hp with rfl | rfl | rfl
    · exact in_box_near hq (by show 4 * _ ≤ _; simp only; omega)
    · exact in_box_near hq (by show 4 * _ ≤ _; simp only; omega)
    · exact in_box_near hq (by show 4 * _ ≤ _; simp only; omega)
  · obtain ⟨k, hk⟩ := cover3 m hm (q := q) (by omega) t
    refine ⟨_, ⟨k, rfl⟩, ?_⟩
    rw [far3]; omega
theorem nearest2 {m : B2} (hm : m.det ≠ 0) {q : Nat} (hq : 0 < q) (t : V2) :
    Told (fun v => S2 m v ∧ ∀ u, S2 m u → far q (l2 t) v ≤ far q (l2 t) u) (Sq67.nearest (b2 m) q (l2 t)) := by
  have hlen : ∀ v ∈ box ((rootUp (((b2 m).map fun v => (norm v).toNat).sum) + 1) / 2 + 1) ((l2 t).map fun x => Sq67.rounded x q), v.length = 2 :=
    fun v hv => (mem_box.mp hv).1
  refine told_least (n := 2) (X := (q * q * (V2.nrm m.a + V2.nrm m.b)) / 4) (fun v hv => hlen v (List.mem_filter.mp hv).1) (box_nodup.filter _) ?_ ?_ ?_
  · intro v hv
    obtain ⟨h1, h2⟩ := List.mem_filter.mp hv
    obtain ⟨w, rfl⟩ := len2 (hlen v h1)
    obtain ⟨k, rfl⟩ := (has2 m hm w).mp h2
    exact ⟨k, rfl⟩
  · rintro _ ⟨k, rfl⟩ hX
    refine List.mem_filter.mpr ⟨mem_box.mpr ⟨rfl, ?_⟩, (has2 m hm _).mpr ⟨k, rfl⟩⟩
    rw [far2] at hX
    have hX' : 4 * V2.nrm (df2 q t (m.pt k)) ≤ q * q * ((((b2 m).map fun v => (norm v).toNat).sum : Nat) : Int) := by rw [sum2]; omega
    generalize ((b2 m).map fun v => (norm v).toNat).sum = S at *
    generalize m.pt k = v at *
    have s1 := sq_nonneg (t.x - q * v.x)
    have s2 := sq_nonneg (t.y - q * v.y)
    have e : V2.nrm (df2 q t v) = (t.x - q * v.x) * (t.x - q * v.x) + (t.y - q * v.y) * (t.y - q * v.y) := by
      simp only [V2.nrm, V2.dot, df2, V2.add, V2.smul]; grind
    rw [e] at hX'
    intro p hp
    simp only [l2, List.map_cons, List.map_nil, List.zip_cons_cons, List.zip_nil_right, List.mem_cons, List.not_mem_nil, or_false] at hp
    rcases hp with rfl | rfl
    · exact in_box_near hq (by show 4 * _ ≤ _; simp only; omega)
    · exact in_box_near hq (by show 4 * _ ≤ _; simp only; omega)
  · obtain ⟨k, hk⟩ := cover2 m hm (q := q) (by omega) t
    refine ⟨_, ⟨k, rfl⟩, ?_⟩
    rw [far2]; omega
end Np
end
section
/-! Walls. -/
namespace Np
open Sq67 (Vec before forward box rootUp norm detOf shares has coefficients goesOn gcdAll minors near longest apart far)

/-- No step gets shorter by another put to it. -/
structure Pair3 (r : B3) : Prop where
  ab : -V3.nrm r.a ≤ 2 * V3.dot r.a r.b ∧ 2 * V3.dot r.a r.b ≤ V3.nrm r.a
  ba : -V3.nrm r.b ≤ 2 * V3.dot r.a r.b ∧ 2 * V3.dot r.a r.b ≤ V3.nrm r.b
  ac : -V3.nrm r.a ≤ 2 * V3.dot r.a r.c ∧ 2 * V3.dot r.a r.c ≤ V3.nrm r.a
  ca : -V3.nrm r.c ≤ 2 * V3.dot r.a r.c ∧ 2 * V3.dot r.a r.c ≤ V3.nrm r.c
  bc : -V3.nrm r.b ≤ 2 * V3.dot r.b r.c ∧ 2 * V3.dot r.b r.c ≤ V3.nrm r.b
  cb : -V3.nrm r.c ≤ 2 * V3.dot r.b r.c ∧ 2 * V3.dot r.b r.c ≤ V3.nrm r.c
structure Pair2 (r : B2) : Prop where
  ab : -V2.nrm r.a ≤ 2 * V2.dot r.a r.b ∧ 2 * V2.dot r.a r.b ≤ V2.nrm r.a
  ba : -V2.nrm r.b ≤ 2 * V2.dot r.a r.b ∧ 2 * V2.dot r.a r.b ≤ V2.nrm r.b

theorem nrm_pt3 (r : B3) (k : V3) : V3.nrm (r.pt k) = k.x * k.x * V3.nrm r.a + k.y * k.y * V3.nrm r.b + k.z * k.z * V3.nrm r.c
    + 2 * (k.x * k.y * V3.dot r.a r.b) + 2 * (k.x * k.z * V3.dot r.a r.c) + 2 * (k.y * k.z * V3.dot r.b r.c) := by
  simp only [V3.nrm, V3.dot, B3.pt]; grind
theorem nrm_pt2 (r : B2) (k : V2) : V2.nrm (r.pt k) = k.x * k.x * V2.nrm r.a + k.y * k.y * V2.nrm r.b + 2 * (k.x * k.y * V2.dot r.a r.b) := by
  simp only [V2.nrm, V2.dot, B2.pt]; grind

theorem pair3 {r : B3} (h : Mink3 r) : Pair3 r := by
  have h1 := h.m2 ⟨1, 1, 0⟩ (.inl (by decide))
  have h2 := h.m2 ⟨-1, 1, 0⟩ (.inl (by decide))
  have h3 := h.m3 ⟨1, 0, 1⟩ (by decide)
  have h4 := h.m3 ⟨-1, 0, 1⟩ (by decide)
  have h5 := h.m3 ⟨0, 1, 1⟩ (by decide)
  have h6 := h.m3 ⟨0, -1, 1⟩ (by decide)
  have g1 := h.m1 ⟨0, 1, 0⟩ (by simp [V3.zero])
  have g2 := h.m2 ⟨0, 0, 1⟩ (.inr (by decide))
  rw [nrm_pt3] at *
  simp only at *
  constructor <;> omega
theorem pair2 {r : B2} (h : Mink2 r) : Pair2 r := by
  have h1 := h.m2 ⟨1, 1⟩ (by decide)
  have h2 := h.m2 ⟨-1, 1⟩ (by decide)
  have g1 := h.m1 ⟨0, 1⟩ (by simp [V2.zero])
  rw [nrm_pt2] at *
  simp only at *
  constructor <;> omega

theorem mul_bound {p N B : Int} (hp : 0 ≤ p) (h1 : -N ≤ 2 * B) (h2 : 2 * B ≤ N) : -(p * N) ≤ 2 * (p * B) ∧ 2 * (p * B) ≤ p * N := by
  have a := Int.mul_le_mul_of_nonneg_left h1 hp
  have b := Int.mul_le_mul_of_nonneg_left h2 hp
  constructor <;> grind

/-- small: each number is -1, 0 or 1 -/
def Sm (x : Int) : Prop := -1 ≤ x ∧ x ≤ 1
def Small3 (k : V3) : Prop := Sm k.x ∧ Sm k.y ∧ Sm k.z
def Small2 (k : V2) : Prop := Sm k.x ∧ Sm k.y
def sz3 (k : V3) : Nat := k.x.natAbs + k.y.natAbs + k.z.natAbs
def sz2 (k : V2) : Nat := k.x.natAbs + k.y.natAbs
def sub2of3 (k e : V3) : V3 := ⟨k.x - 2 * e.x, k.y - 2 * e.y, k.z - 2 * e.z⟩
def sub2of2 (k e : V2) : V2 := ⟨k.x - 2 * e.x, k.y - 2 * e.y⟩

/-- with a sign taken out -/
theorem sign_out (x : Int) : ∃ s : Int, (s = 1 ∨ s = -1) ∧ ∃ X : Int, 0 ≤ X ∧ x = s * X ∧ (x.natAbs : Int) = X := by
  rcases Int.le_total 0 x with h | h
  · exact ⟨1, .inl rfl, x, h, by omega, by omega⟩
  · exact ⟨-1, .inr rfl, -x, by omega, by omega, by omega⟩

/-- One number's own way down. -/
theorem down1 {X Y Z N B C : Int} (hN : 0 ≤ N) (hY : 0 ≤ Y) (hZ : 0 ≤ Z) (hB : -N ≤ 2 * B ∧ 2 * B ≤ N) (hC : -N ≤ 2 * C ∧ 2 * C ≤ N)
    (h : Y + Z ≤ 2 * (X - 1)) {s : Int} {t : Int} (hs : s = 1 ∨ s = -1) (ht : t = 1 ∨ t = -1) :
    N ≤ X * N + s * (Y * B) + t * (Z * C) := by
  have b := mul_bound hY hB.1 hB.2
  have c := mul_bound hZ hC.1 hC.2
  have d : (Y + Z) * N ≤ 2 * (X - 1) * N := Int.mul_le_mul_of_nonneg_right h hN
  have d' : (Y + Z) * N = Y * N + Z * N := by grind
  have d'' : 2 * (X - 1) * N = 2 * (X * N) - 2 * N := by grind
  rcases hs with rfl | rfl <;> rcases ht with rfl | rfl <;> omega

theorem nrm_sub3 (r : B3) (k e : V3) : V3.nrm (r.pt (sub2of3 k e)) = V3.nrm (r.pt k) - 4 * (V3.dot (r.pt k) (r.pt e) - V3.nrm (r.pt e)) := by
  simp only [V3.nrm, V3.dot, B3.pt, sub2of3]; grind
theorem nrm_sub2 (r : B2) (k e : V2) : V2.nrm (r.pt (sub2of2 k e)) = V2.nrm (r.pt k) - 4 * (V2.dot (r.pt k) (r.pt e) - V2.nrm (r.pt e)) := by
  simp only [V2.nrm, V2.dot, B2.pt, sub2of2]; grind

theorem dot3_x (r : B3) {s t u X Y Z : Int} (ss : s * s = 1) : V3.dot (r.pt ⟨s * X, t * Y, u * Z⟩) (r.pt ⟨s, 0, 0⟩)
    = X * V3.nrm r.a + s * t * (Y * V3.dot r.a r.b) + s * u * (Z * V3.dot r.a r.c) := by
  have : V3.dot (r.pt ⟨s * X, t * Y, u * Z⟩) (r.pt ⟨s, 0, 0⟩) = (s * s) * X * V3.nrm r.a + s * t * (Y * V3.dot r.a r.b) + s * u * (Z * V3.dot r.a r.c) := by
    simp only [V3.nrm, V3.dot, B3.pt]; grind
  rw [this, ss]; grind
theorem dot3_y (r : B3) {s t u X Y Z : Int} (tt : t * t = 1) : V3.dot (r.pt ⟨s * X, t * Y, u * Z⟩) (r.pt ⟨0, t, 0⟩)
    = Y * V3.nrm r.b + t * s * (X * V3.dot r.a r.b) + t * u * (Z * V3.dot r.b r.c) := by
  have : V3.dot (r.pt ⟨s * X, t * Y, u * Z⟩) (r.pt ⟨0, t, 0⟩) = (t * t) * Y * V3.nrm r.b + t * s * (X * V3.dot r.a r.b) + t * u * (Z * V3.dot r.b r.c) := by
    simp only [V3.nrm, V3.dot, B3.pt]; grind
  rw [this, tt]; grind
theorem dot3_z (r : B3) {s t u X Y Z : Int} (uu : u * u = 1) : V3.dot (r.pt ⟨s * X, t * Y, u * Z⟩) (r.pt ⟨0, 0, u⟩)
    = Z * V3.nrm r.c + u * s * (X * V3.dot r.a r.c) + u * t * (Y * V3.dot r.b r.c) := by
  have : V3.dot (r.pt ⟨s * X, t * Y, u * Z⟩) (r.pt ⟨0, 0, u⟩) = (u * u) * Z * V3.nrm r.c + u * s * (X * V3.dot r.a r.c) + u * t * (Y * V3.dot r.b r.c) := by
    simp only [V3.nrm, V3.dot, B3.pt]; grind
  rw [this, uu]; grind
theorem dot3_all (r : B3) {s t u X Y Z : Int} (ss : s * s = 1) (tt : t * t = 1) (uu : u * u = 1) : V3.dot (r.pt ⟨s * X, t * Y, u * Z⟩) (r.pt ⟨s, t, u⟩)
    = X * (V3.nrm r.a + s * t * V3.dot r.a r.b + s * u * V3.dot r.a r.c)
        + Y * (V3.nrm r.b + s * t * V3.dot r.a r.b + t * u * V3.dot r.b r.c) + Z * (V3.nrm r.c + s * u * V3.dot r.a r.c + t * u * V3.dot r.b r.c) := by
  have : V3.dot (r.pt ⟨s * X, t * Y, u * Z⟩) (r.pt ⟨s, t, u⟩) = X * ((s * s) * V3.nrm r.a + s * t * V3.dot r.a r.b + s * u * V3.dot r.a r.c)
        + Y * ((t * t) * V3.nrm r.b + s * t * V3.dot r.a r.b + t * u * V3.dot r.b r.c) + Z * ((u * u) * V3.nrm r.c + s * u * V3.dot r.a r.c + t * u * V3.dot r.b r.c) := by
    simp only [V3.nrm, V3.dot, B3.pt]; grind
  rw [this, ss, tt, uu]; grind
theorem dot2_x (r : B2) {s t X Y : Int} (ss : s * s = 1) : V2.dot (r.pt ⟨s * X, t * Y⟩) (r.pt ⟨s, 0⟩)
    = X * V2.nrm r.a + s * t * (Y * V2.dot r.a r.b) + s * t * (0 * V2.dot r.a r.b) := by
  have : V2.dot (r.pt ⟨s * X, t * Y⟩) (r.pt ⟨s, 0⟩) = (s * s) * X * V2.nrm r.a + s * t * (Y * V2.dot r.a r.b) := by
    simp only [V2.nrm, V2.dot, B2.pt]; grind
  rw [this, ss]; grind
theorem dot2_y (r : B2) {s t X Y : Int} (tt : t * t = 1) : V2.dot (r.pt ⟨s * X, t * Y⟩) (r.pt ⟨0, t⟩)
    = Y * V2.nrm r.b + t * s * (X * V2.dot r.a r.b) + t * s * (0 * V2.dot r.a r.b) := by
  have : V2.dot (r.pt ⟨s * X, t * Y⟩) (r.pt ⟨0, t⟩) = (t * t) * Y * V2.nrm r.b + t * s * (X * V2.dot r.a r.b) := by
    simp only [V2.nrm, V2.dot, B2.pt]; grind
  rw [this, tt]; grind

theorem all_down {A B C P Q R X Y Z : Int} (qab : -A ≤ 2 * P ∧ 2 * P ≤ A) (qba : -B ≤ 2 * P ∧ 2 * P ≤ B)
    (qac : -A ≤ 2 * Q ∧ 2 * Q ≤ A) (qca : -C ≤ 2 * Q ∧ 2 * Q ≤ C) (qbc : -B ≤ 2 * R ∧ 2 * R ≤ B) (qcb : -C ≤ 2 * R ∧ 2 * R ≤ C)
    (hc : ∃ M, 2 ≤ M ∧ ((X = M ∧ Y = M ∧ Z = M) ∨ (X = M - 1 ∧ Y = M ∧ Z = M) ∨ (X = M ∧ Y = M - 1 ∧ Z = M) ∨ (X = M ∧ Y = M ∧ Z = M - 1))) :
    A + B + C + 2 * P + 2 * Q + 2 * R ≤ X * (A + P + Q) + Y * (B + P + R) + Z * (C + Q + R) := by
  obtain ⟨M, hM, hc⟩ := hc
  have pa : 0 ≤ A + P + Q := by omega
  have pb : 0 ≤ B + P + R := by omega
  have pc : 0 ≤ C + Q + R := by omega
  have f1 := Int.mul_nonneg (show 0 ≤ M - 2 by omega) pa
  have f2 := Int.mul_nonneg (show 0 ≤ M - 2 by omega) pb
  have f3 := Int.mul_nonneg (show 0 ≤ M - 2 by omega) pc
  have ex1 : ∀ (W : Int), M * W = (M - 2) * W + 2 * W := fun W => by grind
  have ex2 : ∀ (W : Int), (M - 1) * W = (M - 2) * W + W := fun W => by grind
  rcases hc with ⟨h1, h2, h3⟩ | ⟨h1, h2, h3⟩ | ⟨h1, h2, h3⟩ | ⟨h1, h2, h3⟩
  · rw [h1, h2, h3, ex1, ex1, ex1]; omega
  · rw [h1, h2, h3, ex2, ex1, ex1]; omega
  · rw [h1, h2, h3, ex1, ex2, ex1]; omega
  · rw [h1, h2, h3, ex1, ex1, ex2]; omega

/-- **The way down**: what is not small has as short a one, smaller, that differs by twice a small one. -/
theorem down3 {r : B3} (h : Pair3 r) (k : V3) (hk : ¬ Small3 k) :
    ∃ e, Small3 e ∧ sz3 (sub2of3 k e) < sz3 k ∧ V3.nrm (r.pt (sub2of3 k e)) ≤ V3.nrm (r.pt k) := by
  obtain ⟨s, hs, X, hX, ex, nx⟩ := sign_out k.x
  obtain ⟨t, ht, Y, hY, ey, ny⟩ := sign_out k.y
  obtain ⟨u, hu, Z, hZ, ez, nz⟩ := sign_out k.z
  have big : 2 ≤ X ∨ 2 ≤ Y ∨ 2 ≤ Z := by
    simp only [Small3, Sm] at hk; omega
  have hkk : k = ⟨s * X, t * Y, u * Z⟩ := V3.ext' ex ey ez
  have nA := V3.nrm_nonneg r.a
  have nB := V3.nrm_nonneg r.b
  have nC := V3.nrm_nonneg r.c
  have ss : s * s = 1 := by rcases hs with rfl | rfl <;> rfl
  have tt : t * t = 1 := by rcases ht with rfl | rfl <;> rfl
  have uu : u * u = 1 := by rcases hu with rfl | rfl <;> rfl
  have sm : ∀ {i : Int}, i = 1 ∨ i = -1 → Sm i := fun h => by unfold Sm; omega
  have s0 : Sm 0 := by unfold Sm; omega
  have st1 : ∀ {i j : Int}, i = 1 ∨ i = -1 → j = 1 ∨ j = -1 → i * j = 1 ∨ i * j = -1 := fun a b => by
    rcases a with rfl | rfl <;> rcases b with rfl | rfl <;> decide
  -- one alone
  by_cases c1 : 2 ≤ X ∧ Y + Z ≤ 2 * (X - 1)
  · refine ⟨⟨s, 0, 0⟩, ⟨sm hs, s0, s0⟩, ?_, ?_⟩
    · simp only [sz3, sub2of3]; rcases hs with rfl | rfl <;> omega
    · rw [nrm_sub3]
      have := down1 nA hY hZ h.ab h.ac c1.2 (st1 hs ht) (st1 hs hu)
      have e1 := dot3_x r (t := t) (u := u) (X := X) (Y := Y) (Z := Z) ss
      rw [← hkk] at e1
      have e2 : V3.nrm (r.pt ⟨s, 0, 0⟩) = V3.nrm r.a := by
        rw [nrm_pt3]; simp only [ss]; omega
      omega
  by_cases c2 : 2 ≤ Y ∧ X + Z ≤ 2 * (Y - 1)
  · refine ⟨⟨0, t, 0⟩, ⟨s0, sm ht, s0⟩, ?_, ?_⟩
    · simp only [sz3, sub2of3]; rcases ht with rfl | rfl <;> omega
    · rw [nrm_sub3]
      have := down1 nB hX hZ h.ba h.bc c2.2 (st1 ht hs) (st1 ht hu)
      have e1 := dot3_y r (s := s) (u := u) (X := X) (Y := Y) (Z := Z) tt
      rw [← hkk] at e1
      have e2 : V3.nrm (r.pt ⟨0, t, 0⟩) = V3.nrm r.b := by
        rw [nrm_pt3]; simp only [tt]; omega
      omega
  by_cases c3 : 2 ≤ Z ∧ X + Y ≤ 2 * (Z - 1)
  · refine ⟨⟨0, 0, u⟩, ⟨s0, s0, sm hu⟩, ?_, ?_⟩
    · simp only [sz3, sub2of3]; rcases hu with rfl | rfl <;> omega
    · rw [nrm_sub3]
      have := down1 nC hX hY h.ca h.cb c3.2 (st1 hu hs) (st1 hu ht)
      have e1 := dot3_z r (s := s) (t := t) (X := X) (Y := Y) (Z := Z) uu
      rw [← hkk] at e1
      have e2 : V3.nrm (r.pt ⟨0, 0, u⟩) = V3.nrm r.c := by
        rw [nrm_pt3]; simp only [uu]; omega
      omega
  -- all three together
  refine ⟨⟨s, t, u⟩, ⟨sm hs, sm ht, sm hu⟩, ?_, ?_⟩
  · simp only [sz3, sub2of3]
    rcases hs with rfl | rfl <;> rcases ht with rfl | rfl <;> rcases hu with rfl | rfl <;> omega
  · rw [nrm_sub3]
    have hab : ∀ {N B : Int}, -N ≤ 2 * B ∧ 2 * B ≤ N → ∀ {i : Int}, i = 1 ∨ i = -1 → -N ≤ 2 * (i * B) ∧ 2 * (i * B) ≤ N := fun {N B} hh {i} hi => by
      rcases hi with rfl | rfl <;> omega
    have qab := hab h.ab (st1 hs ht)
    have qba := hab h.ba (st1 hs ht)
    have qac := hab h.ac (st1 hs hu)
    have qca := hab h.ca (st1 hs hu)
    have qbc := hab h.bc (st1 ht hu)
    have qcb := hab h.cb (st1 ht hu)
    have e1 := dot3_all r (X := X) (Y := Y) (Z := Z) ss tt uu
    rw [← hkk] at e1
    have e2 : V3.nrm (r.pt ⟨s, t, u⟩) = V3.nrm r.a + V3.nrm r.b + V3.nrm r.c + 2 * (s * t * V3.dot r.a r.b) + 2 * (s * u * V3.dot r.a r.c) + 2 * (t * u * V3.dot r.b r.c) := by
      rw [nrm_pt3]; simp only [ss, tt, uu]; omega
    rw [e1, e2]
    have := all_down qab qba qac qca qbc qcb (X := X) (Y := Y) (Z := Z) (by
      clear qab qba qac qca qbc qcb e1 e2 hab nA nB nC h
      by_cases q1 : X = Y
      · exact ⟨max X Z, by omega, by omega⟩
      · exact ⟨max X Y, by omega, by omega⟩)
    omega
theorem down2 {r : B2} (h : Pair2 r) (k : V2) (hk : ¬ Small2 k) :
    ∃ e, Small2 e ∧ sz2 (sub2of2 k e) < sz2 k ∧ V2.nrm (r.pt (sub2of2 k e)) ≤ V2.nrm (r.pt k) := by
  obtain ⟨s, hs, X, hX, ex, nx⟩ := sign_out k.x
  obtain ⟨t, ht, Y, hY, ey, ny⟩ := sign_out k.y
  have big : 2 ≤ X ∨ 2 ≤ Y := by
    simp only [Small2, Sm] at hk; omega
  have hkk : k = ⟨s * X, t * Y⟩ := V2.ext' ex ey
  have nA := V2.nrm_nonneg r.a
  have nB := V2.nrm_nonneg r.b
  have ss : s * s = 1 := by rcases hs with rfl | rfl <;> rfl
  have tt : t * t = 1 := by rcases ht with rfl | rfl <;> rfl
  have sm : ∀ {i : Int}, i = 1 ∨ i = -1 → Sm i := fun h => by unfold Sm; omega
  have s0 : Sm 0 := by unfold Sm; omega
  have st1 : ∀ {i j : Int}, i = 1 ∨ i = -1 → j = 1 ∨ j = -1 → i * j = 1 ∨ i * j = -1 := fun a b => by
    rcases a with rfl | rfl <;> rcases b with rfl | rfl <;> decide
  by_cases c1 : Y ≤ X
  · refine ⟨⟨s, 0⟩, ⟨sm hs, s0⟩, ?_, ?_⟩
    · simp only [sz2, sub2of2]; rcases hs with rfl | rfl <;> omega
    · rw [nrm_sub2]
      have := down1 (X := X) (Z := 0) nA hY (by omega) h.ab h.ab (by omega) (st1 hs ht) (st1 hs ht)
      have e1 := dot2_x r (t := t) (X := X) (Y := Y) ss
      rw [← hkk] at e1
      have e2 : V2.nrm (r.pt ⟨s, 0⟩) = V2.nrm r.a := by
        rw [nrm_pt2]; simp only [ss]; omega
      omega
  · refine ⟨⟨0, t⟩, ⟨s0, sm ht⟩, ?_, ?_⟩
    · simp only [sz2, sub2of2]; rcases ht with rfl | rfl <;> omega
    · rw [nrm_sub2]
      have := down1 (X := Y) (Z := 0) nB hX (by omega) h.ba h.ba (by omega) (st1 ht hs) (st1 ht hs)
      have e1 := dot2_y r (s := s) (X := X) (Y := Y) tt
      rw [← hkk] at e1
      have e2 : V2.nrm (r.pt ⟨0, t⟩) = V2.nrm r.b := by
        rw [nrm_pt2]; simp only [tt]; omega
      omega
end Np
end
section
/-! Walls, and what they tell. -/
namespace Np
open Sq67 (Vec before forward box rootUp norm detOf shares has coefficients goesOn gcdAll minors near longest apart far)

theorem comb3 (r : B3) (k : V3) : ((l3 k).zip (b3 r)).foldl (fun s x => Sq67.add s (Sq67.scale x.1 x.2)) (Sq67.origin 3) = l3 (r.pt k) := by
  simp [l3, b3, Sq67.add, Sq67.scale, Sq67.origin, List.replicate, B3.pt]
theorem comb2 (r : B2) (k : V2) : ((l2 k).zip (b2 r)).foldl (fun s x => Sq67.add s (Sq67.scale x.1 x.2)) (Sq67.origin 2) = l2 (r.pt k) := by
  simp [l2, b2, Sq67.add, Sq67.scale, Sq67.origin, List.replicate, B2.pt]

theorem mem_box1_3 (v : Vec) : v ∈ box 1 (Sq67.origin 3) ↔ ∃ k, Small3 k ∧ v = l3 k := by
  rw [mem_box]
  constructor
  · rintro ⟨h1, h2⟩
    obtain ⟨k, rfl⟩ := len3 h1
    refine ⟨k, ?_, rfl⟩
    simp only [l3, Sq67.origin, List.replicate_succ, List.replicate_zero, List.zip_cons_cons, List.zip_nil_right, List.mem_cons, List.not_mem_nil, or_false] at h2
    have a := h2 _ (.inl rfl); have b := h2 _ (.inr (.inl rfl)); have c := h2 _ (.inr (.inr rfl))
    simp only [Small3, Sm] at *; omega
  · rintro ⟨k, h, rfl⟩
    refine ⟨rfl, ?_⟩
    simp only [l3, Sq67.origin, List.replicate_succ, List.replicate_zero, List.zip_cons_cons, List.zip_nil_right, List.mem_cons, List.not_mem_nil, or_false]
    simp only [Small3, Sm] at h
    rintro p (rfl | rfl | rfl) <;> simp only <;> omega
theorem mem_box1_2 (v : Vec) : v ∈ box 1 (Sq67.origin 2) ↔ ∃ k, Small2 k ∧ v = l2 k := by
  rw [mem_box]
  constructor
  · rintro ⟨h1, h2⟩
    obtain ⟨k, rfl⟩ := len2 h1
    refine ⟨k, ?_, rfl⟩
    simp only [l2, Sq67.origin, List.replicate_succ, List.replicate_zero, List.zip_cons_cons, List.zip_nil_right, List.mem_cons, List.not_mem_nil, or_false] at h2
    have a := h2 _ (.inl rfl); have b := h2 _ (.inr rfl)
    simp only [Small2, Sm] at *; omega
  · rintro ⟨k, h, rfl⟩
    refine ⟨rfl, ?_⟩
    simp only [l2, Sq67.origin, List.replicate_succ, List.replicate_zero, List.zip_cons_cons, List.zip_nil_right, List.mem_cons, List.not_mem_nil, or_false]
    simp only [Small2, Sm] at h
    rintro p (rfl | rfl) <;> simp only <;> omega

/-- v is shorter than all that differ from it by twice such a point, but itself and its opposite -/
def Lone (S : Vec → Prop) (v : Vec) : Prop := ∀ u, S u → Sq67.sub v (Sq67.scale 2 u) = v ∨ Sq67.sub v (Sq67.scale 2 u) = Sq67.minus v ∨ norm v < norm (Sq67.sub v (Sq67.scale 2 u))

theorem sub3 (r : B3) (k e : V3) : Sq67.sub (l3 (r.pt k)) (Sq67.scale 2 (l3 (r.pt e))) = l3 (r.pt (sub2of3 k e)) := by
  simp [Sq67.sub, Sq67.scale, l3, B3.pt, sub2of3]; refine ⟨?_, ?_, ?_⟩ <;> grind
theorem minus3 (r : B3) (k : V3) : Sq67.minus (l3 (r.pt k)) = l3 (r.pt (neg3 k)) := by
  simp [Sq67.minus, Sq67.scale, l3, B3.pt, neg3, V3.smul]; refine ⟨?_, ?_, ?_⟩ <;> grind
theorem sub2' (r : B2) (k e : V2) : Sq67.sub (l2 (r.pt k)) (Sq67.scale 2 (l2 (r.pt e))) = l2 (r.pt (sub2of2 k e)) := by
  simp [Sq67.sub, Sq67.scale, l2, B2.pt, sub2of2]; refine ⟨?_, ?_⟩ <;> grind
theorem minus2 (r : B2) (k : V2) : Sq67.minus (l2 (r.pt k)) = l2 (r.pt (neg2 k)) := by
  simp [Sq67.minus, Sq67.scale, l2, B2.pt, neg2, V2.smul]; refine ⟨?_, ?_⟩ <;> grind

theorem lone3_iff {r : B3} (hr : r.det ≠ 0) {P : V3 → Prop} (k : V3) : Lone (fun v => ∃ e, P e ∧ v = l3 (r.pt e)) (l3 (r.pt k)) ↔
    ∀ e, P e → sub2of3 k e = k ∨ sub2of3 k e = neg3 k ∨ V3.nrm (r.pt k) < V3.nrm (r.pt (sub2of3 k e)) := by
  constructor
  · intro h e he
    have := h _ ⟨e, he, rfl⟩
    rw [sub3, minus3, norm3, norm3] at this
    rcases this with g | g | g
    · exact .inl (B3.pt_inj hr (l3_inj g))
    · exact .inr (.inl (B3.pt_inj hr (l3_inj g)))
    · exact .inr (.inr g)
  · rintro h _ ⟨e, he, rfl⟩
    rw [sub3, minus3, norm3, norm3]
    rcases h e he with g | g | g
    · exact .inl (by rw [g])
    · exact .inr (.inl (by rw [g]))
    · exact .inr (.inr g)
theorem lone2_iff {r : B2} (hr : r.det ≠ 0) {P : V2 → Prop} (k : V2) : Lone (fun v => ∃ e, P e ∧ v = l2 (r.pt e)) (l2 (r.pt k)) ↔
    ∀ e, P e → sub2of2 k e = k ∨ sub2of2 k e = neg2 k ∨ V2.nrm (r.pt k) < V2.nrm (r.pt (sub2of2 k e)) := by
  constructor
  · intro h e he
    have := h _ ⟨e, he, rfl⟩
    rw [sub2', minus2, norm2, norm2] at this
    rcases this with g | g | g
    · exact .inl (B2.pt_inj hr (l2_inj g))
    · exact .inr (.inl (B2.pt_inj hr (l2_inj g)))
    · exact .inr (.inr g)
  · rintro h _ ⟨e, he, rfl⟩
    rw [sub2', minus2, norm2, norm2]
    rcases h e he with g | g | g
    · exact .inl (by rw [g])
    · exact .inr (.inl (by rw [g]))
    · exact .inr (.inr g)

/-- small against small is enough -/
theorem lone_small3 {r : B3} (hp : Pair3 r) {c : V3} (hc : Small3 c)
    (h : ∀ e, Small3 e → sub2of3 c e = c ∨ sub2of3 c e = neg3 c ∨ V3.nrm (r.pt c) < V3.nrm (r.pt (sub2of3 c e))) :
    ∀ (n : Nat) (j : V3), sz3 j = n → (∃ k, j = sub2of3 c k) → j ≠ c → j ≠ neg3 c → V3.nrm (r.pt c) < V3.nrm (r.pt j) := by
  intro n
  induction n using Nat.strongRecOn with
  | _ n ih =>
    rintro j hj ⟨k, hk⟩ h1 h2
    rcases Int.lt_or_le (V3.nrm (r.pt c)) (V3.nrm (r.pt j)) with g | g
    · exact g
    exfalso
    by_cases hs : Small3 j
    · have ks : Small3 k := by
        rw [hk] at hs
        simp only [Small3, Sm, sub2of3] at hs hc ⊢; omega
      rcases h k ks with q | q | q
      · exact h1 (by rw [hk]; exact q)
      · exact h2 (by rw [hk]; exact q)
      · rw [← hk] at q; omega
    · obtain ⟨e, es, lt, le⟩ := down3 hp j hs
      by_cases q1 : sub2of3 j e = c
      · have es' : Small3 (neg3 e) := by simp only [Small3, Sm, neg3, V3.smul] at es ⊢; omega
        have ej : sub2of3 c (neg3 e) = j := by
          rw [← q1]; apply V3.ext' <;> simp only [sub2of3, neg3, V3.smul] <;> omega
        rcases h _ es' with q | q | q
        · exact h1 (by rw [← ej]; exact q)
        · exact h2 (by rw [← ej]; exact q)
        · rw [ej] at q; omega
      · by_cases q2 : sub2of3 j e = neg3 c
        · have ej : sub2of3 c e = neg3 j := by
            have a := congrArg V3.x q2; have b := congrArg V3.y q2; have d := congrArg V3.z q2
            simp only [sub2of3, neg3, V3.smul] at a b d
            apply V3.ext' <;> simp only [sub2of3, neg3, V3.smul] <;> omega
          rcases h _ es with q | q | q
          · exact h2 (by rw [← q, ej, neg_neg3])
          · rw [ej] at q; exact h1 (by rw [← neg_neg3 j, q, neg_neg3])
          · rw [ej, nrm_neg3] at q; omega
        · have := ih _ (by rw [← hj]; exact lt) (sub2of3 j e) rfl ⟨⟨k.x + e.x, k.y + e.y, k.z + e.z⟩, by
            rw [hk]; apply V3.ext' <;> simp only [sub2of3] <;> omega⟩ q1 q2
          omega
theorem neg_neg2 (k : V2) : neg2 (neg2 k) = k := by
  apply V2.ext' <;> simp only [neg2, V2.smul] <;> omega
theorem lone_small2 {r : B2} (hp : Pair2 r) {c : V2} (hc : Small2 c)
    (h : ∀ e, Small2 e → sub2of2 c e = c ∨ sub2of2 c e = neg2 c ∨ V2.nrm (r.pt c) < V2.nrm (r.pt (sub2of2 c e))) :
    ∀ (n : Nat) (j : V2), sz2 j = n → (∃ k, j = sub2of2 c k) → j ≠ c → j ≠ neg2 c → V2.nrm (r.pt c) < V2.nrm (r.pt j) := by
  intro n
  induction n using Nat.strongRecOn with
  | _ n ih =>
    rintro j hj ⟨k, hk⟩ h1 h2
    rcases Int.lt_or_le (V2.nrm (r.pt c)) (V2.nrm (r.pt j)) with g | g
    · exact g
    exfalso
    by_cases hs : Small2 j
    · have ks : Small2 k := by
        rw [hk] at hs
        simp only [Small2, Sm, sub2of2] at hs hc ⊢; omega
      rcases h k ks with q | q | q
      · exact h1 (by rw [hk]; exact q)
      · exact h2 (by rw [hk]; exact q)
      · rw [← hk] at q; omega
    · obtain ⟨e, es, lt, le⟩ := down2 hp j hs
      by_cases q1 : sub2of2 j e = c
      · have es' : Small2 (neg2 e) := by simp only [Small2, Sm, neg2, V2.smul] at es ⊢; omega
        have ej : sub2of2 c (neg2 e) = j := by
          rw [← q1]; apply V2.ext' <;> simp only [sub2of2, neg2, V2.smul] <;> omega
        rcases h _ es' with q | q | q
        · exact h1 (by rw [← ej]; exact q)
        · exact h2 (by rw [← ej]; exact q)
        · rw [ej] at q; omega
      · by_cases q2 : sub2of2 j e = neg2 c
        · have ej : sub2of2 c e = neg2 j := by
            have a := congrArg V2.x q2; have b := congrArg V2.y q2
            simp only [sub2of2, neg2, V2.smul] at a b
            apply V2.ext' <;> simp only [sub2of2, neg2, V2.smul] <;> omega
          rcases h _ es with q | q | q
          · exact h2 (by rw [← q, ej, neg_neg2])
          · rw [ej] at q; exact h1 (by rw [← neg_neg2 j, q, neg_neg2])
          · rw [ej, nrm_neg2] at q; omega
        · have := ih _ (by rw [← hj]; exact lt) (sub2of2 j e) rfl ⟨⟨k.x + e.x, k.y + e.y⟩, by
            rw [hk]; apply V2.ext' <;> simp only [sub2of2] <;> omega⟩ q1 q2
          omega

def Wall3 (m : B3) (v : Vec) : Prop := S3 m v ∧ forward v = true ∧ Lone (S3 m) v
def Wall2 (m : B2) (v : Vec) : Prop := S2 m v ∧ forward v = true ∧ Lone (S2 m) v
theorem Lone.congr {S T : Vec → Prop} (h : ∀ v, S v ↔ T v) (v : Vec) : Lone S v ↔ Lone T v :=
  ⟨fun g u hu => g u ((h u).mpr hu), fun g u hu => g u ((h u).mp hu)⟩

theorem nodup_map {α β : Type} {f : α → β} (hf : ∀ a b, f a = f b → a = b) {l : List α} (h : l.Nodup) : (l.map f).Nodup := by
  rw [List.nodup_iff_pairwise_ne, List.pairwise_map]
  exact (List.nodup_iff_pairwise_ne.mp h).imp (fun {a b} h e => h (hf a b e))
theorem nodup_map_on {α β : Type} {f : α → β} {l : List α} (hf : ∀ a ∈ l, ∀ b ∈ l, f a = f b → a = b) (h : l.Nodup) : (l.map f).Nodup := by
  rw [List.nodup_iff_pairwise_ne, List.pairwise_map]
  refine List.Pairwise.imp_of_mem ?_ (List.nodup_iff_pairwise_ne.mp h)
  intro a b ha hb hne e
  exact hne (hf a ha b hb e)

/-- the specification's walls, over the small sums -/
def wallsOf (two : List Vec) : List Vec := ((two.filter forward).filter fun v => two.all fun u =>
    Sq67.sub v (Sq67.scale 2 u) == v || (Sq67.sub v (Sq67.scale 2 u) == Sq67.minus v || decide (norm v < norm (Sq67.sub v (Sq67.scale 2 u))))).foldl (fun l v => Sq67.put v l) []
theorem walls_eq (b : List Vec) : Sq67.walls b = wallsOf ((box 1 (Sq67.origin b.length)).map fun c => (c.zip (Sq67.reduced b)).foldl (fun s x => Sq67.add s (Sq67.scale x.1 x.2)) (Sq67.origin b.length)) := rfl
theorem wallsOf_told {n : Nat} {two : List Vec} (hn : ∀ v ∈ two, v.length = n) (hd : two.Nodup) :
    Told (fun v => v ∈ two ∧ forward v = true ∧ Lone (· ∈ two) v) (wallsOf two) := by
  have hf := fold_put (n := n) ((two.filter forward).filter fun v => two.all fun u =>
    Sq67.sub v (Sq67.scale 2 u) == v || (Sq67.sub v (Sq67.scale 2 u) == Sq67.minus v || decide (norm v < norm (Sq67.sub v (Sq67.scale 2 u))))) []
    (fun v hv => hn v (List.mem_filter.mp (List.mem_filter.mp hv).1).1) (by simp) ((hd.filter _).filter _) (by simp) (by simp)
  refine ⟨hf.1, fun v => (hf.2 v).trans ?_⟩
  simp only [List.not_mem_nil, or_false, List.mem_filter, List.all_eq_true, Bool.or_eq_true, beq_iff_eq, decide_eq_true_eq]
  exact ⟨fun ⟨⟨a, b⟩, c⟩ => ⟨a, b, c⟩, fun ⟨a, b, c⟩ => ⟨⟨a, b⟩, c⟩⟩

/-- **The walls, all of them and no other.** -/
theorem walls3 {m : B3} (hm : m.det ≠ 0) : Told (Wall3 m) (Sq67.walls (b3 m)) := by
  obtain ⟨r, er, same, mink⟩ := reduced3 hm
  have hr := same.det_ne hm
  have hp := pair3 mink
  rw [walls_eq, er, b3_len]
  have hin : ∀ v, v ∈ ((box 1 (Sq67.origin 3)).map fun c => (c.zip (b3 r)).foldl (fun s x => Sq67.add s (Sq67.scale x.1 x.2)) (Sq67.origin 3)) ↔ ∃ e, Small3 e ∧ v = l3 (r.pt e) := fun v => by
    rw [List.mem_map]
    constructor
    · rintro ⟨c, hc, rfl⟩
      obtain ⟨e, he, rfl⟩ := (mem_box1_3 c).mp hc
      exact ⟨e, he, comb3 r e⟩
    · rintro ⟨e, he, rfl⟩
      exact ⟨l3 e, (mem_box1_3 _).mpr ⟨e, he, rfl⟩, comb3 r e⟩
  refine (wallsOf_told (n := 3) (fun v hv => ?_) ?_).congr (fun v => ?_)
  · obtain ⟨e, _, rfl⟩ := (hin v).mp hv; rfl
  · refine nodup_map_on (fun a ha b hb e => ?_) box_nodup
    obtain ⟨x, _, rfl⟩ := (mem_box1_3 a).mp ha
    obtain ⟨y, _, rfl⟩ := (mem_box1_3 b).mp hb
    rw [comb3, comb3] at e
    rw [B3.pt_inj hr (l3_inj e)]
  · rw [hin, Wall3, Lone.congr hin, Lone.congr (fun v => (same.S v).trans (show S3 r v ↔ ∃ e, True ∧ v = l3 (r.pt e) by simp [S3])), same.S]
    constructor
    · rintro ⟨⟨c, hc, rfl⟩, hf, hl⟩
      refine ⟨⟨c, rfl⟩, hf, ?_⟩
      rw [lone3_iff hr] at hl ⊢
      intro k _
      by_cases q1 : sub2of3 c k = c
      · exact .inl q1
      by_cases q2 : sub2of3 c k = neg3 c
      · exact .inr (.inl q2)
      exact .inr (.inr (lone_small3 hp hc hl _ _ rfl ⟨k, rfl⟩ q1 q2))
    · rintro ⟨⟨k, rfl⟩, hf, hl⟩
      rw [lone3_iff hr] at hl
      have hs : Small3 k := by
        refine Classical.byContradiction fun hs => ?_
        obtain ⟨e, es, lt, le⟩ := down3 hp k hs
        rcases hl e trivial with q | q | q
        · rw [q] at lt; omega
        · rw [q] at lt
          have : sz3 (neg3 k) = sz3 k := by simp only [sz3, neg3, V3.smul]; omega
          omega
        · omega
      refine ⟨⟨k, hs, rfl⟩, hf, ?_⟩
      rw [lone3_iff hr]
      exact fun e _ => hl e trivial
theorem walls2 {m : B2} (hm : m.det ≠ 0) : Told (Wall2 m) (Sq67.walls (b2 m)) := by
  obtain ⟨r, er, same, mink⟩ := reduced2 hm
  have hr := same.det_ne hm
  have hp := pair2 mink
  rw [walls_eq, er, b2_len]
  have hin : ∀ v, v ∈ ((box 1 (Sq67.origin 2)).map fun c => (c.zip (b2 r)).foldl (fun s x => Sq67.add s (Sq67.scale x.1 x.2)) (Sq67.origin 2)) ↔ ∃ e, Small2 e ∧ v = l2 (r.pt e) := fun v => by
    rw [List.mem_map]
    constructor
    · rintro ⟨c, hc, rfl⟩
      obtain ⟨e, he, rfl⟩ := (mem_box1_2 c).mp hc
      exact ⟨e, he, comb2 r e⟩
    · rintro ⟨e, he, rfl⟩
      exact ⟨l2 e, (mem_box1_2 _).mpr ⟨e, he, rfl⟩, comb2 r e⟩
  refine (wallsOf_told (n := 2) (fun v hv => ?_) ?_).congr (fun v => ?_)
  · obtain ⟨e, _, rfl⟩ := (hin v).mp hv; rfl
  · refine nodup_map_on (fun a ha b hb e => ?_) box_nodup
    obtain ⟨x, _, rfl⟩ := (mem_box1_2 a).mp ha
    obtain ⟨y, _, rfl⟩ := (mem_box1_2 b).mp hb
    rw [comb2, comb2] at e
    rw [B2.pt_inj hr (l2_inj e)]
  · rw [hin, Wall2, Lone.congr hin, Lone.congr (fun v => (same.S v).trans (show S2 r v ↔ ∃ e, True ∧ v = l2 (r.pt e) by simp [S2])), same.S]
    constructor
    · rintro ⟨⟨c, hc, rfl⟩, hf, hl⟩
      refine ⟨⟨c, rfl⟩, hf, ?_⟩
      rw [lone2_iff hr] at hl ⊢
      intro k _
      by_cases q1 : sub2of2 c k = c
      · exact .inl q1
      by_cases q2 : sub2of2 c k = neg2 c
      · exact .inr (.inl q2)
      exact .inr (.inr (lone_small2 hp hc hl _ _ rfl ⟨k, rfl⟩ q1 q2))
    · rintro ⟨⟨k, rfl⟩, hf, hl⟩
      rw [lone2_iff hr] at hl
      have hs : Small2 k := by
        refine Classical.byContradiction fun hs => ?_
        obtain ⟨e, es, lt, le⟩ := down2 hp k hs
        rcases hl e trivial with q | q | q
        · rw [q] at lt; omega
        · rw [q] at lt
          have : sz2 (neg2 k) = sz2 k := by simp only [sz2, neg2, V2.smul]; omega
          omega
        · omega
      refine ⟨⟨k, hs, rfl⟩, hf, ?_⟩
      rw [lone2_iff hr]
      exact fun e _ => hl e trivial

/-! ## the cell -/
/-- **The origin's cell, by the walls.** -/
theorem cell3 {m : B3} (hm : m.det ≠ 0) (t : V3)
    (h : ∀ k, forward (l3 (m.pt k)) = true → Lone (S3 m) (l3 (m.pt k)) → V3.dot t (m.pt k) ≤ V3.nrm (m.pt k) ∧ -V3.dot t (m.pt k) ≤ V3.nrm (m.pt k)) :
    ∀ (n : Nat) (k : V3), (V3.nrm (m.pt k)).toNat = n → V3.dot t (m.pt k) ≤ V3.nrm (m.pt k) := by
  intro n
  induction n using Nat.strongRecOn with
  | _ n ih =>
    intro k hn
    have n0 := V3.nrm_nonneg (m.pt k)
    by_cases k0 : k = V3.zero
    · have : m.pt k = V3.zero := by rw [k0]; apply V3.ext' <;> simp [B3.pt, V3.zero]
      rw [this]; simp [V3.dot, V3.nrm, V3.zero]
    by_cases hl : ∀ e, True → sub2of3 k e = k ∨ sub2of3 k e = neg3 k ∨ V3.nrm (m.pt k) < V3.nrm (m.pt (sub2of3 k e))
    · have hl1 : Lone (S3 m) (l3 (m.pt k)) := by
        rw [Lone.congr (show ∀ v, S3 m v ↔ ∃ e, True ∧ v = l3 (m.pt e) by simp [S3]), lone3_iff hm]; exact hl
      have hl2 : Lone (S3 m) (l3 (m.pt (neg3 k))) := by
        rw [Lone.congr (show ∀ v, S3 m v ↔ ∃ e, True ∧ v = l3 (m.pt e) by simp [S3]), lone3_iff hm]
        intro e _
        have ee : sub2of3 (neg3 k) e = neg3 (sub2of3 k (neg3 e)) := by
          apply V3.ext' <;> simp only [sub2of3, neg3, V3.smul] <;> omega
        rw [ee, nrm_neg3, nrm_neg3]
        rcases hl (neg3 e) trivial with q | q | q
        · exact .inl (by rw [q])
        · exact .inr (.inl (by rw [q]))
        · exact .inr (.inr q)
      obtain ⟨k', e, hf⟩ := fwd_k3 hm k0
      rcases e with rfl | rfl
      · exact (h _ hf hl1).1
      · have := (h _ hf hl2).2
        rw [nrm_neg3] at this
        have e2 : V3.dot t (m.pt (neg3 k)) = - V3.dot t (m.pt k) := by rw [neg3, B3.pt_smul]; simp only [V3.dot, V3.smul]; grind
        omega
    · have : ∃ e, sub2of3 k e ≠ k ∧ sub2of3 k e ≠ neg3 k ∧ V3.nrm (m.pt (sub2of3 k e)) ≤ V3.nrm (m.pt k) := by
        refine Classical.byContradiction fun hc => hl (fun e _ => ?_)
        by_cases q1 : sub2of3 k e = k
        · exact .inl q1
        by_cases q2 : sub2of3 k e = neg3 k
        · exact .inr (.inl q2)
        rcases Int.lt_or_le (V3.nrm (m.pt k)) (V3.nrm (m.pt (sub2of3 k e))) with g | g
        · exact .inr (.inr g)
        · exact absurd ⟨e, q1, q2, g⟩ hc
      obtain ⟨e, q1, q2, le⟩ := this
      rw [nrm_sub3] at le
      have e0 : e ≠ V3.zero := by
        intro z; apply q1; rw [z]; apply V3.ext' <;> simp only [sub2of3, V3.zero] <;> omega
      have a0 : V3.add k (neg3 e) ≠ V3.zero := by
        intro z; apply q2
        have a := congrArg V3.x z; have b := congrArg V3.y z; have d := congrArg V3.z z
        simp only [V3.add, neg3, V3.smul, V3.zero] at a b d
        apply V3.ext' <;> simp only [sub2of3, neg3, V3.smul] <;> omega
      have pe := V3.nrm_pos (fun z => e0 (B3.pt_zero_of hm z))
      have pa := V3.nrm_pos (fun z => a0 (B3.pt_zero_of hm z))
      have na : V3.nrm (m.pt (V3.add k (neg3 e))) = V3.nrm (m.pt k) - 2 * V3.dot (m.pt k) (m.pt e) + V3.nrm (m.pt e) := by
        rw [neg3, B3.pt_add, B3.pt_smul]; simp only [V3.nrm, V3.dot, V3.add, V3.smul]; grind
      have da : V3.dot t (m.pt (V3.add k (neg3 e))) = V3.dot t (m.pt k) - V3.dot t (m.pt e) := by
        rw [neg3, B3.pt_add, B3.pt_smul]; simp only [V3.dot, V3.add, V3.smul]; grind
      have i1 := ih _ (by omega) e rfl
      have i2 := ih _ (by omega) (V3.add k (neg3 e)) rfl
      omega
theorem cell2 {m : B2} (hm : m.det ≠ 0) (t : V2)
    (h : ∀ k, forward (l2 (m.pt k)) = true → Lone (S2 m) (l2 (m.pt k)) → V2.dot t (m.pt k) ≤ V2.nrm (m.pt k) ∧ -V2.dot t (m.pt k) ≤ V2.nrm (m.pt k)) :
    ∀ (n : Nat) (k : V2), (V2.nrm (m.pt k)).toNat = n → V2.dot t (m.pt k) ≤ V2.nrm (m.pt k) := by
  intro n
  induction n using Nat.strongRecOn with
  | _ n ih =>
    intro k hn
    have n0 := V2.nrm_nonneg (m.pt k)
    by_cases k0 : k = V2.zero
    · have : m.pt k = V2.zero := by rw [k0]; apply V2.ext' <;> simp [B2.pt, V2.zero]
      rw [this]; simp [V2.dot, V2.nrm, V2.zero]
    by_cases hl : ∀ e, True → sub2of2 k e = k ∨ sub2of2 k e = neg2 k ∨ V2.nrm (m.pt k) < V2.nrm (m.pt (sub2of2 k e))
    · have hl1 : Lone (S2 m) (l2 (m.pt k)) := by
        rw [Lone.congr (show ∀ v, S2 m v ↔ ∃ e, True ∧ v = l2 (m.pt e) by simp [S2]), lone2_iff hm]; exact hl
      have hl2 : Lone (S2 m) (l2 (m.pt (neg2 k))) := by
        rw [Lone.congr (show ∀ v, S2 m v ↔ ∃ e, True ∧ v = l2 (m.pt e) by simp [S2]), lone2_iff hm]
        intro e _
        have ee : sub2of2 (neg2 k) e = neg2 (sub2of2 k (neg2 e)) := by
          apply V2.ext' <;> simp only [sub2of2, neg2, V2.smul] <;> omega
        rw [ee, nrm_neg2, nrm_neg2]
        rcases hl (neg2 e) trivial with q | q | q
        · exact .inl (by rw [q])
        · exact .inr (.inl (by rw [q]))
        · exact .inr (.inr q)
      obtain ⟨k', e, hf⟩ := fwd_k2 hm k0
      rcases e with rfl | rfl
      · exact (h _ hf hl1).1
      · have := (h _ hf hl2).2
        rw [nrm_neg2] at this
        have e2 : V2.dot t (m.pt (neg2 k)) = - V2.dot t (m.pt k) := by rw [neg2, B2.pt_smul]; simp only [V2.dot, V2.smul]; grind
        omega
    · have : ∃ e, sub2of2 k e ≠ k ∧ sub2of2 k e ≠ neg2 k ∧ V2.nrm (m.pt (sub2of2 k e)) ≤ V2.nrm (m.pt k) := by
        refine Classical.byContradiction fun hc => hl (fun e _ => ?_)
        by_cases q1 : sub2of2 k e = k
        · exact .inl q1
        by_cases q2 : sub2of2 k e = neg2 k
        · exact .inr (.inl q2)
        rcases Int.lt_or_le (V2.nrm (m.pt k)) (V2.nrm (m.pt (sub2of2 k e))) with g | g
        · exact .inr (.inr g)
        · exact absurd ⟨e, q1, q2, g⟩ hc
      obtain ⟨e, q1, q2, le⟩ := this
      rw [nrm_sub2] at le
      have e0 : e ≠ V2.zero := by
        intro z; apply q1; rw [z]; apply V2.ext' <;> simp only [sub2of2, V2.zero] <;> omega
      have a0 : V2.add k (neg2 e) ≠ V2.zero := by
        intro z; apply q2
        have a := congrArg V2.x z; have b := congrArg V2.y z
        simp only [V2.add, neg2, V2.smul, V2.zero] at a b
        apply V2.ext' <;> simp only [sub2of2, neg2, V2.smul] <;> omega
      have pe := V2.nrm_pos (fun z => e0 (B2.pt_zero_of hm z))
      have pa := V2.nrm_pos (fun z => a0 (B2.pt_zero_of hm z))
      have na : V2.nrm (m.pt (V2.add k (neg2 e))) = V2.nrm (m.pt k) - 2 * V2.dot (m.pt k) (m.pt e) + V2.nrm (m.pt e) := by
        rw [neg2, B2.pt_add, B2.pt_smul]; simp only [V2.nrm, V2.dot, V2.add, V2.smul]; grind
      have da : V2.dot t (m.pt (V2.add k (neg2 e))) = V2.dot t (m.pt k) - V2.dot t (m.pt e) := by
        rw [neg2, B2.pt_add, B2.pt_smul]; simp only [V2.dot, V2.add, V2.smul]; grind
      have i1 := ih _ (by omega) e rfl
      have i2 := ih _ (by omega) (V2.add k (neg2 e)) rfl
      omega

/-- **What judge tells**: no point led to is nearer than the origin. -/
theorem judge3 {m : B3} (hm : m.det ≠ 0) (t : V3) :
    ((Sq67.walls (b3 m)).all fun w => decide (Sq67.dot (l3 t) w ≤ norm w) && decide (-(Sq67.dot (l3 t) w) ≤ norm w)) = true ↔
    ∀ k, V3.dot t (m.pt k) ≤ V3.nrm (m.pt k) := by
  have hw := walls3 hm
  rw [List.all_eq_true]
  simp only [Bool.and_eq_true, decide_eq_true_eq]
  constructor
  · intro h k
    refine cell3 hm t (fun k hf hl => ?_) _ k rfl
    have := h _ ((hw.2 (l3 (m.pt k))).mpr ⟨⟨k, rfl⟩, hf, hl⟩)
    rw [dot3, norm3] at this; exact this
  · intro h w hw'
    obtain ⟨⟨k, rfl⟩, _, _⟩ := (hw.2 w).mp hw'
    rw [dot3, norm3]
    have a := h k
    have b := h (neg3 k)
    rw [nrm_neg3] at b
    have e2 : V3.dot t (m.pt (neg3 k)) = - V3.dot t (m.pt k) := by rw [neg3, B3.pt_smul]; simp only [V3.dot, V3.smul]; grind
    omega
theorem judge2 {m : B2} (hm : m.det ≠ 0) (t : V2) :
    ((Sq67.walls (b2 m)).all fun w => decide (Sq67.dot (l2 t) w ≤ norm w) && decide (-(Sq67.dot (l2 t) w) ≤ norm w)) = true ↔
    ∀ k, V2.dot t (m.pt k) ≤ V2.nrm (m.pt k) := by
  have hw := walls2 hm
  rw [List.all_eq_true]
  simp only [Bool.and_eq_true, decide_eq_true_eq]
  constructor
  · intro h k
    refine cell2 hm t (fun k hf hl => ?_) _ k rfl
    have := h _ ((hw.2 (l2 (m.pt k))).mpr ⟨⟨k, rfl⟩, hf, hl⟩)
    rw [dot2, norm2] at this; exact this
  · intro h w hw'
    obtain ⟨⟨k, rfl⟩, _, _⟩ := (hw.2 w).mp hw'
    rw [dot2, norm2]
    have a := h k
    have b := h (neg2 k)
    rw [nrm_neg2] at b
    have e2 : V2.dot t (m.pt (neg2 k)) = - V2.dot t (m.pt k) := by rw [neg2, B2.pt_smul]; simp only [V2.dot, V2.smul]; grind
    omega
end Np
end
section
set_option maxRecDepth 100000
set_option maxHeartbeats 2000000
namespace Np
open PySem PySem.Spec PyProof.Rows L2
theorem bIf {b : Bool} {A B : Prop} (h1 : b = true → A) (h2 : b = false → B) : if b = true then A else B := by
  cases b with
  | true => exact iteT (h1 rfl)
  | false => exact iteF (h2 rfl)
theorem int_ne {x y : Int} : (!decide (V.int x = V.int y)) = true ↔ x ≠ y := by simp
theorem int_eq {x y : Int} : (!decide (V.int x = V.int y)) = false ↔ x = y := by simp
abbrev sForward : Stmt := top 4
section
variable {P : Program} {w : World} {K : PySem.W.Frag} {mg : Str → Option Value} {base : Heap}
/-! ### is_forward -/
theorem scForward : FnScope ["point", "number"] ["point"] (defScope sForward) :=
  ⟨rfl, rfl, rfl, by decide +kernel, rfl, by decide +kernel, by decide +kernel⟩
def spForward (K : PySem.W.Frag) : Sp := fun vs H Q _ => ∃ (a : Addr) (xs : List Int), vs = [.ref a] ∧ SqL K H a (xs.map V.int) ∧ Q (.bl (Sq67.forward xs)) H
theorem fwd_drop : ∀ (xs : List Int) (i : Nat), (∀ j x, j < i → xs[j]? = some x → x = 0) → Sq67.forward xs = Sq67.forward (xs.drop i)
  | xs, 0, _ => rfl
  | [], i + 1, _ => by simp
  | x :: xs, i + 1, h => by
    have hx : x = 0 := h 0 x (by omega) rfl
    rw [fwd_cons, if_pos hx, List.drop_succ_cons]
    exact fwd_drop xs i (fun j y hj e => h (j + 1) y (by omega) (by simpa using e))
theorem drop_get {xs : List Int} {i : Nat} {x : Int} (h : xs[i]? = some x) : xs.drop i = x :: xs.drop (i + 1) := by
  have hi : i < xs.length := (List.getElem?_eq_some_iff.mp h).1
  rw [List.drop_eq_getElem_cons hi]
  congr 1
  exact (List.getElem?_eq_some_iff.mp h).2
theorem ok_forward {f : Addr} {fd : FuncData} (F : Fun K "is_forward" "is_forward" sForward f fd) : FnOk P w K mg base CX0 1 f fd ["point"] (spForward K) := by
  refine F.ok scForward (fun vs H Q E h => ?_) (fun cdv A outer s H vs Q E hr h => ?_)
  · obtain ⟨a, xs, rfl, _⟩ := h
    rfl
  · refine ⟨_, pss_cons (ps_for PassesOwn.never rfl (pi_list (pv 0)) (pg_name (i := 1) scForward.nd rfl (.inl rfl))
      (pss_one (ps_if (pt_cmpR op_ne (pv 1) pe_int (nomark _)) (pss_one (ps_ret (pe_cmpR op_gt (pv 1) pe_int (nomark _)))) pss_nil)))
      (pss_one (ps_ret pe_bl)), ?_⟩
    obtain ⟨a, xs, rfl, ha, k⟩ := h
    refine ⟨_, rfl, a, rfl, ⟨_, ha⟩, for_it (walk_list (xs := xs.map V.int)) (fun i σ H' => (∃ v, σ = [some (.ref a), v]) ∧ H' = H ∧ ∀ j x, j < i → xs[j]? = some x → x = 0)
      ⟨⟨none, rfl⟩, rfl, fun j x hj => by omega⟩ (fun i σ H' _ ⟨_, e, _⟩ => e ▸ ha) ?_ ?_⟩
    · rintro i x σ H0 H' hi ⟨⟨v, rfl⟩, rfl, hz⟩ ⟨rfl, hx⟩
      obtain ⟨x, hx', rfl⟩ := map_get hx
      refine ⟨_, rfl, rfl, _, rfl, ?_⟩
      refine bIf (fun h => ?_) (fun h => ?_)
      · have hx0 := int_ne.mp h
        refine ⟨_, rfl, _, _, rfl, rfl, ?_⟩
        rw [fwd_drop xs i hz, drop_get hx', fwd_cons, if_neg hx0] at k
        exact k
      · have hx0 := int_eq.mp h
        refine ⟨⟨_, rfl⟩, rfl, fun j y hj e => ?_⟩
        by_cases hji : j = i
        · rw [hji, hx'] at e; cases e; exact hx0
        · exact hz j y (by omega) e
    · rintro σ H' ⟨⟨v, rfl⟩, rfl, hz⟩
      have : Sq67.forward xs = false := by
        rw [fwd_drop xs xs.length (fun j x hj e => hz j x (by simpa using hj) e), List.drop_length]; rfl
      rw [this] at k
      exact k
end
end Np
end
section
set_option maxRecDepth 100000
set_option maxHeartbeats 2000000
namespace Np
open PySem PySem.Spec PyProof.Rows L2
abbrev sTogether : Stmt := top 5
/-- rows of whole numbers at a -/
def Rows (K : PySem.W.Frag) (H : Hp) (a : Addr) (ps : List (List Int)) : Prop := ∃ as : List Addr, SqL K H a (as.map V.ref) ∧ as.length = ps.length ∧ ∀ (i : Nat) (b : Addr) (p : List Int), as[i]? = some b → ps[i]? = some p → SqL K H b (p.map V.int)
theorem Rows.keep {R : Hp → Hp → Prop} (kp : Keep R) {K : PySem.W.Frag} {H H' : Hp} {a : Addr} {ps : List (List Int)} (r : R H H') (h : Rows K H a ps) : Rows K H' a ps := by
  obtain ⟨as, h1, h2, h3⟩ := h
  exact ⟨as, kp.sq r h1, h2, fun i b p e1 e2 => kp.sq r (h3 i b p e1 e2)⟩
def addmul (p : List Int) (k : Int) (v : List Int) : List Int := (p.zip v).map fun x => x.1 + k * x.2
def togL (ps : List (List Int)) (ts : List Int) : List Int := (ps.zip ts).foldl (fun s x => addmul s x.2 x.1) (List.replicate (ps.headD []).length 0)
def spTogether (K : PySem.W.Frag) : Sp := fun vs H Q _ => ∃ (a b : Addr) (ps : List (List Int)) (ts : List Int) (n : Nat), vs = [.ref a, .ref b] ∧ Rows K H a ps ∧ SqL K H b (ts.map V.int) ∧
  ps ≠ [] ∧ ps.length = ts.length ∧ ps.length ≤ 1000 ∧ n ≤ 1000 ∧ (∀ p ∈ ps, p.length = n) ∧ Bd big ts ∧
  ∀ H' p, Same H H' → H p = none → H' p = some (.lst ((togL ps ts).map V.int)) → Q (.ref p) H'
theorem addmul_len {p : List Int} {k : Int} {v : List Int} (h : p.length = v.length) : (addmul p k v).length = p.length := by simp [addmul, h]
def togN (n : Nat) (ps : List (List Int)) (ts : List Int) : List Int := (ps.zip ts).foldl (fun s x => addmul s x.2 x.1) (List.replicate n 0)
theorem take_snoc' {α : Type} {l : List α} {i : Nat} {x : α} (h : l[i]? = some x) : l.take (i + 1) = l.take i ++ [x] := by
  rw [List.take_succ, h]; rfl
theorem zip_snoc {α β : Type} {l : List α} {m : List β} {i : Nat} {x : α} {y : β} (hx : l[i]? = some x) (hy : m[i]? = some y) : (l.zip m).take (i + 1) = (l.zip m).take i ++ [(x, y)] :=
  take_snoc' (by rw [List.getElem?_zip_eq_some]; exact ⟨hx, hy⟩)
theorem togN_len {n : Nat} : ∀ (qs : List (List Int × Int)) (s : List Int), s.length = n → (∀ q ∈ qs, q.1.length = n) → (qs.foldl (fun s x => addmul s x.2 x.1) s).length = n
  | [], s, h, _ => h
  | q :: qs, s, h, hq => togN_len qs _ (by rw [addmul_len (by rw [h, hq q (by simp)]), h]) (fun q' h' => hq q' (by simp [h']))
section
variable {P : Program} {w : World} {K : PySem.W.Frag} {mg : Str → Option Value} {base : Heap}
abbrev nTog : List Str := ["steps", "times", "point", "step", "often", "so_far", "number"]
theorem scTog : FnScope nTog ["steps", "times"] (defScope sTogether) :=
  ⟨rfl, rfl, rfl, by decide +kernel, rfl, by decide +kernel, by decide +kernel⟩
theorem ok_together {f : Addr} {fd : FuncData} (F : Fun K "together" "together" sTogether f fd) (mz : mg "zip" = none) : FnOk P w K mg base CX0 1 f fd ["steps", "times"] (spTogether K) := by
  refine F.ok scTog (fun vs H Q E h => ?_) (fun cdv A outer s H vs Q E hr h => ?_)
  · obtain ⟨a, b, ps, ts, n, rfl, _⟩ := h
    rfl
  · refine ⟨_, pss_cons (ps_setLc (i := 2) (own := [("number", 6)]) (g := gName 6) (by rfl) scTog.nd rfl rfl (sw_true rfl rfl rfl (by decide +kernel))
        (pi_list (pe_ix ix_list (pv 0) pe_int (fun _ _ => rfl)))
        (blkOk_by (N := nTog) (sc := defScope sTogether) (by decide +kernel))
        (fun _ _ _ _ _ => by exact pg_name (i := 6) scTog.nd rfl (.inl rfl)) (fun _ _ _ _ _ => pts_nil) (fun _ _ _ _ _ => pe_int))
      (pss_cons (ps_for PassesOwn.never rfl (pi_zip (by rfl) mz (pa_cons (pv 0) (pa_cons (pv 1) pa_nil)))
          (pg_tup rfl (pgs_cons (pg_name (i := 3) scTog.nd rfl (.inl rfl)) (pgs_cons (pg_name (i := 4) scTog.nd rfl (.inr rfl)) pgs_nil)))
          (pss_one (ps_setLc (i := 2) (own := [("so_far", 5), ("number", 6)]) (g := gTup K 2 (gCons (gName 5) (gCons (gName 6) gNil))) (by rfl) scTog.nd rfl rfl (sw_true rfl rfl rfl (by decide +kernel))
            (pi_zip (by rfl) mz (pa_cons (pv 2) (pa_cons (pv 3) pa_nil)))
            (blkOk_by (N := nTog) (sc := defScope sTogether) (by decide +kernel))
            (fun _ _ _ _ _ => by exact pg_tup rfl (pgs_cons (pg_name (i := 5) scTog.nd rfl (.inl rfl)) (pgs_cons (pg_name (i := 6) scTog.nd rfl (.inl rfl)) pgs_nil)))
            (fun _ _ _ _ _ => pts_nil)
            (fun _ _ _ _ _ => pe_op op_add (pv 5) (pe_op op_mul (pv 4) (pv 6))))))
      (pss_one (ps_ret (pv 2)))), ?_⟩
    obtain ⟨a, b, ps, ts, n, rfl, ⟨as, has, hal, hap⟩, hb, hne, hl, hps, hn, hlen, hB, k⟩ := h
    obtain ⟨p0, pr, rfl⟩ : ∃ p0 pr, ps = p0 :: pr := by
      cases ps with
      | nil => exact absurd rfl hne
      | cons p0 pr => exact ⟨p0, pr, rfl⟩
    obtain ⟨a0, ar, rfl⟩ : ∃ a0 ar, as = a0 :: ar := by
      cases as with
      | nil => simp at hal
      | cons a0 ar => exact ⟨a0, ar, rfl⟩
    have h0 : p0.length = n := hlen p0 (by simp)
    have ha0 := hap 0 a0 p0 rfl rfl
    refine ⟨_, rfl, a, _, 0, .ref a0, rfl, rfl, has, atI_nat (j := 0) (by simp), a0, rfl, ⟨_, ha0⟩,
      lc_ints keep_same (walk_list (xs := p0.map V.int)) (List.replicate n 0) (by simp [h0]) (fun H' r => r.seq ha0) (by rw [sizeLine_eq]; simp; omega) ?_ ?_⟩
    · rintro i v z H0 H' Qf hz r ⟨rfl, hx⟩ q
      have : z = 0 := by
        have := List.mem_of_getElem? hz
        exact (List.mem_replicate.mp this).2
      subst this
      exact ⟨rfl, q _ (keep_same.refl _)⟩
    · intro D0 H1 r1 hD0 e1
      refine ⟨_, rfl, _, rfl, a, b, _, _, rfl, r1.seq has, r1.seq hb,
        for_it (walk_zip (n := (p0 :: pr).length) (xs := (a0 :: ar).map V.ref) (ys := ts.map V.int) (by simp at hal hl ⊢; omega))
          (fun i σ H' => Same H H' ∧ ∃ q v3 v4 v5 v6, σ = [some (.ref a), some (.ref b), some (.ref q), v3, v4, v5, v6] ∧ H q = none ∧
            H' q = some (.lst ((((p0 :: pr).zip ts).take i |>.foldl (fun s x => addmul s x.2 x.1) (List.replicate n 0)).map V.int)))
          ⟨r1, D0, none, none, none, none, rfl, hD0, e1⟩ (fun i σ H' _ ⟨r, _⟩ => ⟨r.seq has, r.seq hb⟩) ?_ ?_⟩
      · rintro i v σ H0 H' hi ⟨r, q, v3, v4, v5, v6, rfl, hq, hq'⟩ ⟨T, x, y, rfl, nT, rfl, hx, hy⟩
        obtain ⟨ai, hai, rfl⟩ := map_get hx
        obtain ⟨ti, hti, rfl⟩ := map_get hy
        obtain ⟨pi, hpi⟩ : ∃ pi, (p0 :: pr)[i]? = some pi := ⟨_, List.getElem?_eq_getElem hi⟩
        have hsi := hap i ai pi hai hpi
        have hleni := hlen pi (List.mem_of_getElem? hpi)
        have r' : Same H (upd H0 T (.tup [V.ref ai, V.int ti])) := keep_same.trans r (keep_same.new nT)
        generalize hS : (((p0 :: pr).zip ts).take i).foldl (fun s x => addmul s x.2 x.1) (List.replicate n 0) = S at *
        have hSl : S.length = n := by
          rw [← hS]
          exact togN_len _ _ (by simp) (fun q' hq' => by
            have := List.mem_of_mem_take hq'
            exact hlen _ (List.of_mem_zip this).1)
        have hq2 : upd H0 T (.tup [V.ref ai, V.int ti]) q = some (.lst (S.map V.int)) := keep_same.lst (keep_same.new nT) hq'
        refine ⟨T, _, rfl, SqT.of upd_same, rfl, _, _, rfl, _, _, rfl, rfl, ?_⟩
        refine ⟨_, rfl, _, rfl, q, ai, _, _, rfl, SqL.of hq2, r'.seq hsi,
          lc_ints keep_same (walk_zip (n := n) (xs := S.map V.int) (ys := pi.map V.int) (by simp [hSl, hleni])) (addmul S ti pi) (by rw [addmul_len (by rw [hSl, hleni]), hSl])
            (fun H' r => ⟨r.seq (SqL.of hq2), r.seq (r'.seq hsi)⟩) (by rw [sizeLine_eq]; omega) ?_ ?_⟩
        · rintro j v z H2 H3 Qf hz r2 ⟨T2, x, y, rfl, nT2, rfl, hx2, hy2⟩ qf
          obtain ⟨xy, hxy, rfl⟩ := map_get hz
          obtain ⟨x', hx', rfl⟩ := map_get hx2
          obtain ⟨y', hy', rfl⟩ := map_get hy2
          have : xy = (x', y') := by
            have := List.getElem?_zip_eq_some.mp hxy
            rw [hx', hy'] at this
            exact Prod.ext (Option.some.inj this.1).symm (Option.some.inj this.2).symm
          subst this
          refine ⟨T2, _, rfl, SqT.of upd_same, rfl, _, _, rfl, _, _, rfl, rfl, rfl, _, rfl, _, rfl, _, rfl, _, _, rfl, rfl, .inl (mul_ok (hB _ (List.mem_of_getElem? hti))), _, _, rfl, rfl, ?_⟩
          exact qf _ (keep_same.new nT2)
        · intro D H3 r3 hD e3
          refine ⟨keep_same.trans r' r3, D, _, _, _, _, rfl, keep_same.free r' hD, ?_⟩
          rw [e3, zip_snoc hpi hti, List.foldl_append, hS]
          rfl
      · rintro σ H' ⟨r, q, v3, v4, v5, v6, rfl, hq, hq'⟩
        refine ⟨_, rfl, k H' q r hq ?_⟩
        rw [hq', List.take_of_length_le (by simp at hl ⊢; omega)]
        unfold togL
        rw [show ((p0 :: pr).headD []).length = n from h0]
end
end Np
end
section
set_option maxRecDepth 100000
set_option maxHeartbeats 2000000
namespace Np
open PySem PySem.Spec PyProof.Rows L2
abbrev sCross : Stmt := top 7
abbrev sNormals : Stmt := top 8
abbrev sDet : Stmt := top 9
abbrev sTaken : Stmt := top 10
section
variable {P : Program} {w : World} {K : PySem.W.Frag} {mg : Str → Option Value} {base : Heap}
/-! ### cross -/
theorem scCross : FnScope ["one", "other"] ["one", "other"] (defScope sCross) :=
  ⟨rfl, rfl, rfl, by decide +kernel, rfl, by decide +kernel, by decide +kernel⟩
def crossL (u v : V3) : List Int := l3 (V3.cross u v)
def spCross (K : PySem.W.Frag) : Sp := fun vs H Q _ => ∃ (a b : Addr) (u v : V3), vs = [.ref a, .ref b] ∧ SqL K H a ((l3 u).map V.int) ∧ SqL K H b ((l3 v).map V.int) ∧
  Bd big (l3 u) ∧ ∀ p, H p = none → Q (.ref p) (upd H p (.lst ((crossL u v).map V.int)))
theorem ok_cross {f : Addr} {fd : FuncData} (F : Fun K "cross" "cross" sCross f fd) : FnOk P w K mg base CX0 1 f fd ["one", "other"] (spCross K) := by
  refine F.ok scCross (fun vs H Q E h => ?_) (fun cdv A outer s H vs Q E hr h => ?_)
  · obtain ⟨a, b, xs, ys, rfl, _⟩ := h
    rfl
  · refine ⟨_, pss_one (ps_ret (pe_lst (pa_cons
        (pe_op op_sub (pe_op op_mul (pe_ix ix_list (pv 0) pe_int (fun _ _ => rfl)) (pe_ix ix_list (pv 1) pe_int (fun _ _ => rfl))) (pe_op op_mul (pe_ix ix_list (pv 0) pe_int (fun _ _ => rfl)) (pe_ix ix_list (pv 1) pe_int (fun _ _ => rfl))))
        (pa_cons
        (pe_op op_sub (pe_op op_mul (pe_ix ix_list (pv 0) pe_int (fun _ _ => rfl)) (pe_ix ix_list (pv 1) pe_int (fun _ _ => rfl))) (pe_op op_mul (pe_ix ix_list (pv 0) pe_int (fun _ _ => rfl)) (pe_ix ix_list (pv 1) pe_int (fun _ _ => rfl))))
        (pa_cons
        (pe_op op_sub (pe_op op_mul (pe_ix ix_list (pv 0) pe_int (fun _ _ => rfl)) (pe_ix ix_list (pv 1) pe_int (fun _ _ => rfl))) (pe_op op_mul (pe_ix ix_list (pv 0) pe_int (fun _ _ => rfl)) (pe_ix ix_list (pv 1) pe_int (fun _ _ => rfl))))
        pa_nil))))), ?_⟩
    obtain ⟨a, b, u, v, rfl, ha, hb, hB, k⟩ := h
    have mx := mul_ok (hB u.x (by simp [l3]))
    have my := mul_ok (hB u.y (by simp [l3]))
    have mz := mul_ok (hB u.z (by simp [l3]))
    refine ⟨_, rfl, a, _, 1, _, rfl, rfl, ha, atI_nat (j := 1) rfl, _, rfl, b, _, 2, _, rfl, rfl, hb, atI_nat (j := 2) rfl, _, _, rfl, rfl, .inl my,
      _, rfl, a, _, 2, _, rfl, rfl, ha, atI_nat (j := 2) rfl, _, rfl, b, _, 1, _, rfl, rfl, hb, atI_nat (j := 1) rfl, _, _, rfl, rfl, .inl mz, _, _, rfl, rfl, ?_⟩
    refine ⟨_, rfl, a, _, 2, _, rfl, rfl, ha, atI_nat (j := 2) rfl, _, rfl, b, _, 0, _, rfl, rfl, hb, atI_nat (j := 0) rfl, _, _, rfl, rfl, .inl mz,
      _, rfl, a, _, 0, _, rfl, rfl, ha, atI_nat (j := 0) rfl, _, rfl, b, _, 2, _, rfl, rfl, hb, atI_nat (j := 2) rfl, _, _, rfl, rfl, .inl mx, _, _, rfl, rfl, ?_⟩
    refine ⟨_, rfl, a, _, 0, _, rfl, rfl, ha, atI_nat (j := 0) rfl, _, rfl, b, _, 1, _, rfl, rfl, hb, atI_nat (j := 1) rfl, _, _, rfl, rfl, .inl mx,
      _, rfl, a, _, 1, _, rfl, rfl, ha, atI_nat (j := 1) rfl, _, rfl, b, _, 0, _, rfl, rfl, hb, atI_nat (j := 0) rfl, _, _, rfl, rfl, .inl my, _, _, rfl, rfl, ?_⟩
    exact ⟨by show 3 ≤ sizeLine; decide, fun p hp => k p hp⟩
end
end Np
end
section
set_option maxRecDepth 100000
set_option maxHeartbeats 2000000
namespace Np
open PySem PySem.Spec PyProof.Rows L2
/-- two points of two numbers, or three of three -/
def Dm (ps : List (List Int)) : Prop := (∃ m, ps = b2 m) ∨ (∃ m, ps = b3 m)
def BdP (M : Int) (ps : List (List Int)) : Prop := ∀ p ∈ ps, Bd M p
def lim : Int := 10000
def nrmL : List (List Int) → List (List Int)
  | [[a, b], [c, d]] => [[d, -c], [-b, a]]
  | [[a1, a2, a3], [b1, b2, b3], [c1, c2, c3]] => [crossL ⟨b1, b2, b3⟩ ⟨c1, c2, c3⟩, crossL ⟨c1, c2, c3⟩ ⟨a1, a2, a3⟩, crossL ⟨a1, a2, a3⟩ ⟨b1, b2, b3⟩]
  | _ => []
theorem nrmL2 (m : B2) : nrmL (b2 m) = [[m.b.y, -m.b.x], [-m.a.y, m.a.x]] := rfl
theorem nrmL3 (m : B3) : nrmL (b3 m) = [crossL m.b m.c, crossL m.c m.a, crossL m.a m.b] := rfl
def spNormals (K : PySem.W.Frag) : Sp := fun vs H Q _ => ∃ (a : Addr) (ps : List (List Int)), vs = [.ref a] ∧ Rows K H a ps ∧ Dm ps ∧ BdP lim ps ∧
  ∀ H' p, Same H H' → H p = none → Rows K H' p (nrmL ps) → Q (.ref p) H'
theorem Bd.mono {M N : Int} (h : M ≤ N) {xs : List Int} (b : Bd M xs) : Bd N xs := fun x hx => by have := b x hx; omega
theorem lim_big : lim ≤ big := by decide
section
variable {P : Program} {w : World} {K : PySem.W.Frag} {mg : Str → Option Value} {base : Heap}
theorem scNormals : FnScope ["steps"] ["steps"] (defScope sNormals) :=
  ⟨rfl, rfl, rfl, by decide +kernel, rfl, by decide +kernel, by decide +kernel⟩
theorem get3 {α : Type} {l : List α} (h : l.length = 3) : ∃ a b c, l = [a, b, c] := by
  match l, h with
  | [a, b, c], _ => exact ⟨a, b, c, rfl⟩
theorem get2 {α : Type} {l : List α} (h : l.length = 2) : ∃ a b, l = [a, b] := by
  match l, h with
  | [a, b], _ => exact ⟨a, b, rfl⟩
theorem ok_normals {f : Addr} {fd : FuncData} (F : Fun K "normals" "normals" sNormals f fd) (ml : mg "len" = none) (D : Callee P w K mg base 1 "cross" ["one", "other"] (spCross K)) :
    FnOk P w K mg base CX0 2 f fd ["steps"] (spNormals K) := by
  refine F.ok scNormals (fun vs H Q E h => ?_) (fun cdv A outer s H vs Q E hr h => ?_)
  · obtain ⟨a, ps, rfl, _⟩ := h
    rfl
  · refine ⟨_, pss_cons (ps_if (pt_cmpR op_eq (pe_callB call_len_seq (by rfl) ml PySem.boot_len (pa_cons (pv 0) pa_nil)) pe_int (nomark _))
        (pss_one (ps_ret (pe_lst (pa_cons
          (pe_lst (pa_cons (pe_ix ix_list (pe_ix ix_list (pv 0) pe_int (fun _ _ => rfl)) pe_int (fun _ _ => rfl)) (pa_cons (pe_un un_neg (pe_ix ix_list (pe_ix ix_list (pv 0) pe_int (fun _ _ => rfl)) pe_int (fun _ _ => rfl))) pa_nil)))
          (pa_cons
          (pe_lst (pa_cons (pe_un un_neg (pe_ix ix_list (pe_ix ix_list (pv 0) pe_int (fun _ _ => rfl)) pe_int (fun _ _ => rfl))) (pa_cons (pe_ix ix_list (pe_ix ix_list (pv 0) pe_int (fun _ _ => rfl)) pe_int (fun _ _ => rfl)) pa_nil)))
          pa_nil))))) pss_nil)
      (pss_one (ps_ret (pe_lst (pa_cons
        (pe_def D hr rfl (pa_cons (pe_ix ix_list (pv 0) pe_int (fun _ _ => rfl)) (pa_cons (pe_ix ix_list (pv 0) pe_int (fun _ _ => rfl)) pa_nil)))
        (pa_cons
        (pe_def D hr rfl (pa_cons (pe_ix ix_list (pv 0) pe_int (fun _ _ => rfl)) (pa_cons (pe_ix ix_list (pv 0) pe_int (fun _ _ => rfl)) pa_nil)))
        (pa_cons
        (pe_def D hr rfl (pa_cons (pe_ix ix_list (pv 0) pe_int (fun _ _ => rfl)) (pa_cons (pe_ix ix_list (pv 0) pe_int (fun _ _ => rfl)) pa_nil)))
        pa_nil)))))), ?_⟩
    obtain ⟨a, ps, rfl, ⟨as, has, hal, hap⟩, hd, hB, k⟩ := h
    rcases hd with ⟨m, rfl⟩ | ⟨m, rfl⟩
    · obtain ⟨a1, a2, rfl⟩ := get2 (l := as) hal
      have h1 := hap 0 a1 (l2 m.a) rfl rfl
      have h2 := hap 1 a2 (l2 m.b) rfl rfl
      refine ⟨_, rfl, a, _, rfl, .inl has, rfl, _, rfl, ?_⟩
      refine iteT ?_
      refine ⟨_, rfl, a, _, 1, _, rfl, rfl, has, atI_nat (j := 1) rfl, a2, _, 1, _, rfl, rfl, h2, atI_nat (j := 1) rfl,
        _, rfl, a, _, 1, _, rfl, rfl, has, atI_nat (j := 1) rfl, a2, _, 0, _, rfl, rfl, h2, atI_nat (j := 0) rfl, _, rfl, by show 2 ≤ sizeLine; decide, fun p hp => ?_⟩
      have s1 : Same H (upd H p (.lst [V.int m.b.y, V.int (-m.b.x)])) := keep_same.new hp
      refine ⟨_, rfl, a, _, 0, _, rfl, rfl, s1.seq has, atI_nat (j := 0) rfl, a1, _, 1, _, rfl, rfl, s1.seq h1, atI_nat (j := 1) rfl, _, rfl,
        _, rfl, a, _, 0, _, rfl, rfl, s1.seq has, atI_nat (j := 0) rfl, a1, _, 0, _, rfl, rfl, s1.seq h1, atI_nat (j := 0) rfl, by show 2 ≤ sizeLine; decide, fun p2 hp2 => ?_⟩
      have s2 := keep_same.trans s1 (keep_same.new (o := .lst [V.int (-m.a.y), V.int m.a.x]) hp2)
      refine ⟨by show 2 ≤ sizeLine; decide, fun p3 hp3 => ?_⟩
      have s3 := keep_same.trans s2 (keep_same.new (o := .lst [V.ref p, V.ref p2]) hp3)
      refine k _ p3 s3 (keep_same.free s2 hp3) ⟨[p, p2], SqL.of upd_same, rfl, ?_⟩
      intro i b q e1 e2
      match i with
      | 0 => cases e1; cases e2; exact SqL.of (keep_same.lst (keep_same.trans (keep_same.new hp2) (keep_same.new hp3)) upd_same)
      | 1 => cases e1; cases e2; exact SqL.of (keep_same.lst (keep_same.new hp3) upd_same)
      | i + 2 => simp at e1
    · obtain ⟨a1, a2, a3, rfl⟩ := get3 (l := as) hal
      have h1 := hap 0 a1 (l3 m.a) rfl rfl
      have h2 := hap 1 a2 (l3 m.b) rfl rfl
      have h3 := hap 2 a3 (l3 m.c) rfl rfl
      have c1 := Bd.mono lim_big (hB (l3 m.a) (by simp [b3]))
      have c2 := Bd.mono lim_big (hB (l3 m.b) (by simp [b3]))
      have c3 := Bd.mono lim_big (hB (l3 m.c) (by simp [b3]))
      refine ⟨_, rfl, a, _, rfl, .inl has, rfl, _, rfl, ?_⟩
      refine iteF ?_
      refine ⟨_, rfl, a, _, 1, _, rfl, rfl, has, atI_nat (j := 1) rfl, _, rfl, a, _, 2, _, rfl, rfl, has, atI_nat (j := 2) rfl, a2, a3, _, _, rfl, h2, h3, c2, fun p hp => ?_⟩
      have s1 : Same H (upd H p (.lst ((crossL m.b m.c).map V.int))) := keep_same.new hp
      refine ⟨_, rfl, a, _, 2, _, rfl, rfl, s1.seq has, atI_nat (j := 2) rfl, _, rfl, a, _, 0, _, rfl, rfl, s1.seq has, atI_nat (j := 0) rfl, a3, a1, _, _, rfl, s1.seq h3, s1.seq h1, c3, fun p2 hp2 => ?_⟩
      have s2 := keep_same.trans s1 (keep_same.new (o := .lst ((crossL m.c m.a).map V.int)) hp2)
      refine ⟨_, rfl, a, _, 0, _, rfl, rfl, s2.seq has, atI_nat (j := 0) rfl, _, rfl, a, _, 1, _, rfl, rfl, s2.seq has, atI_nat (j := 1) rfl, a1, a2, _, _, rfl, s2.seq h1, s2.seq h2, c1, fun p3 hp3 => ?_⟩
      have s3 := keep_same.trans s2 (keep_same.new (o := .lst ((crossL m.a m.b).map V.int)) hp3)
      refine ⟨by show 3 ≤ sizeLine; decide, fun p4 hp4 => ?_⟩
      have s4 := keep_same.trans s3 (keep_same.new (o := .lst [V.ref p, V.ref p2, V.ref p3]) hp4)
      refine k _ p4 s4 (keep_same.free s3 hp4) ⟨[p, p2, p3], SqL.of upd_same, rfl, ?_⟩
      intro i b q e1 e2
      match i with
      | 0 => cases e1; cases e2; exact SqL.of (keep_same.lst (keep_same.trans (keep_same.new hp2) (keep_same.trans (keep_same.new hp3) (keep_same.new hp4))) upd_same)
      | 1 => cases e1; cases e2; exact SqL.of (keep_same.lst (keep_same.trans (keep_same.new hp3) (keep_same.new hp4)) upd_same)
      | 2 => cases e1; cases e2; exact SqL.of (keep_same.lst (keep_same.new hp4) upd_same)
      | i + 3 => simp at e1
end
end Np
end
section
set_option maxRecDepth 100000
set_option maxHeartbeats 2000000
namespace Np
open PySem PySem.Spec PyProof.Rows L2
def detL (ps : List (List Int)) : Int := dotL ((nrmL ps).headD []) (ps.headD [])
theorem dotL_eq (xs ys : List Int) : dotL xs ys = Sq67.dot xs ys := rfl
theorem detL2 (m : B2) : detL (b2 m) = m.det := by
  show Sq67.dot (l2 ⟨m.b.y, -m.b.x⟩) (l2 m.a) = _
  rw [dot2]; simp only [B2.det, V2.dot, V2.crs]; grind
theorem detL3 (m : B3) : detL (b3 m) = m.det := by
  show Sq67.dot (crossL m.b m.c) (l3 m.a) = _
  rw [crossL, dot3]; simp only [B3.det, V3.dot, V3.cross]; grind
/-- the products of the normals with a point -/
def prodL (ps : List (List Int)) (v : List Int) : List Int := (nrmL ps).map fun n => dotL n v
theorem bd_mul {M N x y : Int} (hx : -M ≤ x ∧ x ≤ M) (hy : -N ≤ y ∧ y ≤ N) : -(M * N) ≤ x * y ∧ x * y ≤ M * N := by
  have h1 := Int.mul_nonneg (show 0 ≤ M - x by omega) (show 0 ≤ N - y by omega)
  have h2 := Int.mul_nonneg (show 0 ≤ M - x by omega) (show 0 ≤ N + y by omega)
  have h3 := Int.mul_nonneg (show 0 ≤ M + x by omega) (show 0 ≤ N - y by omega)
  have h4 := Int.mul_nonneg (show 0 ≤ M + x by omega) (show 0 ≤ N + y by omega)
  constructor <;> grind
theorem nrm_bd {ps : List (List Int)} (hd : Dm ps) (hB : BdP lim ps) : BdP 200000000 (nrmL ps) := by
  rcases hd with ⟨m, rfl⟩ | ⟨m, rfl⟩
  · have h1 := hB (l2 m.a) (by simp [b2])
    have h2 := hB (l2 m.b) (by simp [b2])
    have a1 := h1 m.a.x (by simp [l2]); have a2 := h1 m.a.y (by simp [l2])
    have b1 := h2 m.b.x (by simp [l2]); have b2' := h2 m.b.y (by simp [l2])
    unfold lim at *
    rw [nrmL2]
    intro p hp x hx
    simp only [List.mem_cons, List.not_mem_nil, or_false] at hp
    rcases hp with rfl | rfl <;> simp only [List.mem_cons, List.not_mem_nil, or_false] at hx <;> rcases hx with rfl | rfl <;> omega
  · have h1 := hB (l3 m.a) (by simp [b3])
    have h2 := hB (l3 m.b) (by simp [b3])
    have h3 := hB (l3 m.c) (by simp [b3])
    have key : ∀ u v : V3, Bd lim (l3 u) → Bd lim (l3 v) → Bd 200000000 (crossL u v) := by
      intro u v hu hv x hx
      have u1 := hu u.x (by simp [l3]); have u2 := hu u.y (by simp [l3]); have u3 := hu u.z (by simp [l3])
      have v1 := hv v.x (by simp [l3]); have v2 := hv v.y (by simp [l3]); have v3 := hv v.z (by simp [l3])
      have p1 := bd_mul u1 v2; have p2 := bd_mul u1 v3; have p3 := bd_mul u2 v1; have p4 := bd_mul u2 v3; have p5 := bd_mul u3 v1; have p6 := bd_mul u3 v2
      unfold lim at *
      simp only [crossL, l3, V3.cross, List.mem_cons, List.not_mem_nil, or_false] at hx
      rcases hx with rfl | rfl | rfl <;> omega
    rw [nrmL3]
    intro p hp
    simp only [List.mem_cons, List.not_mem_nil, or_false] at hp
    rcases hp with rfl | rfl | rfl
    · exact key _ _ h2 h3
    · exact key _ _ h3 h1
    · exact key _ _ h1 h2
theorem nrm_shape {ps : List (List Int)} (hd : Dm ps) : (nrmL ps).length = ps.length ∧ (∀ p ∈ nrmL ps, p.length = ps.length) ∧ (∀ p ∈ ps, p.length = ps.length) ∧ (ps.length = 2 ∨ ps.length = 3) := by
  rcases hd with ⟨m, rfl⟩ | ⟨m, rfl⟩
  · refine ⟨rfl, ?_, ?_, .inl rfl⟩
    · rw [nrmL2]; intro p hp; simp only [List.mem_cons, List.not_mem_nil, or_false] at hp; rcases hp with rfl | rfl <;> rfl
    · intro p hp; simp only [b2, List.mem_cons, List.not_mem_nil, or_false] at hp; rcases hp with rfl | rfl <;> rfl
  · refine ⟨rfl, ?_, ?_, .inr rfl⟩
    · rw [nrmL3]; intro p hp; simp only [List.mem_cons, List.not_mem_nil, or_false] at hp; rcases hp with rfl | rfl | rfl <;> rfl
    · intro p hp; simp only [b3, List.mem_cons, List.not_mem_nil, or_false] at hp; rcases hp with rfl | rfl | rfl <;> rfl
theorem big_of (N : Int) (h : N ≤ big) {xs : List Int} (b : Bd N xs) : Bd big xs := Bd.mono h b
def spDet (K : PySem.W.Frag) : Sp := fun vs H Q _ => ∃ (a : Addr) (ps : List (List Int)), vs = [.ref a] ∧ Rows K H a ps ∧ Dm ps ∧ BdP lim ps ∧ ∀ H', Same H H' → Q (.int (detL ps)) H'
/-- how often each is taken, or None -/
def takenV (ps : List (List Int)) (v : List Int) : Option (List Int) := if (prodL ps v).any (fun x => decide (x.fmod (detL ps) ≠ 0)) = true then none else some ((prodL ps v).map fun x => x.fdiv (detL ps))
def spTaken (K : PySem.W.Frag) : Sp := fun vs H Q _ => ∃ (a b : Addr) (ps : List (List Int)) (v : List Int), vs = [.ref a, .ref b] ∧ Rows K H a ps ∧ SqL K H b (v.map V.int) ∧ Dm ps ∧ BdP lim ps ∧ v.length = ps.length ∧
  detL ps ≠ 0 ∧ (detL ps).natAbs < 1073741824 ∧ (takenV ps v = none → ∀ H', Same H H' → Q .non H') ∧
  (∀ us, takenV ps v = some us → ∀ H' p, Same H H' → H p = none → H' p = some (.lst (us.map V.int)) → Q (.ref p) H')
section
variable {P : Program} {w : World} {K : PySem.W.Frag} {mg : Str → Option Value} {base : Heap}
theorem scDet : FnScope ["steps"] ["steps"] (defScope sDet) :=
  ⟨rfl, rfl, rfl, by decide +kernel, rfl, by decide +kernel, by decide +kernel⟩
theorem ok_det {f : Addr} {fd : FuncData} (F : Fun K "determinant" "determinant" sDet f fd) (D : Callee P w K mg base 1 "dot" ["one", "other"] (spDot K)) (N : Callee P w K mg base 2 "normals" ["steps"] (spNormals K)) :
    FnOk P w K mg base CX0 3 f fd ["steps"] (spDet K) := by
  refine F.ok scDet (fun vs H Q E h => ?_) (fun cdv A outer s H vs Q E hr h => ?_)
  · obtain ⟨a, ps, rfl, _⟩ := h
    rfl
  · refine ⟨_, pss_one (ps_ret (pe_def D (hr.mono (by decide)) rfl (pa_cons (pe_ix ix_list (pe_def N hr rfl (pa_cons (pv 0) pa_nil)) pe_int (fun _ _ => rfl)) (pa_cons (pe_ix ix_list (pv 0) pe_int (fun _ _ => rfl)) pa_nil)))), ?_⟩
    obtain ⟨a, ps, rfl, hr1, hd, hB, k⟩ := h
    refine ⟨_, rfl, a, ps, rfl, hr1, hd, hB, fun H1 p r1 hp hn => ?_⟩
    have nb := nrm_bd hd hB
    obtain ⟨n1, n2, n3, n4⟩ := nrm_shape hd
    obtain ⟨as, has, hal, hap⟩ := Rows.keep keep_same r1 hr1
    obtain ⟨ns, hns, hnl, hnp⟩ := hn
    obtain ⟨p0, pr, hps⟩ : ∃ p0 pr, ps = p0 :: pr := by
      cases ps with
      | nil => simp at n4
      | cons p0 pr => exact ⟨p0, pr, rfl⟩
    obtain ⟨q0, qr, hqs⟩ : ∃ p0 pr, nrmL ps = p0 :: pr := by
      cases e : nrmL ps with
      | nil => rw [e] at n1; simp at n1; omega
      | cons p0 pr => exact ⟨p0, pr, rfl⟩
    obtain ⟨a0, ar, rfl⟩ : ∃ a0 ar, as = a0 :: ar := by
      cases as with
      | nil => simp at hal; omega
      | cons a0 ar => exact ⟨a0, ar, rfl⟩
    obtain ⟨m0, mr, rfl⟩ : ∃ a0 ar, ns = a0 :: ar := by
      cases ns with
      | nil => simp at hnl; omega
      | cons a0 ar => exact ⟨a0, ar, rfl⟩
    refine ⟨p, _, 0, .ref m0, rfl, rfl, hns, atI_nat (j := 0) rfl, _, rfl, a, _, 0, .ref a0, rfl, rfl, has, atI_nat (j := 0) rfl,
      m0, a0, q0, p0, rfl, hnp 0 m0 q0 rfl (by rw [hqs]; rfl), hap 0 a0 p0 rfl (by rw [hps]; rfl), ?_, ?_, ?_, fun H2 r2 => ?_⟩
    · rw [n2 q0 (by rw [hqs]; simp), n3 p0 (by rw [hps]; simp)]
    · rw [n2 q0 (by rw [hqs]; simp)]; omega
    · exact big_of _ (by decide) (nb q0 (by rw [hqs]; simp))
    · have := k H2 (keep_same.trans r1 r2)
      rw [detL, hqs] at this
      rw [hps] at this
      exact this
abbrev nTaken : List Str := ["steps", "point", "size", "products", "normal", "product"]
theorem scTaken : FnScope nTaken ["steps", "point"] (defScope sTaken) :=
  ⟨rfl, rfl, rfl, by decide +kernel, rfl, by decide +kernel, by decide +kernel⟩
theorem ok_taken {f : Addr} {fd : FuncData} (F : Fun K "times_taken" "times_taken" sTaken f fd) (D : Callee P w K mg base 1 "dot" ["one", "other"] (spDot K)) (N : Callee P w K mg base 2 "normals" ["steps"] (spNormals K))
    (T : Callee P w K mg base 3 "determinant" ["steps"] (spDet K)) (ma : mg "any" = none) :
    FnOk P w K mg base CX0 4 f fd ["steps", "point"] (spTaken K) := by
  refine F.ok scTaken (fun vs H Q E h => ?_) (fun cdv A outer s H vs Q E hr h => ?_)
  · obtain ⟨a, b, ps, v, rfl, _⟩ := h
    rfl
  · refine ⟨_, pss_cons (ps_set (i := 2) scTaken.nd rfl (.inr rfl) (pe_def T hr rfl (pa_cons (pv 0) pa_nil)))
      (pss_cons (ps_setLc (i := 3) (own := [("normal", 4)]) (g := gName 4) (by rfl) scTaken.nd rfl rfl (sw_true rfl rfl rfl (by decide +kernel))
        (pi_list (pe_def N (hr.mono (by decide)) rfl (pa_cons (pv 0) pa_nil)))
        (blkOk_by (N := nTaken) (sc := defScope sTaken) (by decide +kernel))
        (fun _ _ _ _ _ => by exact pg_name (i := 4) scTaken.nd rfl (.inl rfl)) (fun _ _ _ _ _ => pts_nil)
        (fun _ _ _ _ _ => by exact pe_def D (hr.mono (by decide)) rfl (pa_cons (pv 4) (pa_cons (pv 1) pa_nil))))
      (pss_cons (ps_if (pt_val (pe_callB (cr_any rfl) (by rfl) ma (by decide +kernel) (pa_cons (pe_lc (own := [("product", 5)]) (g := gName 5) rfl scTaken.nd (pi_list (pv 3))
          (blkOk_by (N := nTaken) (sc := defScope sTaken) (by decide +kernel))
          (fun _ _ _ _ _ => by exact pg_name (i := 5) scTaken.nd rfl (.inl rfl)) (fun _ _ _ _ _ => pts_nil)
          (fun _ _ _ _ _ => pe_cmpR op_ne (pe_op op_modN (pv 5) (pv 2)) pe_int (nomark _))) pa_nil))) (pss_one (ps_ret pe_non)) pss_nil)
      (pss_one (ps_ret (pe_lc (own := [("product", 5)]) (g := gName 5) rfl scTaken.nd (pi_list (pv 3))
          (blkOk_by (N := nTaken) (sc := defScope sTaken) (by decide +kernel))
          (fun _ _ _ _ _ => by exact pg_name (i := 5) scTaken.nd rfl (.inl rfl)) (fun _ _ _ _ _ => pts_nil)
          (fun _ _ _ _ _ => pe_op op_fdivN (pv 5) (pv 2))))))), ?_⟩
    obtain ⟨a, b, ps, v, rfl, hr1, hb, hd, hB, hv, h0, hs, kN, kS⟩ := h
    obtain ⟨n1, n2, n3, n4⟩ := nrm_shape hd
    have nb := nrm_bd hd hB
    refine ⟨_, rfl, a, ps, rfl, hr1, hd, hB, fun H1 r1 => ?_⟩
    refine ⟨_, rfl, a, ps, rfl, Rows.keep keep_same r1 hr1, hd, hB, fun H2 p r2 hp hn => ?_⟩
    have s2 := keep_same.trans r1 r2
    obtain ⟨ns, hns, hnl, hnp⟩ := hn
    refine ⟨p, rfl, ⟨_, hns⟩, lc_ints keep_same (walk_list (xs := ns.map V.ref)) (prodL ps v) (by simp [prodL, hnl]) (fun H' r => r.seq hns) (by rw [sizeLine_eq]; simp; omega) ?_ ?_⟩
    · rintro i x z H0 H' Qf hz r ⟨rfl, hx⟩ q
      obtain ⟨n, hn, rfl⟩ := map_get hz
      obtain ⟨ni, hni, rfl⟩ := map_get hx
      refine ⟨rfl, _, rfl, _, rfl, ni, b, n, v, rfl, r.seq (hnp i ni n hni hn), r.seq (s2.seq hb), ?_, ?_, big_of _ (by decide) (nb n (List.mem_of_getElem? hn)), fun H4 r4 => q H4 r4⟩
      · rw [n2 n (List.mem_of_getElem? hn), hv]
      · rw [n2 n (List.mem_of_getElem? hn)]; omega
    · intro D1 H3 r3 hD1 e3
      have s3 := keep_same.trans s2 r3
      refine ⟨_, rfl, D1, rfl, ⟨_, SqL.of e3⟩, lc_vals keep_same (walk_list (xs := (prodL ps v).map V.int)) ((prodL ps v).map fun x => V.bl (decide (x.fmod (detL ps) ≠ 0))) (by simp) (fun H' r => r.seq (SqL.of e3)) (by rw [sizeLine_eq]; simp [prodL]; omega) ?_ ?_⟩
      · rintro i x z H0 H' Qf hz r ⟨rfl, hx⟩ q
        obtain ⟨n, hn, rfl⟩ := map_get hz
        obtain ⟨n', hn', rfl⟩ := map_get hx
        rw [hn] at hn'
        cases hn'
        refine ⟨rfl, _, rfl, _, rfl, _, _, rfl, rfl, h0, rfl, ?_⟩
        have := q _ (keep_same.refl _)
        simpa using this
      · intro D2 H4 r4 hD2 e4
        have s4 := keep_same.trans s3 r4
        refine ⟨D2, (prodL ps v).map (fun x => decide (x.fmod (detL ps) ≠ 0)), rfl, SqL.of (by rw [e4]; simp [List.map_map, Function.comp_def]), _, rfl, ?_⟩
        refine bIf (fun hh => ?_) (fun hh => ?_)
        · refine kN ?_ H4 s4
          unfold takenV
          rw [if_pos]
          simpa [List.any_map, Function.comp_def] using hh
        · have ht : takenV ps v = some ((prodL ps v).map fun x => x.fdiv (detL ps)) := by
            unfold takenV
            rw [if_neg]
            intro hc
            have : ((prodL ps v).map (fun x => decide (x.fmod (detL ps) ≠ 0))).any id = true := by
              rw [List.any_map]; exact hc
            rw [this] at hh; cases hh
          refine ⟨_, rfl, D1, rfl, ⟨_, r4.seq (SqL.of e3)⟩, lc_ints keep_same (walk_list (xs := (prodL ps v).map V.int)) ((prodL ps v).map fun x => x.fdiv (detL ps)) (by simp) (fun H' r => r.seq (r4.seq (SqL.of e3))) (by rw [sizeLine_eq]; simp [prodL]; omega) ?_ ?_⟩
          · rintro i x z H0 H' Qf hz r ⟨rfl, hx⟩ q
            obtain ⟨n, hn, rfl⟩ := map_get hz
            obtain ⟨n', hn', rfl⟩ := map_get hx
            rw [hn] at hn'
            cases hn'
            exact ⟨rfl, _, rfl, _, rfl, _, _, rfl, rfl, ⟨h0, hs⟩, q _ (keep_same.refl _)⟩
          · intro D3 H5 r5 hD3 e5
            exact kS _ ht H5 D3 (keep_same.trans s4 r5) (keep_same.free s4 hD3) e5
end
end Np
end
section
set_option maxRecDepth 100000
set_option maxHeartbeats 2000000
namespace Np
open PySem PySem.Spec PyProof.Rows L2
abbrev sBox : Stmt := top 13
abbrev sDivisor : Stmt := top 19
theorem natAbs_fmod {a b : Int} (h : b ≠ 0) : (a.fmod b).natAbs < b.natAbs := by
  rcases Int.lt_or_le b 0 with g | g
  · have e := Int.neg_fmod_neg a b
    have h1 := Int.fmod_lt_of_pos (-a) (b := -b) (by omega)
    have h2 := Int.fmod_nonneg_of_pos (-a) (b := -b) (by omega)
    omega
  · have h1 := Int.fmod_lt_of_pos a (b := b) (by omega)
    have h2 := Int.fmod_nonneg_of_pos a (b := b) (by omega)
    omega
theorem gcd_fmod (a b : Int) : Int.gcd b (a.fmod b) = Int.gcd a b := by
  have := Int.mul_fdiv_add_fmod a b
  have e : a.fmod b = a - b * a.fdiv b := by omega
  rw [e, Int.gcd_sub_mul_left_right, Int.gcd_comm]
section
variable {P : Program} {w : World} {K : PySem.W.Frag} {mg : Str → Option Value} {base : Heap}
/-! ### common_divisor -/
abbrev nDiv : List Str := ["numbers", "divisor", "number", "rest", "kept"]
theorem scDiv : FnScope nDiv ["numbers"] (defScope sDivisor) :=
  ⟨rfl, rfl, rfl, by decide +kernel, rfl, by decide +kernel, by decide +kernel⟩
def spDiv (K : PySem.W.Frag) : Sp := fun vs H Q _ => ∃ (a : Addr) (xs : List Int), vs = [.ref a] ∧ SqL K H a (xs.map V.int) ∧ Q (.int (Sq67.gcdAll xs : Nat)) H
theorem gcdAll_snoc (xs : List Int) (x : Int) : Sq67.gcdAll (xs ++ [x]) = Nat.gcd (Sq67.gcdAll xs) x.natAbs := by
  simp [Sq67.gcdAll]
theorem ok_div {f : Addr} {fd : FuncData} (F : Fun K "common_divisor" "common_divisor" sDivisor f fd) (ma : mg "abs" = none) : FnOk P w K mg base CX0 1 f fd ["numbers"] (spDiv K) := by
  refine F.ok scDiv (fun vs H Q E h => ?_) (fun cdv A outer s H vs Q E hr h => ?_)
  · obtain ⟨a, xs, rfl, _⟩ := h
    rfl
  · refine ⟨_, pss_cons (ps_set (i := 1) scDiv.nd rfl (.inl rfl) pe_int)
      (pss_cons (ps_for PassesOwn.never rfl (pi_list (pv 0)) (pg_name (i := 2) scDiv.nd rfl (.inl rfl))
        (pss_cons (ps_set (i := 3) scDiv.nd rfl (.inl rfl) (pv 2))
        (pss_one (ps_while PassesOwn.never (pt_cmpR op_ne (pv 3) pe_int (nomark _))
          (pss_cons (ps_set (i := 4) scDiv.nd rfl (.inl rfl) (pv 3))
          (pss_cons (ps_set (i := 3) scDiv.nd rfl (.inl rfl) (pe_op op_modN (pv 1) (pv 3)))
          (pss_one (ps_set (i := 1) scDiv.nd rfl (.inl rfl) (pv 4)))))))))
      (pss_one (ps_ret (pe_callB call_abs (by rfl) ma (by decide +kernel) (pa_cons (pv 1) pa_nil))))), ?_⟩
    obtain ⟨a, xs, rfl, ha, k⟩ := h
    refine ⟨_, rfl, a, rfl, ⟨_, ha⟩, for_it (walk_list (xs := xs.map V.int)) (fun i σ H' => H' = H ∧ ∃ (d : Int) (v2 v3 v4 : Option V), σ = [some (.ref a), some (.int d), v2, v3, v4] ∧ d.natAbs = Sq67.gcdAll (xs.take i))
      ⟨rfl, 0, none, none, none, rfl, rfl⟩ (fun i σ H' _ ⟨e, _⟩ => e ▸ ha) ?_ ?_⟩
    · rintro i x σ H0 H' hi ⟨rfl, d, v2, v3, v4, rfl, hd⟩ ⟨rfl, hx⟩
      obtain ⟨x, hx', rfl⟩ := map_get hx
      refine ⟨_, rfl, ?_⟩
      refine while_by (fun σ H'' => H'' = H' ∧ ∃ (e r : Int) (v4 : Option V), σ = [some (.ref a), some (.int e), some (.int x), some (.int r), v4] ∧ Int.gcd e r = Nat.gcd d.natAbs x.natAbs) (fun σ H'' => match σ with
        | [_, _, _, some (.int r), _] => r.natAbs
        | _ => 0) ⟨rfl, d, x, v4, rfl, rfl⟩ ?_ ?_
      · rintro σ H'' ⟨rfl, e, r, v4', rfl, hg⟩
        refine ⟨_, rfl, rfl, _, rfl, ?_⟩
        refine bIf (fun hh => ?_) (fun hh => ?_)
        · have hr0 := int_ne.mp hh
          refine ⟨_, rfl, _, rfl, _, rfl, _, _, rfl, rfl, hr0, _, rfl, ⟨rfl, _, _, _, rfl, ?_⟩, ?_⟩
          · rw [gcd_fmod, hg]
          · exact natAbs_fmod hr0
        · have hr0 := int_eq.mp hh
          refine ⟨rfl, e, _, _, _, rfl, ?_⟩
          rw [take_snoc' hx', gcdAll_snoc, ← hd, ← hg, hr0]
          simp
      · rintro σ H'' Q1 Q2 hq h
        obtain ⟨v, e1, e2, b, e3, h⟩ := h
        exact ⟨v, e1, e2, b, e3, hq _ _ h⟩
    · rintro σ H' ⟨rfl, d, v2, v3, v4, rfl, hd⟩
      refine ⟨_, rfl, d, rfl, ?_⟩
      rw [List.length_map, List.take_length] at hd
      have : (if d < 0 then -d else d) = ((Sq67.gcdAll xs : Nat) : Int) := by
        rw [← hd]; split <;> omega
      rw [this]
      exact k
end
end Np
end
section
set_option maxRecDepth 100000
set_option maxHeartbeats 2000000
namespace Np
open PySem PySem.Spec PyProof.Rows L2
/-- rows of whole numbers at a, all of them lists that the program made -/
def RowsH (H : Hp) (a : Addr) (ps : List (List Int)) : Prop := ∃ as : List Addr, H a = some (.lst (as.map V.ref)) ∧ as.length = ps.length ∧ ∀ (i : Nat) (b : Addr) (p : List Int), as[i]? = some b → ps[i]? = some p → H b = some (.lst (p.map V.int))
theorem RowsH.rows {K : PySem.W.Frag} {H : Hp} {a : Addr} {ps : List (List Int)} (h : RowsH H a ps) : Rows K H a ps := by
  obtain ⟨as, h1, h2, h3⟩ := h
  exact ⟨as, SqL.of h1, h2, fun i b p e1 e2 => SqL.of (h3 i b p e1 e2)⟩
theorem RowsH.keep {R : Hp → Hp → Prop} (kp : Keep R) {H H' : Hp} {a : Addr} {ps : List (List Int)} (r : R H H') (h : RowsH H a ps) : RowsH H' a ps := by
  obtain ⟨as, h1, h2, h3⟩ := h
  exact ⟨as, kp.lst r h1, h2, fun i b p e1 e2 => kp.lst r (h3 i b p e1 e2)⟩
/-- one more row -/
theorem RowsH.snoc {H H' : Hp} {l r : Addr} {ps : List (List Int)} {p : List Int} {as : List Addr} (h1 : H l = some (.lst (as.map V.ref))) (h2 : as.length = ps.length)
    (h3 : ∀ (i : Nat) (b : Addr) (p : List Int), as[i]? = some b → ps[i]? = some p → H b = some (.lst (p.map V.int)))
    (hs : Same H H') (hr : H' r = some (.lst (p.map V.int))) (hrl : r ≠ l) : RowsH (upd H' l (.lst ((as.map V.ref) ++ [V.ref r]))) l (ps ++ [p]) := by
  refine ⟨as ++ [r], by rw [upd_same]; simp, by simp [h2], ?_⟩
  intro i b q e1 e2
  rcases get_snoc rfl e1 with g | ⟨g1, g2⟩
  · have hi : i < as.length := (List.getElem?_eq_some_iff.mp g).1
    rw [List.getElem?_append_left (by omega)] at e2
    have hb := h3 i b q g e2
    have hbl : b ≠ l := by
      intro e
      rw [e, h1] at hb
      have : as.map V.ref = q.map V.int := by injection hb with hb; injection hb
      cases as with
      | nil => simp at hi
      | cons a0 ar => cases q with
        | nil => simp at this
        | cons q0 qr => simp at this
    rw [upd_ne hbl]
    exact hs b _ hb
  · rw [g1, h2, List.getElem?_append_right (by omega)] at e2
    simp at e2
    rw [g2, upd_ne hrl, ← e2]
    exact hr
def ext (zs : List Int) (rs : List (List Int)) : List (List Int) := rs.flatMap fun r => zs.map fun z => r ++ [z]
def boxL (cs : List (List Int)) : List (List Int) := cs.foldl (fun rs zs => ext zs rs) [[]]
theorem ext_len (zs : List Int) (rs : List (List Int)) : (ext zs rs).length = rs.length * zs.length := by
  induction rs with
  | nil => simp [ext]
  | cons r rs ih =>
    show ((r :: rs).flatMap _).length = _
    rw [List.flatMap_cons, List.length_append, List.length_map]
    show _ + (ext zs rs).length = _
    rw [ih, List.length_cons, Nat.succ_mul]; omega
theorem ext_snoc (zs : List Int) (rs : List (List Int)) (r : List Int) : ext zs (rs ++ [r]) = ext zs rs ++ zs.map fun z => r ++ [z] := by
  simp [ext]
theorem ext_rows {zs : List Int} {rs : List (List Int)} {n : Nat} (h : ∀ r ∈ rs, r.length = n) : ∀ r ∈ ext zs rs, r.length = n + 1 := by
  intro r hr
  obtain ⟨r0, h0, h1⟩ := List.mem_flatMap.mp hr
  obtain ⟨z, _, rfl⟩ := List.mem_map.mp h1
  simp [h r0 h0]
theorem boxL_snoc {cs : List (List Int)} {i : Nat} {zs : List Int} (h : cs[i]? = some zs) : boxL (cs.take (i + 1)) = ext zs (boxL (cs.take i)) := by
  unfold boxL
  rw [take_snoc' h, List.foldl_append]; rfl
theorem boxL_len : ∀ (cs : List (List Int)) (i : Nat), i ≤ cs.length → ∀ r ∈ boxL (cs.take i), r.length = i
  | cs, 0, _ => by simp [boxL]
  | cs, i + 1, h => by
    obtain ⟨b, hb⟩ : ∃ b, cs[i]? = some b := ⟨_, List.getElem?_eq_getElem (by omega)⟩
    rw [boxL_snoc hb]
    exact ext_rows (boxL_len cs i (by omega))
def spBox (K : PySem.W.Frag) : Sp := fun vs H Q _ => ∃ (a : Addr) (cs : List (List Int)), vs = [.ref a] ∧ Rows K H a cs ∧ cs.length ≤ 1000 ∧
  (∀ i, i ≤ cs.length → (boxL (cs.take i)).length ≤ 1000000) ∧ ∀ H' p, Same H H' → H p = none → RowsH H' p (boxL cs) → Q (.ref p) H'
section
variable {P : Program} {w : World} {K : PySem.W.Frag} {mg : Str → Option Value} {base : Heap}
abbrev nBox : List Str := ["choices", "rows", "numbers", "longer", "row", "number"]
theorem scBox : FnScope nBox ["choices"] (defScope sBox) :=
  ⟨rfl, rfl, rfl, by decide +kernel, rfl, by decide +kernel, by decide +kernel⟩
theorem ok_box {f : Addr} {fd : FuncData} (F : Fun K "box" "box" sBox f fd) : FnOk P w K mg base CX0 1 f fd ["choices"] (spBox K) := by
  refine F.ok scBox (fun vs H Q E h => ?_) (fun cdv A outer s H vs Q E hr h => ?_)
  · obtain ⟨a, bs, rfl, _⟩ := h
    rfl
  · refine ⟨_, pss_cons (ps_set (i := 1) scBox.nd rfl (.inl rfl) (pe_lst (pa_cons (pe_lst pa_nil) pa_nil)))
      (pss_cons (ps_for PassesOwn.never rfl (pi_list (pv 0)) (pg_name (i := 2) scBox.nd rfl (.inl rfl))
        (pss_cons (ps_set (i := 3) scBox.nd rfl (.inl rfl) (pe_lst pa_nil))
        (pss_cons (ps_for PassesOwn.never rfl (pi_list (pv 1)) (pg_name (i := 4) scBox.nd rfl (.inl rfl))
          (pss_one (ps_for PassesOwn.never rfl (pi_list (pv 2)) (pg_name (i := 5) scBox.nd rfl (.inl rfl))
            (pss_one (ps_expr (pe_bm PySem.F.plainAttrs_list PySem.F.slot_list_append PySem.F.type_list_append mt_append (pv 3) (pa_cons (pe_op op_cat (pv 4) (pe_lst (pa_cons (pv 5) pa_nil))) pa_nil)))))))
        (pss_one (ps_set (i := 1) scBox.nd rfl (.inl rfl) (pv 3))))))
      (pss_one (ps_ret (pv 1)))), ?_⟩
    obtain ⟨a, cs, rfl, ⟨gs, hgs, hgl, hgp⟩, hn, hc, k⟩ := h
    refine ⟨by show 0 ≤ sizeLine; decide, fun p0 hp0 => ⟨by show 1 ≤ sizeLine; decide, fun p1 hp1 => ?_⟩⟩
    have s0 : Same H (upd (upd H p0 (.lst [])) p1 (.lst [V.ref p0])) := keep_same.trans (keep_same.new hp0) (keep_same.new hp1)
    refine ⟨_, rfl, a, rfl, ⟨_, s0.seq hgs⟩, for_it (walk_list (xs := gs.map V.ref)) (fun i σ H' => Same H H' ∧ ∃ q v2 v3 v4 v5, σ = [some (.ref a), some (.ref q), v2, v3, v4, v5] ∧ H q = none ∧ RowsH H' q (boxL (cs.take i)))
      ⟨s0, p1, none, none, none, none, rfl, keep_same.free (keep_same.new hp0) hp1, ⟨[p0], upd_same, rfl, fun i b p e1 e2 => ?_⟩⟩ (fun i σ H' _ ⟨r, _⟩ => r.seq hgs) ?_ ?_⟩
    · match i with
      | 0 => cases e1; cases e2; exact keep_same.lst (keep_same.new hp1) upd_same
      | i + 1 => simp at e1
    · rintro i x σ H1 H' hi ⟨r, q, v2, v3, v4, v5, rfl, hq, hqr⟩ ⟨rfl, hx⟩
      obtain ⟨b, hb, rfl⟩ := map_get hx
      have hi' : i < cs.length := by rw [← hgl]; simpa using hi
      obtain ⟨zs, hzs⟩ : ∃ zs, cs[i]? = some zs := ⟨_, List.getElem?_eq_getElem hi'⟩
      have hbz := hgp i b zs hb hzs
      refine ⟨by show 0 ≤ sizeLine; decide, fun l hl => ?_⟩
      generalize hrs : boxL (cs.take i) = rs at *
      have hcl : rs.length * zs.length ≤ 1000000 := by
        have := hc (i + 1) (by omega)
        rw [boxL_snoc hzs, hrs, ext_len] at this; exact this
      have hrl : ∀ r ∈ rs, r.length = i := by rw [← hrs]; exact boxL_len cs i (by omega)
      obtain ⟨as, has, hal, hap⟩ := hqr
      have s1 : Same H' (upd H' l (.lst [])) := keep_same.new hl
      refine ⟨_, rfl, q, rfl, ⟨_, SqL.of (s1 _ _ has)⟩, for_it (walk_list (xs := as.map V.ref)) (fun j σ H2 => Same H' H2 ∧ ∃ v4 v5, σ = [some (.ref a), some (.ref q), some (.ref b), some (.ref l), v4, v5] ∧ RowsH H2 l (ext zs (rs.take j)))
        ⟨s1, _, _, rfl, ⟨[], upd_same, rfl, fun i b p e1 => by simp at e1⟩⟩ (fun j σ H2 _ ⟨r2, _⟩ => SqL.of (r2 _ _ has)) ?_ ?_⟩
      · rintro j x σ H2 H2' hj ⟨r2, v4', v5', rfl, hR⟩ ⟨rfl, hx2⟩
        obtain ⟨aj, haj, rfl⟩ := map_get hx2
        have hj' : j < rs.length := by rw [← hal]; simpa using hj
        obtain ⟨rj, hrj⟩ : ∃ rj, rs[j]? = some rj := ⟨_, List.getElem?_eq_getElem hj'⟩
        have hlj := hrl rj (List.mem_of_getElem? hrj)
        have haj2 := hap j aj rj haj hrj
        refine ⟨_, rfl, b, rfl, ⟨_, r2.seq (r.seq hbz)⟩, ?_⟩
        refine for_it (walk_list (xs := zs.map V.int)) (fun t σ H3 => Same H' H3 ∧ ∃ v5, σ = [some (.ref a), some (.ref q), some (.ref b), some (.ref l), some (.ref aj), v5] ∧ RowsH H3 l (ext zs (rs.take j) ++ (zs.take t).map fun z => rj ++ [z]))
            ⟨r2, _, rfl, by simpa using hR⟩ (fun _ _ H3 _ ⟨r3, _⟩ => r3.seq (r.seq hbz)) ?_ ?_
        · rintro t x σ H3 H3' ht ⟨r3, v5'', rfl, as3, h31, h32, h33⟩ ⟨rfl, hx3⟩
          obtain ⟨z0, hz0, rfl⟩ := map_get hx3
          have ht' : t < zs.length := by simpa using ht
          refine ⟨_, rfl, .inl ⟨rfl, _, SqL.of h31⟩, _, rfl, _, rfl, by show 1 ≤ sizeLine; decide, fun z hz => ?_⟩
          have s4 := keep_same.new (o := .lst [V.int z0]) hz
          refine ⟨aj, z, _, _, rfl, rfl, s4 _ _ (r3 _ _ haj2), upd_same, by rw [sizeLine_eq]; simp; omega, fun p hp => ?_⟩
          have s5 := keep_same.trans s4 (keep_same.new (o := .lst (List.map V.int rj ++ [V.int z0])) hp)
          have hlen : as3.length < 1000000 := by
            rw [h32, List.length_append, ext_len, List.length_map, List.length_take, List.length_take]
            have e1 : min j rs.length = j := by omega
            have e2 : min t zs.length = t := by omega
            rw [e1, e2]
            have : (j + 1) * zs.length ≤ rs.length * zs.length := Nat.mul_le_mul_right _ (by omega)
            rw [Nat.succ_mul] at this
            omega
          refine ⟨l, _, _, rfl, rfl, s5 _ _ h31, by rw [sizeLine_eq]; simp; omega, ?_⟩
          have hpl : p ≠ l := fun e => by
            rw [e] at hp
            have := s4 _ _ h31
            rw [hp] at this; cases this
          refine ⟨?_, _, rfl, ?_⟩
          · have : H' l = none := hl
            exact keep_same.put (keep_same.trans r3 s5) this (.inr ⟨_, s5 _ _ h31⟩)
          · rw [take_snoc' hz0, List.map_append, ← List.append_assoc]
            exact RowsH.snoc h31 h32 h33 s5 (by rw [upd_same]; simp) hpl
        · rintro σ H3 ⟨r3, v5'', rfl, hR3⟩
          refine ⟨r3, _, _, rfl, ?_⟩
          rw [take_snoc' hrj, ext_snoc]
          rw [List.length_map, List.take_length] at hR3
          exact hR3
      · rintro σ H2 ⟨r2, v4', v5', rfl, hR⟩
        refine ⟨_, rfl, keep_same.trans r r2, l, _, _, _, _, rfl, keep_same.free r hl, ?_⟩
        rw [boxL_snoc hzs, hrs]
        rw [List.take_of_length_le (by simp [hal])] at hR
        exact hR
    · rintro σ H' ⟨r, q, v2, v3, v4, v5, rfl, hq, hqr⟩
      refine ⟨_, rfl, k H' q r hq ?_⟩
      rw [List.take_of_length_le (by simp [hgl])] at hqr
      exact hqr
end
end Np
end
section
set_option maxRecDepth 100000
set_option maxHeartbeats 2000000
namespace Np
open PySem PySem.Spec PyProof.Rows L2
abbrev sContent : Stmt := top 20
abbrev sLongest : Stmt := top 22
abbrev sTold : Stmt := top 38
abbrev sRefusal : Stmt := top 39
abbrev sOne : Stmt := top 42
section
variable {P : Program} {w : World} {K : PySem.W.Frag} {mg : Str → Option Value} {base : Heap}
/-! ### told_numbers -/
theorem scTold : FnScope ["plus", "minus", "more", "less"] ["plus", "minus"] (defScope sTold) :=
  ⟨rfl, rfl, rfl, by decide +kernel, rfl, by decide +kernel, by decide +kernel⟩
def toldL (xs ys : List Int) : List Int := (xs.zip ys).map fun x => x.1 - x.2
def spTold (K : PySem.W.Frag) : Sp := fun vs H Q _ => ∃ (a b : Addr) (xs ys : List Int), vs = [.ref a, .ref b] ∧ SqL K H a (xs.map V.int) ∧ SqL K H b (ys.map V.int) ∧
  xs.length ≤ 100000 ∧ ∀ H' p, Same H H' → H p = none → H' p = some (.lst ((toldL xs ys).map V.int)) → Q (.ref p) H'
theorem ok_told {f : Addr} {fd : FuncData} (F : Fun K "told_numbers" "told_numbers" sTold f fd) (mz : mg "zip" = none) : FnOk P w K mg base CX0 1 f fd ["plus", "minus"] (spTold K) := by
  refine F.ok scTold (fun vs H Q E h => ?_) (fun cdv A outer s H vs Q E hr h => ?_)
  · obtain ⟨a, b, xs, ys, rfl, _⟩ := h
    rfl
  · refine ⟨_, pss_one (ps_ret (pe_lc (own := [("more", 2), ("less", 3)]) (g := gTup K 2 (gCons (gName 2) (gCons (gName 3) gNil))) rfl scTold.nd
      (pi_zip (by rfl) mz (pa_cons (pv 0) (pa_cons (pv 1) pa_nil)))
      (blkOk_by (N := ["plus", "minus", "more", "less"]) (sc := defScope sTold) (by decide +kernel))
      (fun _ _ _ _ _ => by exact pg_tup rfl (pgs_cons (pg_name (i := 2) scTold.nd rfl (.inl rfl)) (pgs_cons (pg_name (i := 3) scTold.nd rfl (.inl rfl)) pgs_nil)))
      (fun _ _ _ _ _ => pts_nil)
      (fun _ _ _ _ _ => pe_op op_sub (pv 2) (pv 3)))), ?_⟩
    obtain ⟨a, b, xs, ys, rfl, ha, hb, hn, k⟩ := h
    refine ⟨_, rfl, _, rfl, a, b, _, _, rfl, ha, hb, lc_ints keep_same (walk_zip (n := (toldL xs ys).length) (xs := xs.map V.int) (ys := ys.map V.int) (by simp [toldL])) (toldL xs ys) rfl
      (fun H' r => ⟨r.seq ha, r.seq hb⟩) (by rw [sizeLine_eq]; simp [toldL]; omega) ?_ ?_⟩
    · rintro i v z H0 H' Qf hz r ⟨T, x, y, rfl, nT, rfl, hx, hy⟩ q
      obtain ⟨p, hp, rfl⟩ := map_get hz
      obtain ⟨x', hx', rfl⟩ := map_get hx
      obtain ⟨y', hy', rfl⟩ := map_get hy
      have : p = (x', y') := by
        have := List.getElem?_zip_eq_some.mp hp
        rw [hx', hy'] at this
        exact Prod.ext (Option.some.inj this.1).symm (Option.some.inj this.2).symm
      subst this
      exact ⟨T, _, rfl, SqT.of upd_same, rfl, _, _, rfl, _, _, rfl, rfl, rfl, _, rfl, _, rfl, _, _, rfl, rfl, q _ (keep_same.new nT)⟩
    · intro D H' r hD e
      exact k H' D r hD e
/-! ### one_behind_another -/
theorem scOne : FnScope ["points", "numbers", "point"] ["points"] (defScope sOne) :=
  ⟨rfl, rfl, rfl, by decide +kernel, rfl, by decide +kernel, by decide +kernel⟩
def spOne : Sp := fun vs H Q _ => ∃ (a : Addr) (ps : List (List Int)), vs = [.ref a] ∧ RowsH H a ps ∧ ps.flatten.length ≤ 10000000 ∧
  ∀ H' p, Same H H' → H p = none → H' p = some (.lst (ps.flatten.map V.int)) → Q (.ref p) H'
theorem flat_take {ps : List (List Int)} {i : Nat} {p : List Int} (h : ps[i]? = some p) : (ps.take (i + 1)).flatten = (ps.take i).flatten ++ p := by
  rw [take_snoc' h, List.flatten_append]; simp
theorem flat_le (ps : List (List Int)) (i : Nat) : (ps.take i).flatten.length ≤ ps.flatten.length := by
  have : ps.flatten = (ps.take i).flatten ++ (ps.drop i).flatten := by rw [← List.flatten_append, List.take_append_drop]
  rw [this, List.length_append]; omega
theorem ok_one {f : Addr} {fd : FuncData} (F : Fun K "one_behind_another" "one_behind_another" sOne f fd) : FnOk P w K mg base CX0 1 f fd ["points"] spOne := by
  refine F.ok scOne (fun vs H Q E h => ?_) (fun cdv A outer s H vs Q E hr h => ?_)
  · obtain ⟨a, ps, rfl, _⟩ := h
    rfl
  · refine ⟨_, pss_cons (ps_set (i := 1) scOne.nd rfl (.inl rfl) (pe_lst pa_nil))
      (pss_cons (ps_for PassesOwn.never rfl (pi_list (pv 0)) (pg_name (i := 2) scOne.nd rfl (.inl rfl))
        (pss_one (ps_expr (pe_bm PySem.F.plainAttrs_list PySem.F.slot_list_extend PySem.F.type_list_extend mt_extend (pv 1) (pa_cons (pv 2) pa_nil)))))
      (pss_one (ps_ret (pv 1)))), ?_⟩
    obtain ⟨a, ps, rfl, ⟨as, has, hal, hap⟩, hn, k⟩ := h
    refine ⟨by show 0 ≤ sizeLine; decide, fun l hl => ?_⟩
    have s0 : Same H (upd H l (.lst [])) := keep_same.new hl
    refine ⟨_, rfl, a, rfl, ⟨_, SqL.of (s0 _ _ has)⟩, for_it (walk_list (xs := as.map V.ref)) (fun i σ H' => Same H H' ∧ H' l = some (.lst ((ps.take i).flatten.map V.int)) ∧ ∃ v2, σ = [some (.ref a), some (.ref l), v2])
      ⟨s0, upd_same, none, rfl⟩ (fun i σ H' _ ⟨r, _⟩ => SqL.of (r _ _ has)) ?_ ?_⟩
    · rintro i x σ H1 H' hi ⟨r, hL, v2, rfl⟩ ⟨rfl, hx⟩
      obtain ⟨ai, hai, rfl⟩ := map_get hx
      have hi' : i < ps.length := by rw [← hal]; simpa using hi
      obtain ⟨pi, hpi⟩ : ∃ pi, ps[i]? = some pi := ⟨_, List.getElem?_eq_getElem hi'⟩
      have hb := hap i ai pi hai hpi
      have le := flat_le ps (i + 1)
      rw [flat_take hpi, List.length_append] at le
      refine ⟨_, rfl, .inl ⟨rfl, _, SqL.of hL⟩, _, rfl, l, ai, _, _, rfl, rfl, hL, r _ _ hb, by rw [sizeLine_eq]; simp only [List.length_map]; omega, ?_⟩
      refine ⟨keep_same.put r hl (.inr ⟨_, hL⟩), ?_, _, rfl⟩
      rw [upd_same, flat_take hpi, List.map_append]
    · rintro σ H' ⟨r, hL, v2, rfl⟩
      refine ⟨_, rfl, k H' l r hl ?_⟩
      rw [hL, List.take_of_length_le (by simp [hal])]
/-! ### longest_length -/
theorem scLongest : FnScope ["steps", "step"] ["steps"] (defScope sLongest) :=
  ⟨rfl, rfl, rfl, by decide +kernel, rfl, by decide +kernel, by decide +kernel⟩
def spLongest (K : PySem.W.Frag) : Sp := fun vs H Q _ => ∃ (a : Addr) (ps : List (List Int)), vs = [.ref a] ∧ Rows K H a ps ∧ ps ≠ [] ∧ ps.length ≤ 1000 ∧ (∀ p ∈ ps, p.length ≤ 1000 ∧ Bd big p) ∧
  ∀ H' (m : Int), Same H H' → m ∈ ps.map (fun p => dotL p p) → (∀ p ∈ ps, dotL p p ≤ m) → Q (.int m) H'
theorem ok_longest {f : Addr} {fd : FuncData} (F : Fun K "longest_length" "longest_length" sLongest f fd) (D : Callee P w K mg base 2 "length" ["point"] (spLength K)) (mm : mg "max" = none) : FnOk P w K mg base CX0 3 f fd ["steps"] (spLongest K) := by
  refine F.ok scLongest (fun vs H Q E h => ?_) (fun cdv A outer s H vs Q E hr h => ?_)
  · obtain ⟨a, ps, rfl, _⟩ := h
    rfl
  · refine ⟨_, pss_one (ps_ret (pe_callB (cr_max rfl) (by rfl) mm (by decide +kernel) (pa_cons (pe_lc (own := [("step", 1)]) (g := gName 1) rfl scLongest.nd (pi_list (pv 0))
      (blkOk_by (N := ["steps", "step"]) (sc := defScope sLongest) (by decide +kernel))
      (fun _ _ _ _ _ => by exact pg_name (i := 1) scLongest.nd rfl (.inl rfl)) (fun _ _ _ _ _ => pts_nil)
      (fun _ _ _ _ _ => by exact pe_def D hr rfl (pa_cons (pv 1) pa_nil))) pa_nil))), ?_⟩
    obtain ⟨a, ps, rfl, ⟨as, has, hal, hap⟩, hne, hn, hB, k⟩ := h
    refine ⟨_, rfl, a, rfl, ⟨_, has⟩, lc_ints keep_same (walk_list (xs := as.map V.ref)) (ps.map fun p => dotL p p) (by simp [hal]) (fun H' r => r.seq has) (by rw [sizeLine_eq]; simp; omega) ?_ ?_⟩
    · rintro i x z H0 H' Qf hz r ⟨rfl, hx⟩ q
      obtain ⟨p, hp, rfl⟩ := map_get hz
      obtain ⟨ai, hai, rfl⟩ := map_get hx
      have hb := hB p (List.mem_of_getElem? hp)
      exact ⟨rfl, _, rfl, ai, p, rfl, r.seq (hap i ai p hai hp), hb.1, hb.2, fun H4 r4 => q H4 r4⟩
    · intro D' H' r hD e
      refine ⟨D', _, rfl, SqL.of e, ?_, fun m hm hle => k H' m r hm (fun p hp => hle _ (List.mem_map.mpr ⟨p, hp, rfl⟩))⟩
      cases ps with
      | nil => exact absurd rfl hne
      | cons p pr => simp
end
end Np
end
section
set_option maxRecDepth 100000
set_option maxHeartbeats 2000000
namespace Np
open PySem PySem.Spec PyProof.Rows L2
section
variable {P : Program} {w : World} {K : PySem.W.Frag} {mg : Str → Option Value} {base : Heap}
/-! ### refusal_of_told -/
abbrev nRef : List Str := ["plus", "minus", "count", "most", "number"]
theorem scRef : FnScope nRef ["plus", "minus", "count", "most"] (defScope sRefusal) :=
  ⟨rfl, rfl, rfl, by decide +kernel, rfl, by decide +kernel, by decide +kernel⟩
def refusalL (xs ys : List Int) (c m : Int) : Int := if (xs.length : Int) ≠ c ∨ (ys.length : Int) ≠ c then -3 else if (toldL xs ys).any (fun x => decide (m < if x < 0 then -x else x)) = true then -1 else 0
def spRef (K : PySem.W.Frag) : Sp := fun vs H Q _ => ∃ (a b : Addr) (xs ys : List Int) (c m : Int), vs = [.ref a, .ref b, .int c, .int m] ∧ SqL K H a (xs.map V.int) ∧ SqL K H b (ys.map V.int) ∧ xs.length ≤ 100000 ∧ ys.length ≤ 100000 ∧
  ∀ H', Same H H' → Q (.int (refusalL xs ys c m)) H'
theorem ok_ref {f : Addr} {fd : FuncData} (F : Fun K "refusal_of_told" "refusal_of_told" sRefusal f fd) (D : Callee P w K mg base 1 "told_numbers" ["plus", "minus"] (spTold K)) (ml : mg "len" = none) (ma : mg "abs" = none) (my : mg "any" = none)
    (mC : ∃ t, mg "WRONG_COUNT" = some (.int (-3) t)) (mN : ∃ t, mg "WRONG_NUMBER" = some (.int (-1) t)) : FnOk P w K mg base CX0 2 f fd ["plus", "minus", "count", "most"] (spRef K) := by
  obtain ⟨tC, mC⟩ := mC
  obtain ⟨tN, mN⟩ := mN
  refine F.ok scRef (fun vs H Q E h => ?_) (fun cdv A outer s H vs Q E hr h => ?_)
  · obtain ⟨a, b, xs, ys, c, m, rfl, _⟩ := h
    rfl
  · refine ⟨_, pss_cons (ps_if (PW.pt (pw_or (pt_cmpR op_ne (pe_callB call_len_seq (by rfl) ml PySem.boot_len (pa_cons (pv 0) pa_nil)) (pv 2) (nomark _)) (pw_or1 (pt_cmpR op_ne (pe_callB call_len_seq (by rfl) ml PySem.boot_len (pa_cons (pv 1) pa_nil)) (pv 2) (nomark _)))))
        (pss_one (ps_ret (pe_glob (v := .int (-3)) rfl mC ⟨_, rfl⟩))) pss_nil)
      (pss_cons (ps_if (pt_val (pe_callB (cr_any rfl) (by rfl) my (by decide +kernel) (pa_cons (pe_lc (own := [("number", 4)]) (g := gName 4) rfl scRef.nd (pi_list (pe_def D hr rfl (pa_cons (pv 0) (pa_cons (pv 1) pa_nil))))
          (blkOk_by (N := nRef) (sc := defScope sRefusal) (by decide +kernel))
          (fun _ _ _ _ _ => by exact pg_name (i := 4) scRef.nd rfl (.inl rfl)) (fun _ _ _ _ _ => pts_nil)
          (fun _ _ _ _ _ => pe_cmpR op_gt (pe_callB call_abs (by rfl) ma (by decide +kernel) (pa_cons (pv 4) pa_nil)) (pv 3) (nomark _))) pa_nil)))
        (pss_one (ps_ret (pe_glob (v := .int (-1)) rfl mN ⟨_, rfl⟩))) pss_nil)
      (pss_one (ps_ret pe_int))), ?_⟩
    obtain ⟨a, b, xs, ys, c, m, rfl, ha, hb, hx, hy, k⟩ := h
    have rest : (toldL xs ys).any (fun x => decide (m < if x < 0 then -x else x)) = (toldL xs ys).any (fun x => decide (m < if x < 0 then -x else x)) := rfl
    refine ⟨_, rfl, a, _, rfl, .inl ha, _, rfl, rfl, _, rfl, ?_⟩
    refine bIf (fun h1 => ?_) (fun h1 => ?_)
    · have e := int_ne.mp h1
      refine iteT ?_
      have := k H (keep_same.refl H)
      unfold refusalL at this
      rw [if_pos (.inl (by simpa using e))] at this
      exact this
    · have e1 := int_eq.mp h1
      refine ⟨_, rfl, b, _, rfl, .inl hb, _, rfl, rfl, _, rfl, ?_⟩
      refine bIf (fun h2 => ?_) (fun h2 => ?_)
      · have e := int_ne.mp h2
        have := k H (keep_same.refl H)
        unfold refusalL at this
        rw [if_pos (.inr (by simpa using e))] at this
        exact this
      · have e2 := int_eq.mp h2
        have hno : ¬ ((xs.length : Int) ≠ c ∨ (ys.length : Int) ≠ c) := by
          simp only [List.length_map] at e1 e2
          omega
        refine ⟨_, rfl, _, rfl, a, b, xs, ys, rfl, ha, hb, hx, fun H1 p r1 hp e => ?_⟩
        refine ⟨p, rfl, ⟨_, SqL.of e⟩, lc_vals keep_same (walk_list (xs := (toldL xs ys).map V.int)) ((toldL xs ys).map fun x => V.bl (decide (m < if x < 0 then -x else x))) (by simp) (fun H' r => r.seq (SqL.of e)) (by rw [sizeLine_eq]; simp [toldL]; omega) ?_ ?_⟩
        · rintro i x z H0 H' Qf hz r ⟨rfl, hx⟩ q
          obtain ⟨n, hn, rfl⟩ := map_get hz
          obtain ⟨n', hn', rfl⟩ := map_get hx
          rw [hn] at hn'
          cases hn'
          exact ⟨rfl, _, rfl, n, rfl, _, rfl, _, _, rfl, rfl, q _ (keep_same.refl _)⟩
        · intro D2 H4 r4 hD2 e4
          have s4 := keep_same.trans r1 r4
          refine ⟨D2, (toldL xs ys).map (fun x => decide (m < if x < 0 then -x else x)), rfl, SqL.of (by rw [e4]; simp [List.map_map, Function.comp_def]), _, rfl, ?_⟩
          have kk := k H4 s4
          unfold refusalL at kk
          rw [if_neg hno] at kk
          refine bIf (fun hh => ?_) (fun hh => ?_)
          · rw [if_pos (by rw [List.any_map] at hh; exact hh)] at kk
            exact kk
          · rw [if_neg (by rw [List.any_map] at hh; intro z; have : (toldL xs ys).any (id ∘ fun x => decide (m < if x < 0 then -x else x)) = true := z; rw [this] at hh; cases hh)] at kk
            exact kk
/-! ### content -/
theorem scContent : FnScope ["rows"] ["rows"] (defScope sContent) :=
  ⟨rfl, rfl, rfl, by decide +kernel, rfl, by decide +kernel, by decide +kernel⟩
/-- one, two or three rows of two or three numbers -/
inductive Few : List (List Int) → Int → Prop
  | one {p : List Int} (h : p.length = 2 ∨ p.length = 3) : Few [p] (Sq67.gcdAll p : Nat)
  | two2 (m : B2) : Few (b2 m) (m.det.natAbs : Nat)
  | two3 (u v : V3) : Few [l3 u, l3 v] (Sq67.gcdAll (crossL u v) : Nat)
  | three (m : B3) : Few (b3 m) (m.det.natAbs : Nat)
def spContent (K : PySem.W.Frag) : Sp := fun vs H Q _ => ∃ (a : Addr) (ps : List (List Int)) (r : Int), vs = [.ref a] ∧ Rows K H a ps ∧ Few ps r ∧ BdP lim ps ∧ ∀ H', Same H H' → Q (.int r) H'
theorem abs_nat (x : Int) : (if x < 0 then -x else x) = ((x.natAbs : Nat) : Int) := by split <;> omega
theorem ok_content {f : Addr} {fd : FuncData} (F : Fun K "content" "content" sContent f fd) (ml : mg "len" = none) (ma : mg "abs" = none) (T : Callee P w K mg base 3 "determinant" ["steps"] (spDet K))
    (C : Callee P w K mg base 1 "cross" ["one", "other"] (spCross K)) (G : Callee P w K mg base 1 "common_divisor" ["numbers"] (spDiv K)) : FnOk P w K mg base CX0 4 f fd ["rows"] (spContent K) := by
  refine F.ok scContent (fun vs H Q E h => ?_) (fun cdv A outer s H vs Q E hr h => ?_)
  · obtain ⟨a, ps, r, rfl, _⟩ := h
    rfl
  · refine ⟨_, pss_cons (ps_if (pt_cmpR op_eq (pe_callB call_len_seq (by rfl) ml PySem.boot_len (pa_cons (pv 0) pa_nil)) (pe_callB call_len_seq (by rfl) ml PySem.boot_len (pa_cons (pe_ix ix_list (pv 0) pe_int (fun _ _ => rfl)) pa_nil)) (nomark _))
        (pss_one (ps_ret (pe_callB call_abs (by rfl) ma (by decide +kernel) (pa_cons (pe_def T hr rfl (pa_cons (pv 0) pa_nil)) pa_nil)))) pss_nil)
      (pss_cons (ps_if (pt_cmpR op_eq (pe_callB call_len_seq (by rfl) ml PySem.boot_len (pa_cons (pv 0) pa_nil)) pe_int (nomark _))
        (pss_one (ps_ret (pe_def G (hr.mono (by decide)) rfl (pa_cons (pe_ix ix_list (pv 0) pe_int (fun _ _ => rfl)) pa_nil)))) pss_nil)
      (pss_one (ps_ret (pe_def G (hr.mono (by decide)) rfl (pa_cons (pe_def C (hr.mono (by decide)) rfl (pa_cons (pe_ix ix_list (pv 0) pe_int (fun _ _ => rfl)) (pa_cons (pe_ix ix_list (pv 0) pe_int (fun _ _ => rfl)) pa_nil))) pa_nil))))), ?_⟩
    obtain ⟨a, ps, r, rfl, hR, few, hB, k⟩ := h
    obtain ⟨as, has, hal, hap⟩ := id hR
    cases few with
    | one hp =>
      rename_i p
      obtain ⟨a0, rfl⟩ : ∃ a0, as = [a0] := by
        match as, hal with
        | [a0], _ => exact ⟨a0, rfl⟩
      have h0 := hap 0 a0 p rfl rfl
      refine ⟨_, rfl, a, _, rfl, .inl has, _, rfl, a, _, 0, .ref a0, rfl, rfl, has, atI_nat (j := 0) rfl, a0, _, rfl, .inl h0, rfl, _, rfl, ?_⟩
      refine bIf (fun hh => ?_) (fun _ => ?_)
      · have := of_decide_eq_true hh
        simp only [V.int.injEq, List.length_map, List.length_cons, List.length_nil] at this
        omega
      · refine ⟨_, rfl, a, _, rfl, .inl has, rfl, _, rfl, ?_⟩
        refine iteT ?_
        exact ⟨_, rfl, a, _, 0, .ref a0, rfl, rfl, has, atI_nat (j := 0) rfl, a0, p, rfl, h0, k H (keep_same.refl H)⟩
    | two2 m =>
      obtain ⟨a0, a1, rfl⟩ := get2 (l := as) hal
      have h0 := hap 0 a0 (l2 m.a) rfl rfl
      refine ⟨_, rfl, a, _, rfl, .inl has, _, rfl, a, _, 0, .ref a0, rfl, rfl, has, atI_nat (j := 0) rfl, a0, _, rfl, .inl h0, rfl, _, rfl, ?_⟩
      refine iteT ?_
      refine ⟨_, rfl, a, _, rfl, hR, .inl ⟨m, rfl⟩, hB, fun H1 r1 => ⟨_, rfl, ?_⟩⟩
      rw [detL2, abs_nat]
      exact k H1 r1
    | two3 u v =>
      obtain ⟨a0, a1, rfl⟩ := get2 (l := as) hal
      have h0 := hap 0 a0 (l3 u) rfl rfl
      have h1 := hap 1 a1 (l3 v) rfl rfl
      refine ⟨_, rfl, a, _, rfl, .inl has, _, rfl, a, _, 0, .ref a0, rfl, rfl, has, atI_nat (j := 0) rfl, a0, _, rfl, .inl h0, rfl, _, rfl, ?_⟩
      refine iteF ?_
      refine ⟨_, rfl, a, _, rfl, .inl has, rfl, _, rfl, ?_⟩
      refine iteF ?_
      refine ⟨_, rfl, a, _, 0, .ref a0, rfl, rfl, has, atI_nat (j := 0) rfl, _, rfl, a, _, 1, .ref a1, rfl, rfl, has, atI_nat (j := 1) rfl, a0, a1, u, v, rfl, h0, h1, Bd.mono lim_big (hB _ (by simp)), fun p hp => ?_⟩
      exact ⟨p, _, rfl, SqL.of upd_same, k _ (keep_same.new hp)⟩
    | three m =>
      obtain ⟨a0, a1, a2, rfl⟩ := get3 (l := as) hal
      have h0 := hap 0 a0 (l3 m.a) rfl rfl
      refine ⟨_, rfl, a, _, rfl, .inl has, _, rfl, a, _, 0, .ref a0, rfl, rfl, has, atI_nat (j := 0) rfl, a0, _, rfl, .inl h0, rfl, _, rfl, ?_⟩
      refine iteT ?_
      refine ⟨_, rfl, a, _, rfl, hR, .inr ⟨m, rfl⟩, hB, fun H1 r1 => ⟨_, rfl, ?_⟩⟩
      rw [detL3, abs_nat]
      exact k H1 r1
end
end Np
end
section
set_option maxHeartbeats 1000000
/-! Steps that no small sum shortens: their determinant's square is no less than a quarter of their lengths, times each other. -/
namespace Np
open V3
structure Sh3 (s : B3) : Prop where
  x : ∀ k, Small3 k → k.x ≠ 0 → V3.nrm s.a ≤ V3.nrm (s.pt k)
  y : ∀ k, Small3 k → k.y ≠ 0 → V3.nrm s.b ≤ V3.nrm (s.pt k)
  z : ∀ k, Small3 k → k.z ≠ 0 → V3.nrm s.c ≤ V3.nrm (s.pt k)
structure Sh2 (s : B2) : Prop where
  x : ∀ k, Small2 k → k.x ≠ 0 → V2.nrm s.a ≤ V2.nrm (s.pt k)
  y : ∀ k, Small2 k → k.y ≠ 0 → V2.nrm s.b ≤ V2.nrm (s.pt k)
theorem Mink3.sh {r : B3} (h : Mink3 r) : Sh3 r where
  x := fun k _ hk => h.m1 k (fun e => hk (by rw [e]; rfl))
  y := fun k _ hk => h.m2 k (.inl hk)
  z := fun k _ hk => h.m3 k hk
theorem Mink2.sh {r : B2} (h : Mink2 r) : Sh2 r where
  x := fun k _ hk => h.m1 k (fun e => hk (by rw [e]; rfl))
  y := fun k _ hk => h.m2 k hk
theorem gramDet3 (s : B3) : s.det * s.det = nrm s.a * nrm s.b * nrm s.c + 2 * dot s.a s.b * dot s.a s.c * dot s.b s.c
    - nrm s.a * (dot s.b s.c * dot s.b s.c) - nrm s.b * (dot s.a s.c * dot s.a s.c) - nrm s.c * (dot s.a s.b * dot s.a s.b) := by
  simp only [B3.det, V3.dot, V3.cross, V3.nrm]; grind
theorem gramDet2 (s : B2) : s.det * s.det = V2.nrm s.a * V2.nrm s.b - V2.dot s.a s.b * V2.dot s.a s.b := by
  simp only [B2.det, V2.dot, V2.crs, V2.nrm]; grind
/-- 4 x x at most A B -/
theorem sq_le_two {A B x : Int} (hA : 0 ≤ A) (a1 : -A ≤ 2 * x) (a2 : 2 * x ≤ A) (b1 : -B ≤ 2 * x) (b2 : 2 * x ≤ B) : 4 * (x * x) ≤ A * B := by
  rcases Int.le_total 0 x with h | h
  · have h1 : (2 * x) * (2 * x) ≤ A * (2 * x) := Int.mul_le_mul_of_nonneg_right a2 (by omega)
    have h2 : A * (2 * x) ≤ A * B := Int.mul_le_mul_of_nonneg_left b2 hA
    have e : (2 * x) * (2 * x) = 4 * (x * x) := by grind
    omega
  · have h1 : (-(2 * x)) * (-(2 * x)) ≤ A * (-(2 * x)) := Int.mul_le_mul_of_nonneg_right (by omega) (by omega)
    have h2 : A * (-(2 * x)) ≤ A * B := Int.mul_le_mul_of_nonneg_left (by omega) hA
    have e : (-(2 * x)) * (-(2 * x)) = 4 * (x * x) := by grind
    omega
/-- the sign is that of all three taken below 0: p, q, r their sizes; C the greatest -/
theorem gram_neg {A B C p q r : Int} (hA : 0 ≤ A) (hB : 0 ≤ B) (hAC : A ≤ C) (hBC : B ≤ C) (p0 : 0 ≤ p) (q0 : 0 ≤ q) (r0 : 0 ≤ r)
    (pA : 2 * p ≤ A) (pB : 2 * p ≤ B) (qA : 2 * q ≤ A) (rB : 2 * r ≤ B) (hs : 2 * (p + q + r) ≤ A + B) :
    A * B * C ≤ 4 * (A * B * C - 2 * (p * q * r) - A * (r * r) - B * (q * q) - C * (p * p)) := by
  have h1 : A * (2 * (r * r)) ≤ A * (B * r) := Int.mul_le_mul_of_nonneg_left (by have := Int.mul_le_mul_of_nonneg_right rB r0; grind) hA
  have h2 : B * (2 * (q * q)) ≤ B * (A * q) := Int.mul_le_mul_of_nonneg_left (by have := Int.mul_le_mul_of_nonneg_right qA q0; grind) hB
  have h3 : C * (2 * (p * p)) ≤ C * (A * p) := Int.mul_le_mul_of_nonneg_left (by have := Int.mul_le_mul_of_nonneg_right pA p0; grind) (by omega)
  have h4 : 4 * (p * q * r) ≤ p * A * B := by
    have a := Int.mul_le_mul_of_nonneg_left qA p0
    have b := Int.mul_le_mul_of_nonneg_right a (show 0 ≤ 2 * r by omega)
    have c := Int.mul_le_mul_of_nonneg_left rB (Int.mul_nonneg p0 hA)
    grind
  have hAB : 0 ≤ A * B := Int.mul_nonneg hA hB
  have h5 : A * B * (2 * (p + q + r)) ≤ A * B * (A + B) := Int.mul_le_mul_of_nonneg_left hs hAB
  have h6 : A * B * (A + B) ≤ A * B * (2 * C) := Int.mul_le_mul_of_nonneg_left (by omega) hAB
  have h7 : C * A * (2 * p) ≤ C * A * B := Int.mul_le_mul_of_nonneg_left pB (Int.mul_nonneg (by omega) hA)
  grind
theorem gram_pos {A B C x y z : Int} (hx : 4 * (x * x) ≤ A * B) (hy : 4 * (y * y) ≤ A * C) (hz : 4 * (z * z) ≤ B * C) (hA : 0 ≤ A) (hB : 0 ≤ B) (hC : 0 ≤ C) (h : 0 ≤ x * y * z) :
    A * B * C ≤ 4 * (A * B * C + 2 * x * y * z - A * (z * z) - B * (y * y) - C * (x * x)) := by
  have h1 := Int.mul_le_mul_of_nonneg_left hz hA
  have h2 := Int.mul_le_mul_of_nonneg_left hy hB
  have h3 := Int.mul_le_mul_of_nonneg_left hx hC
  grind
/-- the whole, by the Gram numbers -/
theorem gram_all {A B C x y z : Int} (hA : 0 ≤ A) (hB : 0 ≤ B) (hC : 0 ≤ C)
    (xA : -A ≤ 2 * x ∧ 2 * x ≤ A) (xB : -B ≤ 2 * x ∧ 2 * x ≤ B) (yA : -A ≤ 2 * y ∧ 2 * y ≤ A) (yC : -C ≤ 2 * y ∧ 2 * y ≤ C) (zB : -B ≤ 2 * z ∧ 2 * z ≤ B) (zC : -C ≤ 2 * z ∧ 2 * z ≤ C)
    (t1 : ∀ s t u : Int, (s = 1 ∨ s = -1) → (t = 1 ∨ t = -1) → (u = 1 ∨ u = -1) → 0 ≤ B + C + 2 * (s * t * x + s * u * y + t * u * z) ∧ 0 ≤ A + C + 2 * (s * t * x + s * u * y + t * u * z) ∧ 0 ≤ A + B + 2 * (s * t * x + s * u * y + t * u * z)) :
    A * B * C ≤ 4 * (A * B * C + 2 * x * y * z - A * (z * z) - B * (y * y) - C * (x * x)) := by
  have q1 := sq_le_two hA xA.1 xA.2 xB.1 xB.2
  have q2 := sq_le_two hA yA.1 yA.2 yC.1 yC.2
  have q3 := sq_le_two hB zB.1 zB.2 zC.1 zC.2
  rcases Int.lt_or_le (x * y * z) 0 with h | h
  · have key : ∃ p q r : Int, 0 ≤ p ∧ 0 ≤ q ∧ 0 ≤ r ∧ p * p = x * x ∧ q * q = y * y ∧ r * r = z * z ∧ x * y * z = -(p * q * r) ∧
        (2 * p ≤ A ∧ 2 * p ≤ B) ∧ (2 * q ≤ A ∧ 2 * q ≤ C) ∧ (2 * r ≤ B ∧ 2 * r ≤ C) ∧ (2 * (p + q + r) ≤ B + C ∧ 2 * (p + q + r) ≤ A + C ∧ 2 * (p + q + r) ≤ A + B) := by
      have P3 : ∀ a b c : Int, 0 ≤ a → 0 ≤ b → 0 ≤ c → 0 ≤ a * b * c := fun a b c h1 h2 h3 => Int.mul_nonneg (Int.mul_nonneg h1 h2) h3
      have N1 : ∀ a : Int, -a * -a = a * a := fun a => by grind
      rcases Int.le_total 0 x with hx | hx <;> rcases Int.le_total 0 y with hy | hy <;> rcases Int.le_total 0 z with hz | hz
      · have hp := P3 x y z hx hy hz
        omega
      · have := t1 (-1) 1 1 (by omega) (by omega) (by omega)
        exact ⟨x, y, -z, hx, hy, by omega, rfl, rfl, N1 z, by rw [Int.mul_neg]; omega, by omega, by omega, by omega, by omega⟩
      · have := t1 1 (-1) 1 (by omega) (by omega) (by omega)
        exact ⟨x, -y, z, hx, by omega, hz, rfl, N1 y, rfl, by rw [Int.mul_neg, Int.neg_mul]; omega, by omega, by omega, by omega, by omega⟩
      · have hp := P3 x (-y) (-z) hx (by omega) (by omega)
        rw [Int.mul_neg, Int.mul_neg, Int.neg_mul, Int.neg_neg] at hp
        omega
      · have := t1 1 1 (-1) (by omega) (by omega) (by omega)
        exact ⟨-x, y, z, by omega, hy, hz, N1 x, rfl, rfl, by rw [Int.neg_mul, Int.neg_mul]; omega, by omega, by omega, by omega, by omega⟩
      · have hp := P3 (-x) y (-z) (by omega) hy (by omega)
        rw [Int.mul_neg, Int.neg_mul, Int.neg_mul, Int.neg_neg] at hp
        omega
      · have hp := P3 (-x) (-y) z (by omega) (by omega) hz
        rw [Int.mul_neg, Int.neg_mul, Int.neg_mul, Int.neg_mul, Int.neg_neg] at hp
        omega
      · have := t1 1 1 1 (by omega) (by omega) (by omega)
        exact ⟨-x, -y, -z, by omega, by omega, by omega, N1 x, N1 y, N1 z, by rw [Int.mul_neg, Int.mul_neg, Int.neg_mul, Int.neg_mul, Int.neg_mul, Int.neg_neg]; omega, by omega, by omega, by omega, by omega⟩
    obtain ⟨p, q, r, p0, q0, r0, ep, eq, er, e3, hp, hq, hr, hs1, hs2, hs3⟩ := key
    have goal : ∀ {X : Int}, X = A * B * C - 2 * (p * q * r) - A * (r * r) - B * (q * q) - C * (p * p) → A * B * C ≤ 4 * X →
        A * B * C ≤ 4 * (A * B * C + 2 * x * y * z - A * (z * z) - B * (y * y) - C * (x * x)) := fun hX hle => by
      have : A * B * C + 2 * x * y * z - A * (z * z) - B * (y * y) - C * (x * x) = A * B * C - 2 * (p * q * r) - A * (r * r) - B * (q * q) - C * (p * p) := by
        rw [ep, eq, er]
        have : 2 * x * y * z = 2 * (x * y * z) := by grind
        rw [this, e3]; grind
      rw [this, ← hX]; exact hle
    rcases Int.le_total A C with ac | ac
    · rcases Int.le_total B C with bc | bc
      · exact goal rfl (gram_neg hA hB ac bc p0 q0 r0 hp.1 hp.2 hq.1 hr.1 hs3)
      · -- B greatest: in the place of C
        have := gram_neg (A := A) (B := C) (C := B) (p := q) (q := p) (r := r) hA hC (by omega) bc q0 p0 r0 hq.1 hq.2 hp.1 hr.2 (by omega)
        exact goal rfl (by grind)
    · rcases Int.le_total A B with ab | ab
      · have := gram_neg (A := A) (B := C) (C := B) (p := q) (q := p) (r := r) hA hC (by omega) (by omega) q0 p0 r0 hq.1 hq.2 hp.1 hr.2 (by omega)
        exact goal rfl (by grind)
      · have := gram_neg (A := B) (B := C) (C := A) (p := r) (q := p) (r := q) hB hC (by omega) (by omega) r0 p0 q0 hr.1 hr.2 hp.2 hq.2 (by omega)
        exact goal rfl (by grind)
  · exact gram_pos q1 q2 q3 hA hB hC h
theorem sm1 : Sm 1 := ⟨by decide, by decide⟩
theorem smN : Sm (-1) := ⟨by decide, by decide⟩
theorem sm0 : Sm 0 := ⟨by decide, by decide⟩
theorem sm_of {s : Int} (h : s = 1 ∨ s = -1) : Sm s := by rcases h with rfl | rfl; exact sm1; exact smN
theorem gram3 {s : B3} (h : Sh3 s) : V3.nrm s.a * V3.nrm s.b * V3.nrm s.c ≤ 4 * (s.det * s.det) := by
  rw [gramDet3]
  have hA := V3.nrm_nonneg s.a
  have hB := V3.nrm_nonneg s.b
  have hC := V3.nrm_nonneg s.c
  have ab1 := nrm_pt3 s ⟨1, 1, 0⟩
  have ab2 := nrm_pt3 s ⟨1, -1, 0⟩
  have ac1 := nrm_pt3 s ⟨1, 0, 1⟩
  have ac2 := nrm_pt3 s ⟨1, 0, -1⟩
  have bc1 := nrm_pt3 s ⟨0, 1, 1⟩
  have bc2 := nrm_pt3 s ⟨0, 1, -1⟩
  have x1 := h.x ⟨1, 1, 0⟩ ⟨sm1, sm1, sm0⟩ (by show (1 : Int) ≠ 0; decide)
  have x2 := h.x ⟨1, -1, 0⟩ ⟨sm1, smN, sm0⟩ (by show (1 : Int) ≠ 0; decide)
  have x3 := h.x ⟨1, 0, 1⟩ ⟨sm1, sm0, sm1⟩ (by show (1 : Int) ≠ 0; decide)
  have x4 := h.x ⟨1, 0, -1⟩ ⟨sm1, sm0, smN⟩ (by show (1 : Int) ≠ 0; decide)
  have y1 := h.y ⟨1, 1, 0⟩ ⟨sm1, sm1, sm0⟩ (by show (1 : Int) ≠ 0; decide)
  have y2 := h.y ⟨1, -1, 0⟩ ⟨sm1, smN, sm0⟩ (by show (-1 : Int) ≠ 0; decide)
  have y3 := h.y ⟨0, 1, 1⟩ ⟨sm0, sm1, sm1⟩ (by show (1 : Int) ≠ 0; decide)
  have y4 := h.y ⟨0, 1, -1⟩ ⟨sm0, sm1, smN⟩ (by show (1 : Int) ≠ 0; decide)
  have z1 := h.z ⟨1, 0, 1⟩ ⟨sm1, sm0, sm1⟩ (by show (1 : Int) ≠ 0; decide)
  have z2 := h.z ⟨1, 0, -1⟩ ⟨sm1, sm0, smN⟩ (by show (-1 : Int) ≠ 0; decide)
  have z3 := h.z ⟨0, 1, 1⟩ ⟨sm0, sm1, sm1⟩ (by show (1 : Int) ≠ 0; decide)
  have z4 := h.z ⟨0, 1, -1⟩ ⟨sm0, sm1, smN⟩ (by show (-1 : Int) ≠ 0; decide)
  simp only [Int.mul_one, Int.one_mul, Int.mul_zero, Int.zero_mul, Int.add_zero, Int.zero_add, Int.mul_neg, Int.neg_mul, Int.neg_neg, Int.neg_zero] at ab1 ab2 ac1 ac2 bc1 bc2
  refine gram_all hA hB hC (by omega) (by omega) (by omega) (by omega) (by omega) (by omega) ?_
  intro r t u hr ht hu
  have e := nrm_pt3 s ⟨r, t, u⟩
  have rr : r * r = 1 := by rcases hr with rfl | rfl <;> rfl
  have tt : t * t = 1 := by rcases ht with rfl | rfl <;> rfl
  have uu : u * u = 1 := by rcases hu with rfl | rfl <;> rfl
  simp only [rr, tt, uu, Int.one_mul] at e
  have r0 : r ≠ 0 := by omega
  have t0 : t ≠ 0 := by omega
  have u0 : u ≠ 0 := by omega
  have k1 := h.x ⟨r, t, u⟩ ⟨sm_of hr, sm_of ht, sm_of hu⟩ r0
  have k2 := h.y ⟨r, t, u⟩ ⟨sm_of hr, sm_of ht, sm_of hu⟩ t0
  have k3 := h.z ⟨r, t, u⟩ ⟨sm_of hr, sm_of ht, sm_of hu⟩ u0
  omega
theorem gram2 {s : B2} (h : Sh2 s) : V2.nrm s.a * V2.nrm s.b ≤ 4 * (s.det * s.det) := by
  rw [gramDet2]
  have hA := V2.nrm_nonneg s.a
  have hB := V2.nrm_nonneg s.b
  have ab1 := nrm_pt2 s ⟨1, 1⟩
  have ab2 := nrm_pt2 s ⟨1, -1⟩
  have x1 := h.x ⟨1, 1⟩ ⟨sm1, sm1⟩ (by show (1 : Int) ≠ 0; decide)
  have x2 := h.x ⟨1, -1⟩ ⟨sm1, smN⟩ (by show (1 : Int) ≠ 0; decide)
  have y1 := h.y ⟨1, 1⟩ ⟨sm1, sm1⟩ (by show (1 : Int) ≠ 0; decide)
  have y2 := h.y ⟨1, -1⟩ ⟨sm1, smN⟩ (by show (-1 : Int) ≠ 0; decide)
  simp only [Int.mul_one, Int.one_mul, Int.mul_zero, Int.zero_mul, Int.add_zero, Int.zero_add, Int.mul_neg, Int.neg_mul, Int.neg_neg, Int.neg_zero] at ab1 ab2
  have := sq_le_two hA (x := V2.dot s.a s.b) (A := V2.nrm s.a) (B := V2.nrm s.b) (by omega) (by omega) (by omega) (by omega)
  have := Int.mul_nonneg hA hB
  omega
theorem det_pos_of {A B C D : Int} (hA : 0 < A) (h : A * B * C ≤ 4 * D) (hBC : 0 ≤ B * C) {N : Int} (hN : N ≤ B * C) : N ≤ 4 * D := by
  have : 1 * (B * C) ≤ A * (B * C) := Int.mul_le_mul_of_nonneg_right (by omega) hBC
  have e : A * (B * C) = A * B * C := by grind
  omega
/-- no normal's length is above 4 times the determinant's square -/
theorem normals_le3 {s : B3} (h : Sh3 s) (hD : s.det ≠ 0) : V3.nrm (V3.cross s.b s.c) ≤ 4 * (s.det * s.det) ∧ V3.nrm (V3.cross s.c s.a) ≤ 4 * (s.det * s.det) ∧ V3.nrm (V3.cross s.a s.b) ≤ 4 * (s.det * s.det) := by
  have g := gram3 h
  have p : ∀ v : V3, v = V3.zero → V3.nrm v = 0 := fun v e => by rw [e]; rfl
  have dz : ∀ v : V3, V3.dot V3.zero v = 0 := fun v => by simp [V3.dot, V3.zero]
  have na : s.a ≠ V3.zero := fun e => hD (by rw [B3.det, e]; exact dz _)
  have nb : s.b ≠ V3.zero := fun e => hD (by rw [B3.det, e]; simp only [V3.dot, V3.cross, V3.zero]; grind)
  have nc : s.c ≠ V3.zero := fun e => hD (by rw [B3.det, e]; simp only [V3.dot, V3.cross, V3.zero]; grind)
  have hA := V3.nrm_pos na
  have hB := V3.nrm_pos nb
  have hC := V3.nrm_pos nc
  have lag : ∀ u v : V3, V3.nrm (V3.cross u v) ≤ V3.nrm u * V3.nrm v := fun u v => by
    have := V3.lagrange u v
    have := sq_nonneg (V3.dot u v)
    omega
  refine ⟨?_, ?_, ?_⟩
  · exact det_pos_of hA g (Int.mul_nonneg (by omega) (by omega)) (lag s.b s.c)
  · exact det_pos_of (B := V3.nrm s.c) (C := V3.nrm s.a) hB (Int.le_trans (Int.le_of_eq (by grind)) g) (Int.mul_nonneg (by omega) (by omega)) (lag s.c s.a)
  · exact det_pos_of (B := V3.nrm s.a) (C := V3.nrm s.b) hC (Int.le_trans (Int.le_of_eq (by grind)) g) (Int.mul_nonneg (by omega) (by omega)) (lag s.a s.b)
theorem normals_le2 {s : B2} (h : Sh2 s) (hD : s.det ≠ 0) : V2.nrm s.b ≤ 4 * (s.det * s.det) ∧ V2.nrm s.a ≤ 4 * (s.det * s.det) := by
  have g := gram2 h
  have na : s.a ≠ V2.zero := fun e => hD (by rw [B2.det, e]; simp only [V2.crs, V2.zero]; grind)
  have nb : s.b ≠ V2.zero := fun e => hD (by rw [B2.det, e]; simp only [V2.crs, V2.zero]; grind)
  have hA := V2.nrm_pos na
  have hB := V2.nrm_pos nb
  have h1 : 1 * V2.nrm s.b ≤ V2.nrm s.a * V2.nrm s.b := Int.mul_le_mul_of_nonneg_right (by omega) (by omega)
  have h2 : V2.nrm s.a * 1 ≤ V2.nrm s.a * V2.nrm s.b := Int.mul_le_mul_of_nonneg_left (by omega) (by omega)
  omega
end Np
end
section
set_option maxRecDepth 100000
set_option maxHeartbeats 2000000
namespace Np
open PySem PySem.Spec PyProof.Rows L2
abbrev sLeft : Stmt := top 6
abbrev sLead : Stmt := top 11
abbrev sNumN : Stmt := top 16
def leftL (xs : List Int) (q : Int) (ys : List Int) : List Int := (xs.zip ys).map fun x => x.1 - q * x.2
section
variable {P : Program} {w : World} {K : PySem.W.Frag} {mg : Str → Option Value} {base : Heap}
/-! ### left_over -/
abbrev nLeft : List Str := ["told", "q", "point", "whole", "number"]
theorem scLeft : FnScope nLeft ["told", "q", "point"] (defScope sLeft) :=
  ⟨rfl, rfl, rfl, by decide +kernel, rfl, by decide +kernel, by decide +kernel⟩
def spLeft (K : PySem.W.Frag) : Sp := fun vs H Q _ => ∃ (a b : Addr) (xs ys : List Int) (q : Int), vs = [.ref a, .int q, .ref b] ∧ SqL K H a (xs.map V.int) ∧ SqL K H b (ys.map V.int) ∧
  xs.length ≤ 100000 ∧ (-big ≤ q ∧ q ≤ big) ∧ ∀ H' p, Same H H' → H p = none → H' p = some (.lst ((leftL xs q ys).map V.int)) → Q (.ref p) H'
theorem ok_left {f : Addr} {fd : FuncData} (F : Fun K "left_over" "left_over" sLeft f fd) (mz : mg "zip" = none) : FnOk P w K mg base CX0 1 f fd ["told", "q", "point"] (spLeft K) := by
  refine F.ok scLeft (fun vs H Q E h => ?_) (fun cdv A outer s H vs Q E hr h => ?_)
  · obtain ⟨a, b, xs, ys, q, rfl, _⟩ := h
    rfl
  · refine ⟨_, pss_one (ps_ret (pe_lc (own := [("whole", 3), ("number", 4)]) (g := gTup K 2 (gCons (gName 3) (gCons (gName 4) gNil))) rfl scLeft.nd
      (pi_zip (by rfl) mz (pa_cons (pv 0) (pa_cons (pv 2) pa_nil)))
      (blkOk_by (N := nLeft) (sc := defScope sLeft) (by decide +kernel))
      (fun _ _ _ _ _ => by exact pg_tup rfl (pgs_cons (pg_name (i := 3) scLeft.nd rfl (.inl rfl)) (pgs_cons (pg_name (i := 4) scLeft.nd rfl (.inl rfl)) pgs_nil)))
      (fun _ _ _ _ _ => pts_nil)
      (fun _ _ _ _ _ => pe_op op_sub (pv 3) (pe_op op_mul (pv 1) (pv 4))))), ?_⟩
    obtain ⟨a, b, xs, ys, q, rfl, ha, hb, hn, hq, k⟩ := h
    refine ⟨_, rfl, _, rfl, a, b, _, _, rfl, ha, hb, lc_ints keep_same (walk_zip (n := (leftL xs q ys).length) (xs := xs.map V.int) (ys := ys.map V.int) (by simp [leftL])) (leftL xs q ys) rfl
      (fun H' r => ⟨r.seq ha, r.seq hb⟩) (by rw [sizeLine_eq]; simp [leftL]; omega) ?_ ?_⟩
    · rintro i v z H0 H' Qf hz r ⟨T, x, y, rfl, nT, rfl, hx, hy⟩ q
      obtain ⟨p, hp, rfl⟩ := map_get hz
      obtain ⟨x', hx', rfl⟩ := map_get hx
      obtain ⟨y', hy', rfl⟩ := map_get hy
      have : p = (x', y') := by
        have := List.getElem?_zip_eq_some.mp hp
        rw [hx', hy'] at this
        exact Prod.ext (Option.some.inj this.1).symm (Option.some.inj this.2).symm
      subst this
      exact ⟨T, _, rfl, SqT.of upd_same, rfl, _, _, rfl, _, _, rfl, rfl, rfl, _, rfl, _, rfl, _, rfl, _, _, rfl, rfl, .inl (mul_ok hq), _, _, rfl, rfl, q _ (keep_same.new nT)⟩
    · intro D H' r hD e
      exact k H' D r hD e
/-! ### numbers_near -/
theorem fdiv_rem (w : Int) {p : Int} (hp : p ≠ 0) : (0 < p ∧ 0 ≤ w - p * w.fdiv p ∧ w - p * w.fdiv p < p) ∨ (p < 0 ∧ w - p * w.fdiv p ≤ 0 ∧ p < w - p * w.fdiv p) := by
  have e := Int.mul_fdiv_add_fmod w p
  rcases Int.lt_or_le 0 p with h | h
  · have h1 := Int.fmod_lt_of_pos w h
    have h2 := Int.fmod_nonneg_of_pos w h
    exact .inl ⟨h, by omega, by omega⟩
  · have h1 := Int.fmod_lt_of_pos (-w) (b := -p) (by omega)
    have h2 := Int.fmod_nonneg_of_pos (-w) (b := -p) (by omega)
    rw [Int.neg_fmod_neg] at h1 h2
    exact .inr ⟨by omega, by omega, by omega⟩
theorem sq_mono {a b : Int} (h : (0 ≤ a ∧ a ≤ b) ∨ (b ≤ a ∧ a ≤ 0)) : a * a ≤ b * b := by
  rcases h with ⟨h1, h2⟩ | ⟨h1, h2⟩
  · exact sq_le_of (by omega) h2
  · have := sq_le_of (a := a) (m := -b) (by omega) (by omega)
    have e : -b * -b = b * b := by rw [Int.neg_mul_neg]
    omega
theorem mul_succ_le {p a b : Int} (hp : 0 < p) (h : a ≤ b) : p * a ≤ p * b := Int.mul_le_mul_of_nonneg_left h (by omega)
/-- what is further down than the quotient is further off -/
theorem far_down {w p : Int} (hp : p ≠ 0) {z z' : Int} (h1 : z' ≤ z) (h2 : z ≤ w.fdiv p) : (w - p * z) * (w - p * z) ≤ (w - p * z') * (w - p * z') := by
  apply sq_mono
  rcases fdiv_rem w hp with ⟨g, a, b⟩ | ⟨g, a, b⟩
  · have := mul_succ_le g h1; have := mul_succ_le g h2
    left; omega
  · have := mul_succ_le (p := -p) (by omega) h1; have := mul_succ_le (p := -p) (by omega) h2
    rw [Int.neg_mul, Int.neg_mul] at *
    right; omega
theorem far_up {w p : Int} (hp : p ≠ 0) {z z' : Int} (h1 : z ≤ z') (h2 : w.fdiv p + 1 ≤ z) : (w - p * z) * (w - p * z) ≤ (w - p * z') * (w - p * z') := by
  apply sq_mono
  rcases fdiv_rem w hp with ⟨g, a, b⟩ | ⟨g, a, b⟩
  · have := mul_succ_le g h1; have := mul_succ_le g h2
    rw [Int.mul_add] at this
    right; omega
  · have := mul_succ_le (p := -p) (by omega) h1; have := mul_succ_le (p := -p) (by omega) h2
    rw [Int.mul_add] at this
    simp only [Int.neg_mul] at *
    left; omega
/-- (whole - part z) squared is no more than most -/
abbrev Near (w p M z : Int) : Prop := (w - p * z) * (w - p * z) ≤ M
def spNumN : Sp := fun vs H Q _ => ∃ (w p M : Int) (N : Int), vs = [.int w, .int p, .int M] ∧ p ≠ 0 ∧ (-1000000 ≤ p ∧ p ≤ 1000000) ∧ (-1000000000 ≤ w ∧ w ≤ 1000000000) ∧ (0 ≤ N ∧ N ≤ 1000000) ∧ (∀ z, Near w p M z → -N ≤ z ∧ z ≤ N) ∧
  ∀ H' l (zs : List Int), Same H H' → H l = none → H' l = some (.lst (zs.map V.int)) → (∀ z, z ∈ zs ↔ Near w p M z) → zs.Pairwise (· < ·) → Q (.ref l) H'
abbrev nNumN : List Str := ["whole", "part", "most", "lowest", "highest"]
theorem scNumN : FnScope nNumN ["whole", "part", "most"] (defScope sNumN) :=
  ⟨rfl, rfl, rfl, by decide +kernel, rfl, by decide +kernel, by decide +kernel⟩
theorem pow2 (x : Int) : x ^ (2 : Int).toNat = x * x := by
  show x ^ 2 = x * x
  rw [Int.pow_succ, Int.pow_succ, Int.pow_zero, Int.one_mul]
theorem rgV_eq (a b : Int) : rgV a b = ((List.range (b - a).toNat).map fun (i : Nat) => a + (i : Int)).map V.int := by
  simp [rgV, List.map_map, Function.comp_def]
/-- the walks: from where they begin on, to the first that is too far -/
theorem ok_numN {f : Addr} {fd : FuncData} (F : Fun K "numbers_near" "numbers_near" sNumN f fd) (mr : mg "range" = none) (mli : mg "list" = none) : FnOk P w K mg base CX0 1 f fd ["whole", "part", "most"] spNumN := by
  refine F.ok scNumN (fun vs H Q E h => ?_) (fun cdv A outer s H vs Q E hr h => ?_)
  · obtain ⟨w, p, M, N, rfl, _⟩ := h
    rfl
  · refine ⟨_, pss_cons (ps_set (i := 3) scNumN.nd rfl (.inl rfl) (pe_op op_add (pe_op op_fdivN (pv 0) (pv 1)) pe_int))
      (pss_cons (ps_while PassesOwn.never (pt_cmpR op_le (pe_op op_pow (pe_op op_sub (pv 0) (pe_op op_mul (pv 1) (pe_op op_sub (pv 3) pe_int))) pe_int) (pv 2) (nomark _))
        (pss_one (ps_aug (i := 3) scNumN.nd rfl (.inl rfl) pe_int ip_sub)))
      (pss_cons (ps_set (i := 4) scNumN.nd rfl (.inl rfl) (pe_op op_fdivN (pv 0) (pv 1)))
      (pss_cons (ps_while PassesOwn.never (pt_cmpR op_le (pe_op op_pow (pe_op op_sub (pv 0) (pe_op op_mul (pv 1) (pe_op op_add (pv 4) pe_int))) pe_int) (pv 2) (nomark _))
        (pss_one (ps_aug (i := 4) scNumN.nd rfl (.inl rfl) pe_int ip_add)))
      (pss_one (ps_ret (pe_listRg rfl (by rfl) mli (prg_2 (by rfl) mr (pv 3) (pe_op op_add (pv 4) pe_int)))))))), ?_⟩
    obtain ⟨w, p, M, N, rfl, hp, hpb, hwb, hN, hz, k⟩ := h
    have pow_ok : ∀ z : Int, -1000001001 ≤ z ∧ z ≤ 1000001001 → (w - p * z).natAbs < 2 ^ 64 := fun z hz => by
      have := bd_mul (M := 1000000) (N := 1000001001) hpb hz
      omega
    have hfd : -1000000000 ≤ w.fdiv p ∧ w.fdiv p ≤ 1000000000 := by
      have h1 : 0 ≤ 1000000000 - w.fdiv p := by
        rcases fdiv_rem w hp with ⟨g, a, b⟩ | ⟨g, a, b⟩
        · rcases Int.lt_or_le 1000000000 (w.fdiv p) with c | c
          · have := mul_succ_le g (show 1000000001 ≤ w.fdiv p by omega)
            have : 1000000001 * 1 ≤ p * 1000000001 := by omega
            omega
          · omega
        · rcases Int.lt_or_le 1000000000 (w.fdiv p) with c | c
          · have := mul_succ_le (p := -p) (by omega) (show 1000000001 ≤ w.fdiv p by omega)
            rw [Int.neg_mul, Int.neg_mul] at this
            omega
          · omega
      have h2 : 0 ≤ 1000000000 + w.fdiv p := by
        rcases fdiv_rem w hp with ⟨g, a, b⟩ | ⟨g, a, b⟩
        · rcases Int.lt_or_le (w.fdiv p) (-1000000000) with c | c
          · have := mul_succ_le g (show w.fdiv p ≤ -1000000001 by omega)
            omega
          · omega
        · rcases Int.lt_or_le (w.fdiv p) (-1000000000) with c | c
          · have := mul_succ_le (p := -p) (by omega) (show w.fdiv p ≤ -1000000001 by omega)
            rw [Int.neg_mul, Int.neg_mul] at this
            omega
          · omega
      omega
    generalize hd : w.fdiv p = d at *
    have dz : p ≠ 0 ∧ p.natAbs < 1073741824 := ⟨hp, by omega⟩
    refine ⟨_, rfl, _, rfl, _, _, rfl, rfl, dz, _, _, rfl, rfl, ?_⟩
    rw [hd]
    refine ⟨fun m σ H' => H' = H ∧ ∃ lo : Int, σ = [some (.int w), some (.int p), some (.int M), some (.int lo), none] ∧ lo ≤ d + 1 ∧ (∀ z, lo ≤ z → z ≤ d → Near w p M z) ∧ m = (lo + N + 1000000002).toNat ∧ -1000001000 ≤ lo,
      ⟨_, rfl, d + 1, rfl, by omega, fun z h1 h2 => by omega, rfl, by omega⟩, ?_⟩
    rintro m σ H' ⟨rfl, lo, rfl, hlo, hall, rfl, hlb⟩
    refine ⟨_, rfl, _, rfl, _, rfl, _, _, rfl, rfl, _, _, rfl, rfl, .inl (by omega), _, _, rfl, rfl, _, _, rfl, rfl, ⟨by decide, by decide, pow_ok _ (by omega)⟩, _, rfl, _, _, rfl, rfl, _, rfl, ?_⟩
    rw [pow2]
    refine bIf (fun hh => ?_) (fun hh => ?_)
    · have hn : Near w p M (lo - 1) := of_decide_eq_true hh
      have := hz _ hn
      refine ⟨fun σ' H'' => H'' = H' ∧ σ' = [some (.int w), some (.int p), some (.int M), some (.int (lo - 1)), none], ?_, _, rfl, _, _, rfl, rfl, rfl, rfl⟩
      rintro σ' H'' ⟨rfl, rfl⟩
      refine ⟨_, ?_, rfl, lo - 1, rfl, by omega, fun z h1 h2 => ?_, rfl, by omega⟩
      · omega
      · rcases Int.lt_or_le z lo with g | g
        · have : z = lo - 1 := by omega
          rw [this]; exact hn
        · exact hall z g h2
    · have hno : ¬ Near w p M (lo - 1) := of_decide_eq_false hh
      have down : ∀ z, Near w p M z → z ≤ d → lo ≤ z := fun z h1 h2 => by
        rcases Int.lt_or_le z lo with g | g
        · exact absurd (Int.le_trans (far_down hp (z := lo - 1) (z' := z) (by omega) (by rw [hd]; omega)) h1) hno
        · exact g
      refine ⟨_, rfl, _, rfl, _, _, rfl, rfl, dz, ?_⟩
      refine ⟨fun m σ H'' => H'' = H' ∧ ∃ hi : Int, σ = [some (.int w), some (.int p), some (.int M), some (.int lo), some (.int hi)] ∧ d ≤ hi ∧ (∀ z, d < z → z ≤ hi → Near w p M z) ∧ m = (1000000002 + N - hi).toNat ∧ hi ≤ 1000001000,
        ⟨_, rfl, d, by rw [← hd]; rfl, by omega, fun z h1 h2 => by omega, rfl, by omega⟩, ?_⟩
      rintro m σ H'' ⟨rfl, hi, rfl, hhi, hall2, rfl, hhb⟩
      refine ⟨_, rfl, _, rfl, _, rfl, _, _, rfl, rfl, _, _, rfl, rfl, .inl (by omega), _, _, rfl, rfl, _, _, rfl, rfl, ⟨by decide, by decide, pow_ok _ (by omega)⟩, _, rfl, _, _, rfl, rfl, _, rfl, ?_⟩
      rw [pow2]
      refine bIf (fun hh2 => ?_) (fun hh2 => ?_)
      · have hn : Near w p M (hi + 1) := of_decide_eq_true hh2
        have := hz _ hn
        refine ⟨fun σ' H3 => H3 = H'' ∧ σ' = [some (.int w), some (.int p), some (.int M), some (.int lo), some (.int (hi + 1))], ?_, _, rfl, _, _, rfl, rfl, rfl, rfl⟩
        rintro σ' H3 ⟨rfl, rfl⟩
        refine ⟨_, ?_, rfl, hi + 1, rfl, by omega, fun z h1 h2 => ?_, rfl, by omega⟩
        · omega
        · rcases Int.lt_or_le hi z with g | g
          · have : z = hi + 1 := by omega
            rw [this]; exact hn
          · exact hall2 z h1 g
      · have hno2 : ¬ Near w p M (hi + 1) := of_decide_eq_false hh2
        have up : ∀ z, Near w p M z → d < z → z ≤ hi := fun z h1 h2 => by
          rcases Int.lt_or_le hi z with g | g
          · exact absurd (Int.le_trans (far_up hp (z := hi + 1) (z' := z) (by omega) (by rw [hd]; omega)) h1) hno2
          · exact g
        have hsz : (hi + 1 - lo).toNat ≤ 2 * N.toNat + 2 := by
          rcases Int.lt_or_le hi lo with g | g
          · omega
          · have a1 : Near w p M lo := by
              rcases Int.lt_or_le d lo with c | c
              · exact hall2 lo c g
              · exact hall lo (by omega) c
            have a2 : Near w p M hi := by
              rcases Int.lt_or_le d hi with c | c
              · exact hall2 hi c (by omega)
              · exact hall hi g c
            have := hz _ a1
            have := hz _ a2
            omega
        refine ⟨_, rfl, _, rfl, _, _, rfl, rfl, _, _, rfl, rfl, ⟨by omega, by omega, by omega, by omega, by omega⟩, fun l hl => ?_⟩
        refine k _ l _ (keep_same.new hl) hl (by rw [upd_same, rgV_eq]) (fun z => ?_) ?_
        · rw [List.mem_map]
          constructor
          · rintro ⟨i, hi', rfl⟩
            rw [List.mem_range] at hi'
            rcases Int.lt_or_le d (lo + i) with c | c
            · exact hall2 _ c (by omega)
            · exact hall _ (by omega) c
          · intro hn
            have hlo' : lo ≤ z := by
              rcases Int.lt_or_le d z with c | c
              · omega
              · exact down z hn c
            have hhi' : z ≤ hi := by
              rcases Int.lt_or_le d z with c | c
              · exact up z hn c
              · omega
            exact ⟨(z - lo).toNat, by rw [List.mem_range]; omega, by omega⟩
        · rw [List.pairwise_map]
          exact List.Pairwise.imp (fun h => by omega) (List.pairwise_lt_range)
end
end Np
end
section
set_option maxRecDepth 100000
set_option maxHeartbeats 2000000
namespace Np
open PySem PySem.Spec PyProof.Rows L2
/-! ### lead_to_the_same -/
def leadB (ps qs : List (List Int)) : Bool := if qs.any (fun q => (takenV ps q).isNone) = true then false else decide ((detL ps).natAbs = (detL qs).natAbs)
def spLead (K : PySem.W.Frag) : Sp := fun vs H Q _ => ∃ (a b : Addr) (ps qs : List (List Int)), vs = [.ref a, .ref b] ∧ Rows K H a ps ∧ Rows K H b qs ∧ Dm ps ∧ Dm qs ∧ BdP lim ps ∧ BdP lim qs ∧ qs.length = ps.length ∧
  detL ps ≠ 0 ∧ (detL ps).natAbs < 1073741824 ∧ ∀ H', Same H H' → Q (.bl (leadB ps qs)) H'
section
variable {P : Program} {w : World} {K : PySem.W.Frag} {mg : Str → Option Value} {base : Heap}
abbrev nLead : List Str := ["steps", "others", "other"]
theorem scLead : FnScope nLead ["steps", "others"] (defScope sLead) :=
  ⟨rfl, rfl, rfl, by decide +kernel, rfl, by decide +kernel, by decide +kernel⟩
theorem dm_len {ps : List (List Int)} (h : Dm ps) : (∀ p ∈ ps, p.length = ps.length) ∧ (ps.length = 2 ∨ ps.length = 3) := by
  rcases h with ⟨m, rfl⟩ | ⟨m, rfl⟩
  · refine ⟨fun p hp => ?_, .inl rfl⟩
    simp only [b2, List.mem_cons, List.not_mem_nil, or_false] at hp
    rcases hp with rfl | rfl <;> rfl
  · refine ⟨fun p hp => ?_, .inr rfl⟩
    simp only [b3, List.mem_cons, List.not_mem_nil, or_false] at hp
    rcases hp with rfl | rfl | rfl <;> rfl
theorem ok_lead {f : Addr} {fd : FuncData} (F : Fun K "lead_to_the_same" "lead_to_the_same" sLead f fd) (T : Callee P w K mg base 3 "determinant" ["steps"] (spDet K)) (Tk : Callee P w K mg base 4 "times_taken" ["steps", "point"] (spTaken K))
    (ma : mg "any" = none) (mb : mg "abs" = none) : FnOk P w K mg base CX0 5 f fd ["steps", "others"] (spLead K) := by
  refine F.ok scLead (fun vs H Q E h => ?_) (fun cdv A outer s H vs Q E hr h => ?_)
  · obtain ⟨a, b, ps, qs, rfl, _⟩ := h
    rfl
  · refine ⟨_, pss_cons (ps_if (pt_val (pe_callB (cr_any rfl) (by rfl) ma (by decide +kernel) (pa_cons (pe_lc (own := [("other", 2)]) (g := gName 2) rfl scLead.nd (pi_list (pv 1))
          (blkOk_by (N := nLead) (sc := defScope sLead) (by decide +kernel))
          (fun _ _ _ _ _ => by exact pg_name (i := 2) scLead.nd rfl (.inl rfl)) (fun _ _ _ _ _ => pts_nil)
          (fun _ _ _ _ _ => by exact pe_cmp (pc_isN (pe_def Tk hr rfl (pa_cons (pv 0) (pa_cons (pv 2) pa_nil)))) rfl)) pa_nil))) (pss_one (ps_ret pe_bl)) pss_nil)
      (pss_one (ps_ret (pe_cmpR op_eq (pe_callB call_abs (by rfl) mb (by decide +kernel) (pa_cons (pe_def T (hr.mono (by decide)) rfl (pa_cons (pv 0) pa_nil)) pa_nil))
        (pe_callB call_abs (by rfl) mb (by decide +kernel) (pa_cons (pe_def T (hr.mono (by decide)) rfl (pa_cons (pv 1) pa_nil)) pa_nil)) (nomark _)))), ?_⟩
    obtain ⟨a, b, ps, qs, rfl, ha, hb, hd, hd2, hB, hB2, hl, h0, hs, k⟩ := h
    obtain ⟨bs, hbs, hbl, hbp⟩ := id hb
    obtain ⟨d1, d2⟩ := dm_len hd2
    refine ⟨_, rfl, b, rfl, ⟨_, hbs⟩, lc_vals keep_same (walk_list (xs := bs.map V.ref)) (qs.map fun q => V.bl (takenV ps q).isNone) (by simp [hbl]) (fun H' r => r.seq hbs) (by rw [sizeLine_eq]; simp; omega) ?_ ?_⟩
    · rintro i x z H0 H' Qf hz r ⟨rfl, hx⟩ q
      obtain ⟨n, hn, rfl⟩ := map_get hz
      obtain ⟨ni, hni, rfl⟩ := map_get hx
      refine ⟨rfl, _, rfl, _, rfl, a, ni, ps, n, rfl, Rows.keep keep_same r ha, r.seq (hbp i ni n hni hn), hd, hB, ?_, h0, hs, fun e H4 r4 => ?_, fun us e H4 p r4 hp e4 => ?_⟩
      · rw [d1 n (List.mem_of_getElem? hn), hl]
      · have := q H4 r4
        rw [e] at this
        exact this
      · have := q H4 r4
        rw [e] at this
        exact this
    · intro D H1 r1 hD e1
      refine ⟨D, qs.map fun q => (takenV ps q).isNone, rfl, SqL.of (by rw [e1]; simp [List.map_map, Function.comp_def]), _, rfl, ?_⟩
      refine bIf (fun hh => ?_) (fun hh => ?_)
      · have := k H1 r1
        unfold leadB at this
        rw [if_pos (by rw [List.any_map] at hh; exact hh)] at this
        exact this
      · refine ⟨_, rfl, a, ps, rfl, Rows.keep keep_same r1 ha, hd, hB, fun H2 r2 => ⟨_, rfl, _, rfl, b, qs, rfl, Rows.keep keep_same (keep_same.trans r1 r2) hb, hd2, hB2, fun H3 r3 => ⟨_, rfl, rfl, ?_⟩⟩⟩
        have := k H3 (keep_same.trans r1 (keep_same.trans r2 r3))
        unfold leadB at this
        rw [if_neg (by rw [List.any_map] at hh; intro z; have : qs.any (id ∘ fun q => (takenV ps q).isNone) = true := z; rw [this] at hh; cases hh)] at this
        rw [abs_nat, abs_nat]
        have e : decide ((detL ps).natAbs = (detL qs).natAbs) = decide (V.int ((detL ps).natAbs : Nat) = V.int ((detL qs).natAbs : Nat)) := by
          apply decide_eq_decide.mpr
          constructor
          · intro h; rw [h]
          · intro h; injection h with h; omega
        rw [e] at this
        exact this
end
end Np
end
section
set_option maxRecDepth 100000
set_option maxHeartbeats 2000000
/-! Comprehensions whose items are lists of whole numbers: new ones, or picked ones. -/
namespace Np
open PySem PySem.Spec PyProof.Rows L2
theorem rows_of_get {H : Hp} {D : Addr} {Rl : Nat → List Int → Prop} : ∀ (us : List V) (k : Nat), (∀ i v, us[i]? = some v → ∃ (b : Addr) (z : List Int), v = V.ref b ∧ b ≠ D ∧ H b = some (.lst (z.map V.int)) ∧ Rl (k + i) z) →
    ∃ (as : List Addr) (cs : List (List Int)), us = as.map V.ref ∧ as.length = cs.length ∧ (∀ (i : Nat) (b : Addr) (p : List Int), as[i]? = some b → cs[i]? = some p → H b = some (.lst (p.map V.int))) ∧ ∀ i p, cs[i]? = some p → Rl (k + i) p
  | [], k, _ => ⟨[], [], rfl, rfl, fun i b p e => by simp at e, fun i p e => by simp at e⟩
  | u :: us, k, h => by
    obtain ⟨b, z, rfl, _, hb, hz⟩ := h 0 u rfl
    obtain ⟨as, cs, rfl, hl, h1, h2⟩ := rows_of_get us (k + 1) (fun i v e => by
      have := h (i + 1) v (by simpa using e)
      rw [show k + 1 + i = k + (i + 1) by omega]; exact this)
    refine ⟨b :: as, z :: cs, rfl, by simp [hl], fun i b' p' e1 e2 => ?_, fun i p' e => ?_⟩
    · cases i with
      | zero => cases e1; cases e2; exact hb
      | succ i => exact h1 i b' p' (by simpa using e1) (by simpa using e2)
    · cases i with
      | zero => cases e; exact hz
      | succ i =>
        have := h2 i p' (by simpa using e)
        rw [show k + 1 + i = k + (i + 1) by omega] at this; exact this
/-- new lists, one a turn, of which Rl tells -/
theorem lc_new {R : Hp → Hp → Prop} (kp : Keep R) {J : It} {n : Nat} {G : Hp → Prop} {Y : Nat → Hp → V → Hp → Prop} (w : Walk J n G Y) {g : TG} {te : TE} {vs : List Nat} {σ : L2.St} {H : Hp} {Qd : Addr → Hp → Prop}
    (Rl : Nat → List Int → Prop) (hG : ∀ H', R H H' → G H') (hn : n < sizeLine)
    (hs : ∀ i x H0 H' (Qf : VK), i < n → R H H0 → Y i H0 x H' → (∀ z b H4, Rl i z → R H0 H4 → H0 b = none → H4 b = some (.lst (z.map V.int)) → Qf (.ref b) H4) →
      g x (wipe σ vs) H' fun σ2 H2 => wipe σ2 vs = wipe σ vs ∧ te σ2 H2 Qf)
    (hd : ∀ D H' (cs : List (List Int)), R H H' → H D = none → cs.length = n → (∀ i z, cs[i]? = some z → Rl i z) → RowsH H' D cs → Qd D H') :
    ∀ D, H D = none → ∃ W : Nat → Nat → Hp → Prop, (∃ m, W 0 m (upd H D (.lst []))) ∧ ∀ i m H, W i m H →
      (J.stop i H ∧ Qd D H) ∨ (J.go i H ∧ ∃ Nx : Hp → Prop, (∀ H', Nx H' → ∃ m', m' < m ∧ W (i + 1) m' H') ∧ ∀ x H', J.yld i H x H' → g x (wipe σ vs) H' fun σ2 H2 => wipe σ2 vs = wipe σ vs ∧ tYes σ2 H2 fun b H3 =>
        if b = true then te σ2 H3 fun y H4 => ∃ acc, H4 D = some (.lst acc) ∧ acc.length < sizeLine ∧ Nx (upd H4 D (.lst (acc ++ [y]))) else Nx H3) := by
  refine lc_all kp w (fun D i v (H1 : Hp) => ∃ (b : Addr) (z : List Int), v = V.ref b ∧ b ≠ D ∧ H1 b = some (.lst (z.map V.int)) ∧ Rl i z) (fun D i v H1 H2 lk ⟨b, z, e1, e2, e3, e4⟩ => ⟨b, z, e1, e2, lk b (z.map V.int) e2 e3, e4⟩) hG hn ?_ ?_
  · intro D i x H0 H' Qf hi r ⟨us, hus⟩ y q
    refine hs i x H0 H' Qf hi r y (fun z b H4 hz r4 hb h4 => q _ _ r4 ⟨b, z, rfl, fun e => ?_, h4, hz⟩)
    rw [e, hus] at hb; cases hb
  · intro D us H' r hD e1 e2 e3
    obtain ⟨as, cs, rfl, hl, h1, h2⟩ := rows_of_get (H := H') (D := D) (Rl := Rl) us 0 (fun i v e => by rw [Nat.zero_add]; exact e3 i v e)
    refine hd D H' cs r hD (by rw [← hl]; simpa using e2) (fun i z e => by have := h2 i z e; rwa [Nat.zero_add] at this) ⟨as, e1, hl, h1⟩
/-- .. told one by one -/
theorem lc_rows {R : Hp → Hp → Prop} (kp : Keep R) {J : It} {n : Nat} {G : Hp → Prop} {Y : Nat → Hp → V → Hp → Prop} (w : Walk J n G Y) {g : TG} {te : TE} {vs : List Nat} {σ : L2.St} {H : Hp} {Qd : Addr → Hp → Prop}
    (fs : List (List Int)) (hf : fs.length = n) (hG : ∀ H', R H H' → G H') (hn : n < sizeLine)
    (hs : ∀ i x z H0 H' (Qf : VK), fs[i]? = some z → R H H0 → Y i H0 x H' → (∀ b H4, R H0 H4 → H0 b = none → H4 b = some (.lst (z.map V.int)) → Qf (.ref b) H4) →
      g x (wipe σ vs) H' fun σ2 H2 => wipe σ2 vs = wipe σ vs ∧ te σ2 H2 Qf)
    (hd : ∀ D H', R H H' → H D = none → RowsH H' D fs → Qd D H') :
    ∀ D, H D = none → ∃ W : Nat → Nat → Hp → Prop, (∃ m, W 0 m (upd H D (.lst []))) ∧ ∀ i m H, W i m H →
      (J.stop i H ∧ Qd D H) ∨ (J.go i H ∧ ∃ Nx : Hp → Prop, (∀ H', Nx H' → ∃ m', m' < m ∧ W (i + 1) m' H') ∧ ∀ x H', J.yld i H x H' → g x (wipe σ vs) H' fun σ2 H2 => wipe σ2 vs = wipe σ vs ∧ tYes σ2 H2 fun b H3 =>
        if b = true then te σ2 H3 fun y H4 => ∃ acc, H4 D = some (.lst acc) ∧ acc.length < sizeLine ∧ Nx (upd H4 D (.lst (acc ++ [y]))) else Nx H3) := by
  refine lc_new kp w (fun i z => fs[i]? = some z) hG hn ?_ ?_
  · intro i x H0 H' Qf hi r y q
    have hi' : i < fs.length := by omega
    exact hs i x fs[i] H0 H' Qf (by simp [hi']) r y (fun b H4 r4 hb h4 => q _ b H4 (by simp [hi']) r4 hb h4)
  · intro D H' cs r hD hl h2 hR
    have : cs = fs := by
      apply List.ext_getElem?
      intro i
      cases e : cs[i]? with
      | none =>
        have : fs[i]? = none := by rw [List.getElem?_eq_none_iff] at e ⊢; omega
        rw [this]
      | some v => exact (h2 i v e).symm
    rw [this] at hR
    exact hd D H' r hD hR
theorem refs_inj : ∀ {as bs : List Addr}, as.map V.ref = bs.map V.ref → as = bs
  | [], [], _ => rfl
  | [], _ :: _, h => by simp at h
  | _ :: _, [], h => by simp at h
  | a :: as, b :: bs, h => by
    simp only [List.map_cons, List.cons.injEq, V.ref.injEq] at h
    rw [h.1, refs_inj h.2]
/-- .. which are new -/
theorem lc_rowsN {R : Hp → Hp → Prop} (kp : Keep R) {J : It} {n : Nat} {G : Hp → Prop} {Y : Nat → Hp → V → Hp → Prop} (w : Walk J n G Y) {g : TG} {te : TE} {vs : List Nat} {σ : L2.St} {H : Hp} {Qd : Addr → Hp → Prop}
    (fs : List (List Int)) (hf : fs.length = n) (hG : ∀ H', R H H' → G H') (hn : n < sizeLine)
    (hs : ∀ i x z H0 H' (Qf : VK), fs[i]? = some z → R H H0 → Y i H0 x H' → (∀ b H4, R H0 H4 → H0 b = none → H4 b = some (.lst (z.map V.int)) → Qf (.ref b) H4) →
      g x (wipe σ vs) H' fun σ2 H2 => wipe σ2 vs = wipe σ vs ∧ te σ2 H2 Qf)
    (hd : ∀ D H', R H H' → H D = none → RowsH H' D fs → (∀ as : List Addr, H' D = some (.lst (as.map V.ref)) → ∀ b ∈ as, H b = none) → Qd D H') :
    ∀ D, H D = none → ∃ W : Nat → Nat → Hp → Prop, (∃ m, W 0 m (upd H D (.lst []))) ∧ ∀ i m H, W i m H →
      (J.stop i H ∧ Qd D H) ∨ (J.go i H ∧ ∃ Nx : Hp → Prop, (∀ H', Nx H' → ∃ m', m' < m ∧ W (i + 1) m' H') ∧ ∀ x H', J.yld i H x H' → g x (wipe σ vs) H' fun σ2 H2 => wipe σ2 vs = wipe σ vs ∧ tYes σ2 H2 fun b H3 =>
        if b = true then te σ2 H3 fun y H4 => ∃ acc, H4 D = some (.lst acc) ∧ acc.length < sizeLine ∧ Nx (upd H4 D (.lst (acc ++ [y]))) else Nx H3) := by
  refine lc_all kp w (fun D i v (H1 : Hp) => ∃ (b : Addr) (z : List Int), v = V.ref b ∧ b ≠ D ∧ H1 b = some (.lst (z.map V.int)) ∧ fs[i]? = some z ∧ H b = none) (fun D i v H1 H2 lk ⟨b, z, e1, e2, e3, e4⟩ => ⟨b, z, e1, e2, lk b (z.map V.int) e2 e3, e4⟩) hG hn ?_ ?_
  · intro D i x H0 H' Qf hi r ⟨us, hus⟩ y q
    have hi' : i < fs.length := by omega
    refine hs i x fs[i] H0 H' Qf (by simp [hi']) r y (fun b H4 r4 hb h4 => q _ _ r4 ⟨b, fs[i], rfl, fun e => ?_, h4, by simp [hi'], kp.free r hb⟩)
    rw [e, hus] at hb; cases hb
  · intro D us H' r hD e1 e2 e3
    obtain ⟨as, cs, rfl, hl, h1, h2⟩ := rows_of_get (H := H') (D := D) (Rl := fun i z => fs[i]? = some z) us 0 (fun i v e => by
      obtain ⟨b, z, a1, a2, a3, a4, _⟩ := e3 i v e
      rw [Nat.zero_add]; exact ⟨b, z, a1, a2, a3, a4⟩)
    have : cs = fs := by
      apply List.ext_getElem?
      intro i
      cases e : cs[i]? with
      | none =>
        have : fs[i]? = none := by
          rw [List.getElem?_eq_none_iff] at e ⊢
          rw [List.length_map] at e2
          omega
        rw [this]
      | some v => have := h2 i v e; rw [Nat.zero_add] at this; exact this.symm
    rw [this] at hl h1
    refine hd D H' r hD ⟨as, e1, hl, h1⟩ (fun as' e b hb => ?_)
    rw [e1] at e
    have ea : as = as' := refs_inj (by injection e with e; injection e)
    rw [← ea] at hb
    obtain ⟨i, hi⟩ := List.getElem?_of_mem hb
    obtain ⟨b', z, a1, _, _, _, a5⟩ := e3 i (V.ref b) (by rw [List.getElem?_map, hi]; rfl)
    cases a1
    exact a5
/-- picked ones of rows -/
theorem lc_filt {R : Hp → Hp → Prop} (kp : Keep R) {K : PySem.W.Frag} {l : Addr} {as : List Addr} {ps : List (List Int)} (pr : List Int → Bool) {g : TG} {tt : TT} {te : TE} {vs : List Nat} {σ : L2.St} {H : Hp} {Qd : Addr → Hp → Prop}
    (has : SqL K H l (as.map V.ref)) (hal : as.length = ps.length) (hap : ∀ (i : Nat) (b : Addr) (p : List Int), as[i]? = some b → ps[i]? = some p → H b = some (.lst (p.map V.int))) (hn : ps.length < sizeLine)
    (hs : ∀ (i : Nat) (b : Addr) (p : List Int) H0 (Qe : VK) (Qn : Hp → Prop), as[i]? = some b → ps[i]? = some p → R H H0 → (∀ H4, R H0 H4 → pr p = true → Qe (.ref b) H4) → (∀ H4, R H0 H4 → pr p = false → Qn H4) →
      g (.ref b) (wipe σ vs) H0 fun σ2 H2 => wipe σ2 vs = wipe σ vs ∧ tt σ2 H2 fun c H3 => if c = true then te σ2 H3 Qe else Qn H3)
    (hd : ∀ D H', R H H' → H D = none → RowsH H' D (ps.filter pr) → Qd D H') :
    ∀ D, H D = none → ∃ W : Nat → Nat → Hp → Prop, (∃ m, W 0 m (upd H D (.lst []))) ∧ ∀ i m H, W i m H →
      ((Itl K l).stop i H ∧ Qd D H) ∨ ((Itl K l).go i H ∧ ∃ Nx : Hp → Prop, (∀ H', Nx H' → ∃ m', m' < m ∧ W (i + 1) m' H') ∧ ∀ x H', (Itl K l).yld i H x H' → g x (wipe σ vs) H' fun σ2 H2 => wipe σ2 vs = wipe σ vs ∧ tt σ2 H2 fun b H3 =>
        if b = true then te σ2 H3 fun y H4 => ∃ acc, H4 D = some (.lst acc) ∧ acc.length < sizeLine ∧ Nx (upd H4 D (.lst (acc ++ [y]))) else Nx H3) := by
  intro D hD
  refine lc_it (walk_list (K := K) (a := l) (xs := as.map V.ref)) (Qd := fun H => Qd D H) (tt := tt) (fun i H' => R H H' ∧ ∃ cs : List Addr, H' D = some (.lst (cs.map V.ref)) ∧ cs.length = ((ps.take i).filter pr).length ∧
      ∀ (j : Nat) (b : Addr) (y : List Int), cs[j]? = some b → ((ps.take i).filter pr)[j]? = some y → H b = some (.lst (y.map V.int)))
    ⟨kp.new hD, [], upd_same, rfl, fun j b y e => by simp at e⟩ (fun i H' _ ⟨r, _⟩ => kp.sq r has) ?_ ?_
  · rintro i x H0 H' hi ⟨r, cs, e1, e2, e3⟩ ⟨rfl, hx⟩
    obtain ⟨b, hb, rfl⟩ := map_get hx
    have hi' : i < ps.length := by rw [← hal]; simpa using hi
    obtain ⟨p, hp⟩ : ∃ p, ps[i]? = some p := ⟨_, List.getElem?_eq_getElem hi'⟩
    have hle : ((ps.take i).filter pr).length ≤ i := Nat.le_trans (List.length_filter_le _ _) (by rw [List.length_take]; omega)
    refine hs i b p _ _ _ hb hp r (fun H4 r4 ht => ?_) (fun H4 r4 hf => ?_)
    · have e1' := kp.lst r4 e1
      refine ⟨_, e1', by rw [List.length_map]; omega, kp.put (kp.trans r r4) hD (.inr ⟨_, e1'⟩), cs ++ [b], by rw [upd_same]; simp, ?_, ?_⟩
      · rw [take_snoc' hp, List.filter_append, List.filter_cons, if_pos ht]; simp [e2]
      · rw [take_snoc' hp, List.filter_append, List.filter_cons, if_pos ht]
        intro j b' y g1 g2
        rcases get_snoc rfl g1 with h | ⟨h1, h2⟩
        · have hj : j < cs.length := (List.getElem?_eq_some_iff.mp h).1
          rw [List.getElem?_append_left (by omega)] at g2
          exact e3 j b' y h g2
        · rw [h1, e2, List.getElem?_append_right (by omega)] at g2
          simp at g2
          rw [h2, ← g2]; exact hap i b p hb hp
    · refine ⟨kp.trans r r4, cs, kp.lst r4 e1, ?_, ?_⟩
      · rw [take_snoc' hp, List.filter_append, List.filter_cons, if_neg (by rw [hf]; decide)]; simpa using e2
      · rw [take_snoc' hp, List.filter_append, List.filter_cons, if_neg (by rw [hf]; decide)]
        intro j b' y g1 g2
        exact e3 j b' y g1 (by simpa using g2)
  · rintro H' ⟨r, cs, e1, e2, e3⟩
    rw [List.length_map, hal, List.take_length] at e2 e3
    exact hd D H' r hD ⟨cs, e1, e2, fun j b y g1 g2 => kp.lst r (e3 j b y g1 g2)⟩
end Np
end
section
set_option maxRecDepth 100000
set_option maxHeartbeats 2000000
/-! What times_near gives, in numbers. -/
namespace Np
open PySem PySem.Spec PyProof.Rows L2
theorem addmul_bd {M N B : Int} (hB : 0 ≤ B) {s v : List Int} {k : Int} (hs : Bd M s) (hk : -N ≤ k ∧ k ≤ N) (hv : Bd B v) : Bd (M + N * B) (addmul s k v) := by
  intro x hx
  obtain ⟨p, hp, rfl⟩ := List.mem_map.mp hx
  have h1 := hs p.1 (List.of_mem_zip hp).1
  have h2 := hv p.2 (List.of_mem_zip hp).2
  have h3 := bd_mul hk h2
  omega
theorem fold_bd {N B : Int} (hB : 0 ≤ B) : ∀ (qs : List (List Int × Int)) (M : Int) (s : List Int), Bd M s → (∀ q ∈ qs, Bd B q.1 ∧ -N ≤ q.2 ∧ q.2 ≤ N) → Bd (M + qs.length * (N * B)) (qs.foldl (fun s x => addmul s x.2 x.1) s)
  | [], M, s, h, _ => by simpa using h
  | q :: qs, M, s, h, hq => by
    have h1 := addmul_bd hB h (hq q (by simp)).2 (hq q (by simp)).1
    have h2 := fold_bd hB qs _ _ h1 (fun q' h' => hq q' (by simp [h']))
    rw [List.foldl_cons]
    have e : M + N * B + (qs.length : Int) * (N * B) = M + ((q :: qs).length : Int) * (N * B) := by
      rw [List.length_cons]; push_cast; grind
    rw [← e]; exact h2
theorem tog_len {ps : List (List Int)} {ts : List Int} {n : Nat} (h : ∀ p ∈ ps, p.length = n) (h0 : ps ≠ []) : (togL ps ts).length = n := by
  unfold togL
  refine togN_len _ _ ?_ (fun q hq => h _ (List.of_mem_zip hq).1)
  cases ps with
  | nil => exact absurd rfl h0
  | cons p pr => simp; exact h p (by simp)
theorem dot_small {n : List Int} (hl : n.length ≤ 3) (hb : Bd 800 n) : 0 ≤ dotL n n ∧ dotL n n ≤ 3 * 640000 := by
  have one : ∀ x ∈ n, 0 ≤ x * x ∧ x * x ≤ 640000 := fun x hx => by
    have h := hb x hx
    exact ⟨sq_nonneg x, sq_le_of (m := 800) h.1 h.2⟩
  match n, hl with
  | [], _ => simp [dotL]
  | [a], _ => have := one a (by simp); simp [dotL]; omega
  | [a, b], _ => have := one a (by simp); have := one b (by simp); simp [dotL]; omega
  | [a, b, c], _ => have := one a (by simp); have := one b (by simp); have := one c (by simp); simp [dotL]; omega
theorem nrm_small {ps : List (List Int)} (hd : Dm ps) (hB : BdP 20 ps) : ∀ n ∈ nrmL ps, n.length ≤ 3 ∧ Bd 800 n := by
  rcases hd with ⟨m, rfl⟩ | ⟨m, rfl⟩
  · have h1 := hB (l2 m.a) (by simp [b2])
    have h2 := hB (l2 m.b) (by simp [b2])
    have a1 := h1 m.a.x (by simp [l2]); have a2 := h1 m.a.y (by simp [l2])
    have b1 := h2 m.b.x (by simp [l2]); have b2' := h2 m.b.y (by simp [l2])
    rw [nrmL2]
    intro p hp
    simp only [List.mem_cons, List.not_mem_nil, or_false] at hp
    rcases hp with rfl | rfl
    · refine ⟨by simp, fun x hx => ?_⟩
      simp only [List.mem_cons, List.not_mem_nil, or_false] at hx
      rcases hx with rfl | rfl <;> omega
    · refine ⟨by simp, fun x hx => ?_⟩
      simp only [List.mem_cons, List.not_mem_nil, or_false] at hx
      rcases hx with rfl | rfl <;> omega
  · have h1 := hB (l3 m.a) (by simp [b3])
    have h2 := hB (l3 m.b) (by simp [b3])
    have h3 := hB (l3 m.c) (by simp [b3])
    have key : ∀ u v : V3, Bd 20 (l3 u) → Bd 20 (l3 v) → (crossL u v).length ≤ 3 ∧ Bd 800 (crossL u v) := by
      intro u v hu hv
      refine ⟨by simp [crossL, l3], fun x hx => ?_⟩
      have u1 := hu u.x (by simp [l3]); have u2 := hu u.y (by simp [l3]); have u3 := hu u.z (by simp [l3])
      have v1 := hv v.x (by simp [l3]); have v2 := hv v.y (by simp [l3]); have v3 := hv v.z (by simp [l3])
      have p1 := bd_mul u1 v2; have p2 := bd_mul u1 v3; have p3 := bd_mul u2 v1; have p4 := bd_mul u2 v3; have p5 := bd_mul u3 v1; have p6 := bd_mul u3 v2
      simp only [crossL, l3, V3.cross, List.mem_cons, List.not_mem_nil, or_false] at hx
      rcases hx with rfl | rfl | rfl <;> omega
    rw [nrmL3]
    intro p hp
    simp only [List.mem_cons, List.not_mem_nil, or_false] at hp
    rcases hp with rfl | rfl | rfl
    · exact key _ _ h2 h3
    · exact key _ _ h3 h1
    · exact key _ _ h1 h2
theorem tog_bd {M : Int} (hM0 : 0 ≤ M) (hM : M ≤ 1000000) {ps : List (List Int)} {ts : List Int} (hp : BdP 20 ps) (ht : Bd M ts) (hl : ps.length ≤ 3) : Bd 60000000 (togL ps ts) := by
  have h0 : Bd 0 (List.replicate (ps.headD []).length 0) := fun x hx => by
    have := (List.mem_replicate.mp hx).2
    omega
  have := fold_bd (N := M) (B := 20) (by decide) (ps.zip ts) 0 _ h0 (fun q hq => ⟨hp _ (List.of_mem_zip hq).1, ht _ (List.of_mem_zip hq).2⟩)
  refine Bd.mono ?_ this
  have : (ps.zip ts).length ≤ 3 := by rw [List.length_zip]; omega
  have : ((ps.zip ts).length : Int) * (M * 20) ≤ 3 * (M * 20) := Int.mul_le_mul_of_nonneg_right (by omega) (by omega)
  omega
/-! ### points by lists -/
theorem tog3 (m : B3) (k : V3) : togL (b3 m) (l3 k) = l3 (m.pt k) := by
  simp only [togL, b3, l3, addmul, List.zip_cons_cons, List.zip_nil_right, List.foldl_cons, List.foldl_nil, List.headD_cons, List.length_cons, List.length_nil, List.replicate, List.map_cons, List.map_nil, B3.pt, List.zip_nil_left]
  congr 1
  · grind
  · congr 1
    · grind
    · congr 1; grind
theorem tog2 (m : B2) (k : V2) : togL (b2 m) (l2 k) = l2 (m.pt k) := by
  simp only [togL, b2, l2, addmul, List.zip_cons_cons, List.zip_nil_right, List.foldl_cons, List.foldl_nil, List.headD_cons, List.length_cons, List.length_nil, List.replicate, List.map_cons, List.map_nil, B2.pt, List.zip_nil_left]
  congr 1
  · grind
  · congr 1; grind
theorem left3 (t : V3) (q : Int) (v : V3) : leftL (l3 t) q (l3 v) = l3 (df3 q t v) := by
  simp only [leftL, l3, df3, V3.add, V3.smul, List.zip_cons_cons, List.zip_nil_right, List.map_cons, List.map_nil]
  congr 1
  · grind
  · congr 1
    · grind
    · congr 1; grind
theorem left2 (t : V2) (q : Int) (v : V2) : leftL (l2 t) q (l2 v) = l2 (df2 q t v) := by
  simp only [leftL, l2, df2, V2.add, V2.smul, List.zip_cons_cons, List.zip_nil_right, List.map_cons, List.map_nil]
  congr 1
  · grind
  · congr 1; grind
theorem dotL3 (u v : V3) : dotL (l3 u) (l3 v) = V3.dot u v := dot3 u v
theorem dotL2 (u v : V2) : dotL (l2 u) (l2 v) = V2.dot u v := dot2 u v
theorem nrmL2' (m : B2) : nrmL (b2 m) = [l2 ⟨m.b.y, -m.b.x⟩, l2 ⟨-m.a.y, m.a.x⟩] := rfl
/-! ### how near -/
theorem cs3 (n u : V3) : V3.dot n u * V3.dot n u ≤ V3.nrm n * V3.nrm u := by
  have := V3.lagrange n u
  have := V3.nrm_nonneg (V3.cross n u)
  omega
theorem cs2 (n u : V2) : V2.dot n u * V2.dot n u ≤ V2.nrm n * V2.nrm u := by
  have := V2.lagrange n u
  have := sq_nonneg (V2.crs n u)
  omega
theorem near_of {x N u L : Int} (h : x * x ≤ N * u) (hN : 0 ≤ N) (hu : u ≤ L) {w p z : Int} (e : w - p * z = x) : Near w p (N * L) z := by
  show (w - p * z) * (w - p * z) ≤ N * L
  rw [e]
  have := Int.mul_le_mul_of_nonneg_left hu hN
  omega
theorem prod3 (m : B3) (t : V3) (q : Int) (k : V3) :
    V3.dot (V3.cross m.b m.c) t - q * m.det * k.x = V3.dot (V3.cross m.b m.c) (df3 q t (m.pt k)) ∧
    V3.dot (V3.cross m.c m.a) t - q * m.det * k.y = V3.dot (V3.cross m.c m.a) (df3 q t (m.pt k)) ∧
    V3.dot (V3.cross m.a m.b) t - q * m.det * k.z = V3.dot (V3.cross m.a m.b) (df3 q t (m.pt k)) := by
  simp only [df3, V3.dot, V3.cross, V3.add, V3.smul, B3.pt, B3.det]
  refine ⟨?_, ?_, ?_⟩ <;> grind
theorem prod2 (m : B2) (t : V2) (q : Int) (k : V2) :
    V2.dot ⟨m.b.y, -m.b.x⟩ t - q * m.det * k.x = V2.dot ⟨m.b.y, -m.b.x⟩ (df2 q t (m.pt k)) ∧
    V2.dot ⟨-m.a.y, m.a.x⟩ t - q * m.det * k.y = V2.dot ⟨-m.a.y, m.a.x⟩ (df2 q t (m.pt k)) := by
  simp only [df2, V2.dot, V2.crs, V2.add, V2.smul, B2.pt, B2.det]
  refine ⟨?_, ?_⟩ <;> grind
/-! ### how many -/
theorem inc_len : ∀ (zs : List Int) (z0 : Int) (B : Nat), (∀ z ∈ zs, z0 ≤ z ∧ z < z0 + B) → zs.Pairwise (· < ·) → zs.length ≤ B
  | [], _, _, _, _ => by simp
  | z :: zs, z0, B, h, hp => by
    have hz := h z (by simp)
    rw [List.pairwise_cons] at hp
    have := inc_len zs (z + 1) (z0 + B - (z + 1)).toNat (fun y hy => by
      have h1 := hp.1 y hy
      have h2 := h y (by simp [hy])
      omega) hp.2
    rw [List.length_cons]
    omega
theorem near_bd {w p N L D q : Int} (hp : p = q * D) (hp0 : p ≠ 0) (hN : N ≤ 4 * (D * D)) (hN0 : 0 ≤ N) (hL : L ≤ 576 * (q * q)) {z : Int} (h : Near w p (N * L) z) (hL0 : 0 ≤ L) :
    -(48 * p.natAbs) ≤ w - p * z ∧ w - p * z ≤ 48 * (p.natAbs : Int) := by
  have h1 : N * L ≤ 4 * (D * D) * L := Int.mul_le_mul_of_nonneg_right hN hL0
  have h2 : 4 * (D * D) * L ≤ 4 * (D * D) * (576 * (q * q)) := Int.mul_le_mul_of_nonneg_left hL (by have := sq_nonneg D; omega)
  have e : 4 * (D * D) * (576 * (q * q)) = (48 * (p.natAbs : Int)) * (48 * (p.natAbs : Int)) := by
    have e1 : (p.natAbs : Int) * p.natAbs = p * p := Int.natAbs_mul_self
    have e2 : p * p = (q * q) * (D * D) := by rw [hp]; grind
    grind
  have h3 : (w - p * z) * (w - p * z) ≤ (48 * (p.natAbs : Int)) * (48 * (p.natAbs : Int)) := by
    have h : (w - p * z) * (w - p * z) ≤ N * L := h
    omega
  have := abs_le_of_sq (by omega) h3
  omega
theorem abs_mul_le {p a B : Int} (hp : p ≠ 0) (h1 : -(B * p.natAbs) ≤ p * a) (h2 : p * a ≤ B * p.natAbs) : -B ≤ a ∧ a ≤ B := by
  have hp' : (0 : Int) < p.natAbs := by omega
  rcases Int.lt_or_le 0 p with g | g
  · have e : (p.natAbs : Int) = p := by omega
    rw [e] at h1 h2 hp'
    constructor
    · exact le_of_mul_le hp' (by rw [Int.mul_neg, Int.mul_comm p B]; exact h1)
    · exact le_of_mul_le hp' (by rw [Int.mul_comm p B]; exact h2)
  · have e : (p.natAbs : Int) = -p := by omega
    rw [e] at h1 h2 hp'
    constructor
    · exact le_of_mul_le hp' (by rw [Int.mul_neg, Int.mul_comm (-p) B, Int.neg_mul]; omega)
    · exact le_of_mul_le hp' (by rw [Int.mul_comm (-p) B, Int.neg_mul]; omega)
theorem near_small {w p N L D q W : Int} (hp : p = q * D) (hp0 : p ≠ 0) (hN : N ≤ 4 * (D * D)) (hN0 : 0 ≤ N) (hL : L ≤ 576 * (q * q)) (hL0 : 0 ≤ L) (hw : -W ≤ w ∧ w ≤ W) {z : Int} (h : Near w p (N * L) z) : -(W + 48) ≤ z ∧ z ≤ W + 48 := by
  have := near_bd hp hp0 hN hN0 hL h hL0
  have hW : W ≤ W * p.natAbs := by
    have : W * 1 ≤ W * p.natAbs := Int.mul_le_mul_of_nonneg_left (by omega) (by omega)
    omega
  refine abs_mul_le hp0 ?_ ?_
  · rw [Int.add_mul]; omega
  · rw [Int.add_mul]; omega
theorem near_few {w p N L D q : Int} (hp : p = q * D) (hp0 : p ≠ 0) (hN : N ≤ 4 * (D * D)) (hN0 : 0 ≤ N) (hL : L ≤ 576 * (q * q)) (hL0 : 0 ≤ L) {zs : List Int} (hz : ∀ z ∈ zs, Near w p (N * L) z) (hs : zs.Pairwise (· < ·)) : zs.length ≤ 97 := by
  cases zs with
  | nil => simp
  | cons z0 zs =>
    refine inc_len _ z0 97 (fun z hzz => ?_) hs
    have h1 := near_bd hp hp0 hN hN0 hL (hz z0 (by simp)) hL0
    have h2 := near_bd hp hp0 hN hN0 hL (hz z hzz) hL0
    have h3 : z0 ≤ z := by
      rw [List.pairwise_cons] at hs
      rcases List.mem_cons.mp hzz with e | e
      · omega
      · have := hs.1 z e; omega
    have e : p * (z - z0) = (w - p * z0) - (w - p * z) := by rw [Int.mul_sub]; omega
    have := abs_mul_le (B := 96) hp0 (a := z - z0) (by rw [e]; omega) (by rw [e]; omega)
    omega
theorem box_cnt {B : Nat} : ∀ (cs rs : List (List Int)), (∀ zs ∈ cs, zs.length ≤ B) → (cs.foldl (fun rs zs => ext zs rs) rs).length ≤ rs.length * B ^ cs.length
  | [], rs, _ => by simp
  | c :: cs, rs, h => by
    rw [List.foldl_cons]
    refine Nat.le_trans (box_cnt cs _ (fun z hz => h z (by simp [hz]))) ?_
    rw [ext_len, List.length_cons, Nat.pow_succ, Nat.mul_comm (B ^ cs.length) B, ← Nat.mul_assoc]
    exact Nat.mul_le_mul_right _ (Nat.mul_le_mul_left _ (h c (by simp)))
theorem box_small {cs : List (List Int)} (h : ∀ zs ∈ cs, zs.length ≤ 97) (hl : cs.length ≤ 3) (i : Nat) : (boxL (cs.take i)).length ≤ 1000000 := by
  have h1 := box_cnt (B := 97) (cs.take i) [[]] (fun z hz => h z (List.mem_of_mem_take hz))
  have h2 : (cs.take i).length ≤ 3 := by rw [List.length_take]; omega
  have h3 : 97 ^ (cs.take i).length ≤ 97 ^ 3 := Nat.pow_le_pow_right (by decide) h2
  unfold boxL
  simp only [List.length_cons, List.length_nil] at h1
  omega
theorem ext_nodup {zs : List Int} {rs : List (List Int)} (hz : zs.Nodup) (hr : rs.Nodup) : (ext zs rs).Nodup := by
  unfold ext
  rw [List.nodup_iff_pairwise_ne, List.pairwise_flatMap]
  refine ⟨fun r _ => ?_, ?_⟩
  · rw [List.pairwise_map]
    exact (List.nodup_iff_pairwise_ne.mp hz).imp (fun {a b} h e => h (by simpa using e))
  · refine (List.nodup_iff_pairwise_ne.mp hr).imp (fun {a b} h v hv w hw e => ?_)
    obtain ⟨x, _, rfl⟩ := List.mem_map.mp hv
    obtain ⟨y, _, rfl⟩ := List.mem_map.mp hw
    exact h (List.append_inj' e rfl).1
theorem box_nd : ∀ (cs rs : List (List Int)), (∀ zs ∈ cs, zs.Nodup) → rs.Nodup → (cs.foldl (fun rs zs => ext zs rs) rs).Nodup
  | [], rs, _, h => h
  | c :: cs, rs, h, hr => by
    rw [List.foldl_cons]
    exact box_nd cs _ (fun z hz => h z (by simp [hz])) (ext_nodup (h c (by simp)) hr)
theorem inc_nodup {zs : List Int} (h : zs.Pairwise (· < ·)) : zs.Nodup := List.nodup_iff_pairwise_ne.mpr (h.imp (fun h => by omega))
theorem mem_ext {zs : List Int} {rs : List (List Int)} {t : List Int} : t ∈ ext zs rs ↔ ∃ r ∈ rs, ∃ z ∈ zs, t = r ++ [z] := by
  unfold ext
  rw [List.mem_flatMap]
  constructor
  · rintro ⟨r, hr, h⟩
    obtain ⟨z, hz, rfl⟩ := List.mem_map.mp h
    exact ⟨r, hr, z, hz, rfl⟩
  · rintro ⟨r, hr, z, hz, rfl⟩
    exact ⟨r, hr, List.mem_map.mpr ⟨z, hz, rfl⟩⟩
theorem mem_box2 {c0 c1 t : List Int} : t ∈ boxL [c0, c1] ↔ ∃ x ∈ c0, ∃ y ∈ c1, t = [x, y] := by
  show t ∈ ext c1 (ext c0 [[]]) ↔ _
  rw [mem_ext]
  constructor
  · rintro ⟨r, hr, z, hz, rfl⟩
    obtain ⟨r0, h0, x, hx, rfl⟩ := mem_ext.mp hr
    rw [List.mem_singleton.mp h0]
    exact ⟨x, hx, z, hz, rfl⟩
  · rintro ⟨x, hx, y, hy, rfl⟩
    exact ⟨[x], mem_ext.mpr ⟨[], by simp, x, hx, rfl⟩, y, hy, rfl⟩
theorem mem_box3 {c0 c1 c2 t : List Int} : t ∈ boxL [c0, c1, c2] ↔ ∃ x ∈ c0, ∃ y ∈ c1, ∃ z ∈ c2, t = [x, y, z] := by
  show t ∈ ext c2 (boxL [c0, c1]) ↔ _
  rw [mem_ext]
  constructor
  · rintro ⟨r, hr, z, hz, rfl⟩
    obtain ⟨x, hx, y, hy, rfl⟩ := mem_box2.mp hr
    exact ⟨x, hx, y, hy, z, hz, rfl⟩
  · rintro ⟨x, hx, y, hy, z, hz, rfl⟩
    exact ⟨[x, y], mem_box2.mpr ⟨x, hx, y, hy, rfl⟩, z, hz, rfl⟩
/-! ### all that times_near promises -/
/-- steps that no small sum shortens -/
def ShL (ps : List (List Int)) : Prop := (∃ m, ps = b2 m ∧ Sh2 m) ∨ (∃ m, ps = b3 m ∧ Sh3 m)
theorem ShL.dm {ps : List (List Int)} (h : ShL ps) : Dm ps := by
  rcases h with ⟨m, e, _⟩ | ⟨m, e, _⟩
  · exact .inl ⟨m, e⟩
  · exact .inr ⟨m, e⟩
def farL (told : List Int) (q : Int) (v : List Int) : Int := dotL (leftL told q v) (leftL told q v)
/-- the choices of one step -/
def Ch (ps : List (List Int)) (told : List Int) (q L : Int) (i : Nat) (zs : List Int) : Prop := ∀ n, (nrmL ps)[i]? = some n → (∀ z, z ∈ zs ↔ Near (dotL n told) (q * detL ps) (dotL n n * L) z) ∧ zs.Pairwise (· < ·)
structure NearT (ps : List (List Int)) (told : List Int) (q L : Int) (ts : List (List Int)) : Prop where
  nd : ts.Nodup
  cnt : ts.length ≤ 1000000
  len : ∀ t ∈ ts, t.length = ps.length
  bd : ∀ t ∈ ts, Bd 300000 t
  bd0 : (∀ x ∈ told, x = 0) → ∀ t ∈ ts, Bd 48 t
  mem : ∀ t, t ∈ ts ↔ t.length = ps.length ∧ farL told q (togL ps t) ≤ L
theorem normal_le {ps : List (List Int)} (hS : ShL ps) (h0 : detL ps ≠ 0) : ∀ n ∈ nrmL ps, 0 ≤ dotL n n ∧ dotL n n ≤ 4 * (detL ps * detL ps) := by
  rcases hS with ⟨m, rfl, hm⟩ | ⟨m, rfl, hm⟩
  · rw [detL2] at *
    obtain ⟨h1, h2⟩ := normals_le2 hm h0
    intro n hn
    rw [nrmL2'] at hn
    simp only [List.mem_cons, List.not_mem_nil, or_false] at hn
    rcases hn with rfl | rfl
    · rw [dotL2]; refine ⟨V2.nrm_nonneg _, ?_⟩
      have : V2.dot ⟨m.b.y, -m.b.x⟩ ⟨m.b.y, -m.b.x⟩ = V2.nrm m.b := by simp only [V2.dot, V2.nrm]; grind
      omega
    · rw [dotL2]; refine ⟨V2.nrm_nonneg _, ?_⟩
      have : V2.dot ⟨-m.a.y, m.a.x⟩ ⟨-m.a.y, m.a.x⟩ = V2.nrm m.a := by simp only [V2.dot, V2.nrm]; grind
      omega
  · rw [detL3] at *
    obtain ⟨h1, h2, h3⟩ := normals_le3 hm h0
    intro n hn
    rw [nrmL3] at hn
    simp only [List.mem_cons, List.not_mem_nil, or_false] at hn
    rcases hn with rfl | rfl | rfl
    · exact ⟨by rw [crossL, dotL3]; exact V3.nrm_nonneg _, by rw [crossL, dotL3]; exact h1⟩
    · exact ⟨by rw [crossL, dotL3]; exact V3.nrm_nonneg _, by rw [crossL, dotL3]; exact h2⟩
    · exact ⟨by rw [crossL, dotL3]; exact V3.nrm_nonneg _, by rw [crossL, dotL3]; exact h3⟩
theorem dot_bd {n t : List Int} (hl : n.length ≤ 3) (hn : Bd 800 n) (ht : Bd 100 t) : -240000 ≤ dotL n t ∧ dotL n t ≤ 240000 := by
  have one : ∀ x ∈ n, ∀ y ∈ t, -80000 ≤ x * y ∧ x * y ≤ 80000 := fun x hx y hy => bd_mul (hn x hx) (ht y hy)
  match n, t, hl with
  | [], t, _ => simp [dotL]
  | [a], [], _ => simp [dotL]
  | [a], x :: t, _ => have := one a (by simp) x (by simp); simp [dotL]; omega
  | [a, b], [], _ => simp [dotL]
  | [a, b], [x], _ => have := one a (by simp) x (by simp); simp [dotL]; omega
  | [a, b], x :: y :: t, _ => have := one a (by simp) x (by simp); have := one b (by simp) y (by simp); simp [dotL]; omega
  | [a, b, c], [], _ => simp [dotL]
  | [a, b, c], [x], _ => have := one a (by simp) x (by simp); simp [dotL]; omega
  | [a, b, c], [x, y], _ => have := one a (by simp) x (by simp); have := one b (by simp) y (by simp); simp [dotL]; omega
  | [a, b, c], x :: y :: z :: t, _ => have := one a (by simp) x (by simp); have := one b (by simp) y (by simp); have := one c (by simp) z (by simp); simp [dotL]; omega
theorem dot_zero : ∀ {n t : List Int}, (∀ x ∈ t, x = 0) → dotL n t = 0
  | [], _, _ => by simp [dotL]
  | _ :: _, [], _ => by simp [dotL]
  | a :: n, x :: t, h => by
    have e := dot_zero (n := n) (t := t) (fun y hy => h y (by simp [hy]))
    unfold dotL at e ⊢
    rw [List.zip_cons_cons, List.map_cons, List.sum_cons, e, h x (by simp)]
    simp
theorem nearT_of {ps : List (List Int)} {told : List Int} {q L : Int} (hS : ShL ps) (h0 : detL ps ≠ 0) (hB : BdP 20 ps) (ht : told.length = ps.length) (htb : Bd 100 told) (hq : 1 ≤ q) (hL0 : 0 ≤ L) (hL : L ≤ 576 * (q * q))
    {cs : List (List Int)} (hl : cs.length = ps.length) (hc : ∀ i zs, cs[i]? = some zs → Ch ps told q L i zs) :
    NearT ps told q L ((boxL cs).filter fun t => decide (farL told q (togL ps t) ≤ L)) := by
  have hd := hS.dm
  obtain ⟨n1, n2, n3, n4⟩ := nrm_shape hd
  have nle := normal_le hS h0
  have hp0 : q * detL ps ≠ 0 := fun e => by rcases Int.mul_eq_zero.mp e with e | e; omega; exact h0 e
  have each : ∀ zs ∈ cs, zs.Pairwise (· < ·) ∧ zs.length ≤ 97 ∧ ∀ z ∈ zs, (-300000 ≤ z ∧ z ≤ 300000) ∧ ((∀ x ∈ told, x = 0) → -48 ≤ z ∧ z ≤ 48) := by
    intro zs hz
    obtain ⟨i, hi⟩ := List.getElem?_of_mem hz
    have hi' : i < (nrmL ps).length := by rw [n1, ← hl]; exact (List.getElem?_eq_some_iff.mp hi).1
    obtain ⟨n, hn⟩ : ∃ n, (nrmL ps)[i]? = some n := ⟨_, List.getElem?_eq_getElem hi'⟩
    obtain ⟨h1, h2⟩ := hc i zs hi n hn
    have hnm := List.mem_of_getElem? hn
    have a := nle n hnm
    have b := nrm_small hd hB n hnm
    have c := dot_bd b.1 b.2 htb
    refine ⟨h2, near_few rfl hp0 a.2 a.1 hL hL0 (fun z hz => (h1 z).mp hz) h2, fun z hz => ?_⟩
    have := near_small rfl hp0 a.2 a.1 hL hL0 c ((h1 z).mp hz)
    refine ⟨by omega, fun h => ?_⟩
    have := near_small (W := 0) rfl hp0 a.2 a.1 hL hL0 (by rw [dot_zero h]; decide) ((h1 z).mp hz)
    omega
  have bbd : ∀ t ∈ boxL cs, Bd 300000 t ∧ t.length = ps.length ∧ ((∀ x ∈ told, x = 0) → Bd 48 t) := by
    intro t htm
    rcases hd with ⟨m, e⟩ | ⟨m, e⟩
    · have : cs.length = 2 := by rw [hl, e]; rfl
      obtain ⟨c0, c1, rfl⟩ := get2 this
      obtain ⟨x, hx, y, hy, rfl⟩ := mem_box2.mp htm
      refine ⟨fun z hz => ?_, by rw [← hl]; rfl, fun h z hz => ?_⟩
      · simp only [List.mem_cons, List.not_mem_nil, or_false] at hz
        rcases hz with rfl | rfl
        · exact ((each c0 (by simp)).2.2 _ hx).1
        · exact ((each c1 (by simp)).2.2 _ hy).1
      · simp only [List.mem_cons, List.not_mem_nil, or_false] at hz
        rcases hz with rfl | rfl
        · exact ((each c0 (by simp)).2.2 _ hx).2 h
        · exact ((each c1 (by simp)).2.2 _ hy).2 h
    · have : cs.length = 3 := by rw [hl, e]; rfl
      obtain ⟨c0, c1, c2, rfl⟩ := get3 this
      obtain ⟨x, hx, y, hy, z, hz, rfl⟩ := mem_box3.mp htm
      refine ⟨fun u hu => ?_, by rw [← hl]; rfl, fun h u hu => ?_⟩
      · simp only [List.mem_cons, List.not_mem_nil, or_false] at hu
        rcases hu with rfl | rfl | rfl
        · exact ((each c0 (by simp)).2.2 _ hx).1
        · exact ((each c1 (by simp)).2.2 _ hy).1
        · exact ((each c2 (by simp)).2.2 _ hz).1
      · simp only [List.mem_cons, List.not_mem_nil, or_false] at hu
        rcases hu with rfl | rfl | rfl
        · exact ((each c0 (by simp)).2.2 _ hx).2 h
        · exact ((each c1 (by simp)).2.2 _ hy).2 h
        · exact ((each c2 (by simp)).2.2 _ hz).2 h
  refine ⟨?_, ?_, ?_, ?_, ?_, ?_⟩
  · exact List.Nodup.sublist (List.filter_sublist) (box_nd cs [[]] (fun z hz => inc_nodup (each z hz).1) (by simp))
  · have := box_small (fun z hz => (each z hz).2.1) (by omega) cs.length
    rw [List.take_length] at this
    exact Nat.le_trans (List.length_filter_le _ _) this
  · exact fun t h => (bbd t (List.mem_filter.mp h).1).2.1
  · exact fun t h => (bbd t (List.mem_filter.mp h).1).1
  · exact fun hz t h => (bbd t (List.mem_filter.mp h).1).2.2 hz
  · intro t
    rw [List.mem_filter, decide_eq_true_eq]
    refine ⟨fun h => ⟨(bbd t h.1).2.1, h.2⟩, fun h => ⟨?_, h.2⟩⟩
    obtain ⟨hlt, hf⟩ := h
    rcases hd with ⟨m, e⟩ | ⟨m, e⟩
    · subst e
      obtain ⟨k, rfl⟩ := len2 (v := t) hlt
      obtain ⟨u, rfl⟩ := len2 (v := told) ht
      obtain ⟨c0, c1, rfl⟩ := get2 (l := cs) hl
      rw [tog2, farL, left2, dotL2] at hf
      have g0 := (hc 0 c0 rfl (l2 ⟨m.b.y, -m.b.x⟩) rfl).1
      have g1 := (hc 1 c1 rfl (l2 ⟨-m.a.y, m.a.x⟩) rfl).1
      rw [dotL2, dotL2, detL2] at g0 g1
      obtain ⟨p0, p1⟩ := prod2 m u q k
      exact mem_box2.mpr ⟨k.x, (g0 _).mpr (near_of (cs2 _ _) (V2.nrm_nonneg _) hf p0), k.y, (g1 _).mpr (near_of (cs2 _ _) (V2.nrm_nonneg _) hf p1), rfl⟩
    · subst e
      obtain ⟨k, rfl⟩ := len3 (v := t) hlt
      obtain ⟨u, rfl⟩ := len3 (v := told) ht
      obtain ⟨c0, c1, c2, rfl⟩ := get3 (l := cs) hl
      rw [tog3, farL, left3, dotL3] at hf
      have g0 := (hc 0 c0 rfl (crossL m.b m.c) rfl).1
      have g1 := (hc 1 c1 rfl (crossL m.c m.a) rfl).1
      have g2 := (hc 2 c2 rfl (crossL m.a m.b) rfl).1
      rw [crossL, dotL3, dotL3, detL3] at g0 g1 g2
      obtain ⟨p0, p1, p2⟩ := prod3 m u q k
      exact mem_box3.mpr ⟨k.x, (g0 _).mpr (near_of (cs3 _ _) (V3.nrm_nonneg _) hf p0), k.y, (g1 _).mpr (near_of (cs3 _ _) (V3.nrm_nonneg _) hf p1), k.z, (g2 _).mpr (near_of (cs3 _ _) (V3.nrm_nonneg _) hf p2), rfl⟩
end Np
end
section
set_option maxRecDepth 100000
set_option maxHeartbeats 2000000
namespace Np
open PySem PySem.Spec PyProof.Rows L2
/-! ### times_near -/
abbrev sTN : Stmt := top 17
structure TnOk (ps : List (List Int)) (told : List Int) (q L : Int) : Prop where
  sh : ShL ps
  det : detL ps ≠ 0
  bd : BdP 20 ps
  len : told.length = ps.length
  tb : Bd 100 told
  q1 : 1 ≤ q
  q2 : q ≤ 10
  l0 : 0 ≤ L
  l1 : L ≤ 576 * (q * q)
def spTN (K : PySem.W.Frag) : Sp := fun vs H Q _ => ∃ (a b : Addr) (ps : List (List Int)) (told : List Int) (q L : Int), vs = [.ref a, .ref b, .int q, .int L] ∧ Rows K H a ps ∧ SqL K H b (told.map V.int) ∧ TnOk ps told q L ∧
  ∀ H' p (ts : List (List Int)), Same H H' → H p = none → RowsH H' p ts → NearT ps told q L ts → Q (.ref p) H'
theorem det_small {ps : List (List Int)} (hd : Dm ps) (hB : BdP 20 ps) : -48000 ≤ detL ps ∧ detL ps ≤ 48000 := by
  obtain ⟨n1, n2, n3, n4⟩ := nrm_shape hd
  have h1 := nrm_small hd hB
  unfold detL
  obtain ⟨n0, nr, hn⟩ : ∃ n0 nr, nrmL ps = n0 :: nr := by
    cases e : nrmL ps with
    | nil => rw [e] at n1; simp at n1; omega
    | cons a b => exact ⟨a, b, rfl⟩
  obtain ⟨p0, pr, hp⟩ : ∃ n0 nr, ps = n0 :: nr := by
    cases e : ps with
    | nil => rw [e] at n4; simp at n4
    | cons a b => exact ⟨a, b, rfl⟩
  have a1 := h1 n0 (by rw [hn]; simp)
  have a2 := hB p0 (by rw [hp]; simp)
  rw [hn, hp]
  simp only [List.headD_cons]
  have one : ∀ x ∈ n0, ∀ y ∈ p0, -16000 ≤ x * y ∧ x * y ≤ 16000 := fun x hx y hy => bd_mul (a1.2 x hx) (a2 y hy)
  match n0, p0, a1.1 with
  | [], t, _ => simp [dotL]
  | [a], [], _ => simp [dotL]
  | [a], x :: t, _ => have := one a (by simp) x (by simp); simp [dotL]; omega
  | [a, b], [], _ => simp [dotL]
  | [a, b], [x], _ => have := one a (by simp) x (by simp); simp [dotL]; omega
  | [a, b], x :: y :: t, _ => have := one a (by simp) x (by simp); have := one b (by simp) y (by simp); simp [dotL]; omega
  | [a, b, c], [], _ => simp [dotL]
  | [a, b, c], [x], _ => have := one a (by simp) x (by simp); simp [dotL]; omega
  | [a, b, c], [x, y], _ => have := one a (by simp) x (by simp); have := one b (by simp) y (by simp); simp [dotL]; omega
  | [a, b, c], x :: y :: z :: t, _ => have := one a (by simp) x (by simp); have := one b (by simp) y (by simp); have := one c (by simp) z (by simp); simp [dotL]; omega
theorem q_det {q D : Int} (h1 : 1 ≤ q) (h2 : q ≤ 10) (hD : -48000 ≤ D ∧ D ≤ 48000) : -480000 ≤ q * D ∧ q * D ≤ 480000 := by
  have := bd_mul (M := 10) (N := 48000) (x := q) (y := D) (by omega) hD
  omega
theorem limit_small {q L : Int} (h1 : 1 ≤ q) (h2 : q ≤ 10) (h : L ≤ 576 * (q * q)) : L ≤ 57600 := by
  have := sq_le_of (a := q) (m := 10) (by omega) h2
  omega
theorem left_bd {M N : Int} {q : Int} (hN : 0 ≤ N) {xs ys : List Int} (hx : Bd M xs) (hq : 0 ≤ q ∧ q ≤ 10) (hy : Bd N ys) : Bd (M + 10 * N) (leftL xs q ys) := by
  intro z hz
  obtain ⟨p, hp, rfl⟩ := List.mem_map.mp hz
  have h1 := hx p.1 (List.of_mem_zip hp).1
  have h2 := hy p.2 (List.of_mem_zip hp).2
  have h3 := bd_mul (M := 10) (x := q) (by omega) h2
  omega
theorem left_len {xs ys : List Int} {q : Int} : (leftL xs q ys).length ≤ xs.length := by
  simp [leftL]; omega
section
variable {P : Program} {w : World} {K : PySem.W.Frag} {mg : Str → Option Value} {base : Heap}
abbrev nTN : List Str := ["steps", "told", "q", "limit", "part", "choices", "normal", "times"]
theorem scTN : FnScope nTN ["steps", "told", "q", "limit"] (defScope sTN) :=
  ⟨rfl, rfl, rfl, by decide +kernel, rfl, by decide +kernel, by decide +kernel⟩
theorem ok_tn {f : Addr} {fd : FuncData} (F : Fun K "times_near" "times_near" sTN f fd) (De : Callee P w K mg base 3 "determinant" ["steps"] (spDet K)) (Do : Callee P w K mg base 1 "dot" ["one", "other"] (spDot K))
    (Le : Callee P w K mg base 2 "length" ["point"] (spLength K)) (No : Callee P w K mg base 2 "normals" ["steps"] (spNormals K)) (Nn : Callee P w K mg base 1 "numbers_near" ["whole", "part", "most"] spNumN)
    (Bo : Callee P w K mg base 1 "box" ["choices"] (spBox K)) (Lo : Callee P w K mg base 1 "left_over" ["told", "q", "point"] (spLeft K)) (G : Callee P w K mg base 1 "together" ["steps", "times"] (spTogether K)) :
    FnOk P w K mg base CX0 4 f fd ["steps", "told", "q", "limit"] (spTN K) := by
  refine F.ok scTN (fun vs H Q E h => ?_) (fun cdv A outer s H vs Q E hr h => ?_)
  · obtain ⟨a, b, ps, told, q, L, rfl, _⟩ := h
    rfl
  · refine ⟨_, pss_cons (ps_set (i := 4) scTN.nd rfl (.inr rfl) (pe_op op_mul (pv 2) (pe_def De hr rfl (pa_cons (pv 0) pa_nil))))
      (pss_cons (ps_setLc (i := 5) (own := [("normal", 6)]) (g := gName 6) (by rfl) scTN.nd rfl rfl (sw_true rfl rfl rfl (by decide +kernel))
        (pi_list (pe_def No (hr.mono (by decide)) rfl (pa_cons (pv 0) pa_nil)))
        (blkOk_by (N := nTN) (sc := defScope sTN) (by decide +kernel))
        (fun _ _ _ _ _ => by exact pg_name (i := 6) scTN.nd rfl (.inl rfl)) (fun _ _ _ _ _ => pts_nil)
        (fun _ _ _ _ _ => by exact pe_def Nn (hr.mono (by decide)) rfl (pa_cons (pe_def Do (hr.mono (by decide)) rfl (pa_cons (pv 6) (pa_cons (pv 1) pa_nil))) (pa_cons (pv 4) (pa_cons (pe_op op_mul (pe_def Le (hr.mono (by decide)) rfl (pa_cons (pv 6) pa_nil)) (pv 3)) pa_nil)))))
      (pss_one (ps_ret (pe_lc (own := [("times", 7)]) (g := gName 7) rfl scTN.nd (pi_list (pe_def Bo (hr.mono (by decide)) rfl (pa_cons (pv 5) pa_nil)))
        (blkOk_by (N := nTN) (sc := defScope sTN) (by decide +kernel))
        (fun _ _ _ _ _ => by exact pg_name (i := 7) scTN.nd rfl (.inl rfl))
        (fun _ _ _ _ _ => by exact pts_one (pt_cmpR op_le (pe_def Le (hr.mono (by decide)) rfl (pa_cons (pe_def Lo (hr.mono (by decide)) rfl (pa_cons (pv 1) (pa_cons (pv 2) (pa_cons (pe_def G (hr.mono (by decide)) rfl (pa_cons (pv 0) (pa_cons (pv 7) pa_nil))) pa_nil)))) pa_nil)) (pv 3) (nomark _)))
        (fun _ _ _ _ _ => by exact pv 7))))), ?_⟩
    obtain ⟨a, b, ps, told, q, L, rfl, hR, hb, ok, k⟩ := h
    have hd := ok.sh.dm
    have hB := ok.bd
    have hBl : BdP lim ps := fun p hp => Bd.mono (by decide) (hB p hp)
    obtain ⟨n1, n2, n3, n4⟩ := nrm_shape hd
    have hne : ps ≠ [] := fun z => by rw [z] at n4; simp at n4
    have dq := q_det ok.q1 ok.q2 (det_small hd hB)
    have ls := limit_small ok.q1 ok.q2 ok.l1
    have q1 := ok.q1
    have q2 := ok.q2
    have l0 := ok.l0
    have hp0 : q * detL ps ≠ 0 := fun e => by rcases Int.mul_eq_zero.mp e with e | e; omega; exact ok.det e
    refine ⟨_, rfl, _, rfl, a, ps, rfl, hR, hd, hBl, fun H1 r1 => ⟨_, _, rfl, rfl, .inl (by omega), ?_⟩⟩
    refine ⟨_, rfl, a, ps, rfl, Rows.keep keep_same r1 hR, hd, hBl, fun H2 pn r2 hpn hnR => ?_⟩
    have s2 := keep_same.trans r1 r2
    obtain ⟨ns, hns, hnl, hnp⟩ := hnR
    refine ⟨pn, rfl, ⟨_, hns⟩, lc_new keep_same (walk_list (xs := ns.map V.ref)) (Ch ps told q L) (fun H' r => r.seq hns) (by rw [sizeLine_eq]; simp; omega) ?_ ?_⟩
    · rintro i x H0 H' Qf hi r ⟨rfl, hx⟩ qf
      obtain ⟨ni, hni, rfl⟩ := map_get hx
      have hi' : i < (nrmL ps).length := by rw [← hnl]; simpa using hi
      obtain ⟨n, hn⟩ : ∃ n, (nrmL ps)[i]? = some n := ⟨_, List.getElem?_eq_getElem hi'⟩
      have hnm := List.mem_of_getElem? hn
      have hsm := nrm_small hd hB n hnm
      have hle := normal_le ok.sh ok.det n hnm
      have hw := dot_bd hsm.1 hsm.2 ok.tb
      have hn800 := dot_small hsm.1 hsm.2
      refine ⟨rfl, _, rfl, _, rfl, ni, b, n, told, rfl, r.seq (hnp i ni n hni hn), r.seq (s2.seq hb), ?_, by omega, big_of _ (by decide) hsm.2, fun H4 r4 => ?_⟩
      · rw [n2 n hnm, ok.len]
      · refine ⟨_, rfl, _, rfl, ni, n, rfl, r4.seq (r.seq (hnp i ni n hni hn)), by omega, big_of _ (by decide) hsm.2, fun H5 r5 => ?_⟩
        refine ⟨_, rfl, _, _, rfl, rfl, .inl (by omega), ?_⟩
        refine ⟨_, _, _, 300000, rfl, hp0, by omega, by omega, by omega, fun z hz => ?_, fun H6 l zs r6 hl e6 hzs hpw => ?_⟩
        · have := near_small rfl hp0 hle.2 hle.1 ok.l1 ok.l0 hw hz
          omega
        · refine qf zs l H6 (fun n' hn' => ?_) (keep_same.trans r4 (keep_same.trans r5 r6)) (keep_same.free (keep_same.trans r4 r5) hl) e6
          rw [hn] at hn'
          cases hn'
          exact ⟨hzs, hpw⟩
    · intro D H3 cs r3 hD hcl hcs hR3
      have s3 := keep_same.trans s2 r3
      have hcl' : cs.length = ps.length := by rw [hcl, List.length_map, hnl, n1]
      have nt := nearT_of ok.sh ok.det hB ok.len ok.tb q1 l0 ok.l1 hcl' hcs
      have hp0' := hp0
      have each : ∀ zs ∈ cs, zs.length ≤ 97 := fun zs hz => by
        obtain ⟨i, hi⟩ := List.getElem?_of_mem hz
        have hi' : i < (nrmL ps).length := by rw [n1, ← hcl']; exact (List.getElem?_eq_some_iff.mp hi).1
        obtain ⟨n, hn⟩ : ∃ n, (nrmL ps)[i]? = some n := ⟨_, List.getElem?_eq_getElem hi'⟩
        obtain ⟨h1, h2⟩ := hcs i zs hi n hn
        have a := normal_le ok.sh ok.det n (List.mem_of_getElem? hn)
        exact near_few rfl hp0 a.2 a.1 ok.l1 ok.l0 (fun z hz => (h1 z).mp hz) h2
      have bsm := box_small each (by omega)
      refine ⟨_, rfl, D, cs, rfl, hR3.rows, by omega, fun i _ => bsm i, fun H4 pb r4 hpb hRb => ?_⟩
      have s4 := keep_same.trans s3 r4
      obtain ⟨bs, hbs, hbl, hbp⟩ := hRb
      have bcnt : (boxL cs).length ≤ 1000000 := by have := bsm cs.length; rwa [List.take_length] at this
      have tin : ∀ t ∈ boxL cs, t.length = ps.length ∧ Bd 300000 t := fun t ht => by
        have h1 := boxL_len cs cs.length (Nat.le_refl _) t (by rw [List.take_length]; exact ht)
        refine ⟨by rw [h1, hcl'], ?_⟩
        have hz : ∀ zs ∈ cs, ∀ z ∈ zs, -300000 ≤ z ∧ z ≤ 300000 := fun zs hz z hzz => by
          obtain ⟨i, hi⟩ := List.getElem?_of_mem hz
          have hi' : i < (nrmL ps).length := by rw [n1, ← hcl']; exact (List.getElem?_eq_some_iff.mp hi).1
          obtain ⟨n, hn⟩ : ∃ n, (nrmL ps)[i]? = some n := ⟨_, List.getElem?_eq_getElem hi'⟩
          obtain ⟨h1, h2⟩ := hcs i zs hi n hn
          have hnm := List.mem_of_getElem? hn
          have a := normal_le ok.sh ok.det n hnm
          have hsm := nrm_small hd hB n hnm
          have := near_small rfl hp0 a.2 a.1 ok.l1 ok.l0 (dot_bd hsm.1 hsm.2 ok.tb) ((h1 z).mp hzz)
          omega
        rcases n4 with e | e
        · obtain ⟨c0, c1, rfl⟩ := get2 (l := cs) (by omega)
          obtain ⟨x, hx, y, hy, rfl⟩ := mem_box2.mp ht
          intro u hu
          simp only [List.mem_cons, List.not_mem_nil, or_false] at hu
          rcases hu with rfl | rfl
          · exact hz c0 (by simp) _ hx
          · exact hz c1 (by simp) _ hy
        · obtain ⟨c0, c1, c2, rfl⟩ := get3 (l := cs) (by omega)
          obtain ⟨x, hx, y, hy, z, hz', rfl⟩ := mem_box3.mp ht
          intro u hu
          simp only [List.mem_cons, List.not_mem_nil, or_false] at hu
          rcases hu with rfl | rfl | rfl
          · exact hz c0 (by simp) _ hx
          · exact hz c1 (by simp) _ hy
          · exact hz c2 (by simp) _ hz'
      refine ⟨pb, rfl, ⟨_, SqL.of hbs⟩, lc_filt keep_same (fun t => decide (farL told q (togL ps t) ≤ L)) (SqL.of hbs) hbl hbp (by rw [sizeLine_eq]; omega) ?_ ?_⟩
      · intro i bi t H0 Qe Qn hbi hti r qe qn
        have s0 := keep_same.trans s4 r
        obtain ⟨t1, t2⟩ := tin t (List.mem_of_getElem? hti)
        have tgb := tog_bd (M := 300000) (by decide) (by decide) hB t2 (by omega)
        have tgl : (togL ps t).length = ps.length := tog_len n3 hne
        refine ⟨rfl, _, rfl, _, rfl, _, rfl, _, rfl, a, bi, ps, t, ps.length, rfl, Rows.keep keep_same s0 hR, SqL.of (r _ _ (hbp i bi t hbi hti)), hne, t1.symm, by omega, by omega, n3, Bd.mono (by decide) t2, fun H5 p5 r5 hp5 e5 => ?_⟩
        refine ⟨b, p5, told, togL ps t, q, rfl, (keep_same.trans s0 r5).seq hb, SqL.of e5, by have := ok.len; omega, by unfold big; omega, fun H6 p6 r6 hp6 e6 => ?_⟩
        have lb := left_bd (q := q) (by decide) (Bd.mono (show (100 : Int) ≤ 100 by decide) ok.tb) (by omega) tgb
        have ll := left_len (xs := told) (ys := togL ps t) (q := q)
        refine ⟨p6, _, rfl, SqL.of e6, by have := ok.len; omega, Bd.mono (by decide) lb, fun H7 r7 => ?_⟩
        have s7 := keep_same.trans r5 (keep_same.trans r6 r7)
        refine ⟨_, rfl, _, _, rfl, rfl, _, rfl, ?_⟩
        refine bIf (fun hh => ?_) (fun hh => ?_)
        · exact ⟨_, rfl, qe H7 s7 hh⟩
        · exact qn H7 s7 hh
      · intro D2 H5 r5 hD2 hR5
        exact k H5 D2 _ (keep_same.trans s4 r5) (keep_same.free s4 hD2) hR5 nt
end
end Np
end
section
set_option maxRecDepth 100000
set_option maxHeartbeats 2000000
namespace Np
open PySem PySem.Spec PyProof.Rows L2 LamX NdefX
abbrev sLT : Stmt := top 14
/-- the lambda that a call's key= brings -/
def keyLam : Expr → Option (Arguments × Expr × Scope)
  | .Call _ _ [⟨_, .Lambda p b s _, _⟩] _ => some (p, b, s)
  | _ => none
def retE : Stmt → Expr
  | .Return (some e) _ => e
  | _ => .Name "x" ⟨0, 0, 0, 0⟩
def lamLT : Arguments × Expr × Scope := (keyLam (retE ((defBody sLT).getD 1 (.Pass ⟨0, 0, 0, 0⟩)))).getD (⟨[], [], none, [], [], none, []⟩, .Name "x" ⟨0, 0, 0, 0⟩, ⟨.function, [], false, false, []⟩)
section
variable {P : Program} {w : World} {K : PySem.W.Frag} {mg : Str → Option Value} {base : Heap}
/-- length(steps[place]): the place's step's length -/
def spPlace (K : PySem.W.Frag) : List (Option V) → Sp := fun ws vs H Q _ => ∃ (a : Addr) (ps : List (List Int)) (i : Nat) (p : List Int), ws = [some (.ref a)] ∧ vs = [.int i] ∧ Rows K H a ps ∧ ps[i]? = some p ∧ p.length ≤ 1000 ∧ Bd big p ∧
  ∀ H', Same H H' → Q (.int (dotL p p)) H'
theorem nsLT : NScope ["place", "steps"] ["place"] ["steps"] lamLT.2.2 := nscope_by (by decide +kernel)
theorem lokLT (D : Callee P w K mg base 2 "length" ["point"] (spLength K)) (q : Str) (cl : List (Str × Addr)) (f c' : Addr) :
    LOk P w K mg base 3 f ⟨"<lambda>", q, lamLT.1, [], lamLT.2.2, cl, c'⟩ lamLT.2.1 ["place"] ["steps"] (spPlace K) := by
  refine lok_of (N := ["place", "steps"]) nsLT (fun pm ctv us hl => match us, hl with | [_], _ => rfl) (fun ws vs H Q E h => ?_) (fun A outer s H vs ws Q E hr hl h => ?_)
  · obtain ⟨a, ps, i, p, rfl, rfl, _⟩ := h
    rfl
  · refine ⟨_, (pe_def D hr rfl (pa_cons (pe_ix ix_list (pv 1) (pv 0) (fun _ _ => rfl)) pa_nil) : PE (ncx CX0 P w K mg base ["place", "steps"] ⟨"<lambda>", q, lamLT.1, [], lamLT.2.2, cl, c'⟩ f A outer s H E) lamLT.2.1 _), ?_⟩
    obtain ⟨a, ps, i, p, rfl, rfl, ⟨as, has, hal, hap⟩, hp, hn, hB, k⟩ := h
    have hi : i < as.length := by rw [hal]; exact (List.getElem?_eq_some_iff.mp hp).1
    obtain ⟨ai, hai⟩ : ∃ ai, as[i]? = some ai := ⟨_, List.getElem?_eq_getElem hi⟩
    exact ⟨_, rfl, _, rfl, a, _, i, .ref ai, rfl, rfl, has, atI_nat (j := i) (by rw [List.getElem?_map, hai]; rfl), ai, p, rfl, hap i ai p hai hp, hn, hB, k⟩

def lamSB2 (sc scope : Scope) : Bool := scope.names.all fun y => !decide (y.2 = .free) || decide (sc.names.lookup y.1 = some .cell) || decide (sc.names.lookup y.1 = some .free)
theorem lamS2 {sc scope : Scope} (h : lamSB2 sc scope = true) : ∀ y ∈ scope.names, y.2 = .free → sc.names.lookup y.1 = some .cell ∨ sc.names.lookup y.1 = some .free := fun y hy e => by
  have := List.all_eq_true.mp h y hy
  simp only [Bool.or_eq_true, Bool.not_eq_true', decide_eq_false_iff_not, decide_eq_true_eq] at this
  rcases this with (z | z) | z
  · exact absurd e z
  · exact .inl z
  · exact .inr z
abbrev nLT : List Str := ["steps", "times", "taken", "place", "often"]
theorem scLT : FnScope nLT ["steps", "times"] (defScope sLT) :=
  ⟨rfl, rfl, rfl, by decide +kernel, rfl, by decide +kernel, by decide +kernel⟩
def takenI (ts : List Int) (n : Nat) : List Nat := (List.range n).filter fun i => decide (ts.getD i 0 ≠ 0)
def spLT (K : PySem.W.Frag) (T : List (Addr × Str)) : Sp := fun vs H Q _ => ∃ (a b : Addr) (ps : List (List Int)) (ts : List Int), vs = [.ref a, .ref b] ∧ Rows K H a ps ∧ SqL K H b (ts.map V.int) ∧ Tabs T H ∧ ts.length = ps.length ∧ ps.length ≤ 1000 ∧
  (∀ p ∈ ps, p.length ≤ 1000 ∧ Bd big p) ∧ takenI ts ts.length ≠ [] ∧
  ∀ H' (i : Nat), KpT T H H' → i ∈ takenI ts ts.length → (∀ j ∈ takenI ts ts.length, dotL (ps.getD j []) (ps.getD j []) ≤ dotL (ps.getD i []) (ps.getD i [])) → Q (.int i) H'
theorem takenI_succ (ts : List Int) (n : Nat) : takenI ts (n + 1) = if ts.getD n 0 ≠ 0 then takenI ts n ++ [n] else takenI ts n := by
  unfold takenI
  rw [List.range_succ, List.filter_append]
  by_cases h : ts.getD n 0 ≠ 0
  · rw [if_pos h, List.filter_cons, if_pos (by simpa using h)]; rfl
  · rw [if_neg h, List.filter_cons, if_neg (by simpa using h)]; simp
theorem ok_lt {T : List (Addr × Str)} {f c Pt : Addr} {fd : FuncData} (F : Fun K "longest_taken" "longest_taken" sLT f fd) (hcd : fd.code = .ref c) (TB : TabB base mg c Pt)
    (hT : (Pt, (Str.ofString "longest_taken.<locals>." ++ Str.ofString "<lambda>" : Str)) ∈ T) (hu : ∀ p ∈ T, p.1 = Pt → p.2 = (Str.ofString "longest_taken.<locals>." ++ Str.ofString "<lambda>" : Str))
    (D : Callee P w K mg base 2 "length" ["point"] (spLength K)) (me : mg "enumerate" = none) (mm : mg "max" = none) : FnOk P w K mg base CX0 5 f fd ["steps", "times"] (spLT K T) := by
  obtain ⟨oc, od, kV, doc, pm, an, cdv, ct, osl, rfl, lk, hcode⟩ := F.ex
  obtain rfl : cdv = .ref c := hcd
  refine fn_of lk hcode scLT (fun vs H Q E h => ?_) fun A outer s H vs Q E hr h => ?_
  · obtain ⟨a, b, ps, ts, rfl, _⟩ := h
    rfl
  · have frX : ∀ y ∈ lamLT.2.2.names, y.2 = .free → (defScope sLT).names.lookup y.1 = some .cell ∨ (defScope sLT).names.lookup y.1 = some .free := by
      have : lamSB2 (defScope sLT) lamLT.2.2 = true := by decide +kernel
      exact lamS2 this
    generalize hX0 : cxOf CX0 P w K mg base nLT (Str.ofString "longest_taken") (defScope sLT) f (Value.ref c) A outer s H E = X0
    have eX : X0.env.cells = (cxOf CX0 P w K mg base nLT (Str.ofString "longest_taken") (defScope sLT) f (Value.ref c) A outer s H E).env.cells := by rw [hX0]
    subst hX0
    refine ⟨_, pss_cons (ps_setLc (i := 2) (own := [("place", 3), ("often", 4)]) (g := gTup K 2 (gCons (gName 3) (gCons (gName 4) gNil))) (by rfl) scLT.nd rfl rfl (sw_true rfl rfl rfl (by decide +kernel))
        (pi_enum (by rfl) me (pa_cons (pv 1) pa_nil))
        (blkOk_by (N := nLT) (sc := defScope sLT) (by decide +kernel))
        (fun _ _ _ _ _ => by exact pg_tup rfl (pgs_cons (pg_name (i := 3) scLT.nd rfl (.inl rfl)) (pgs_cons (pg_name (i := 4) scLT.nd rfl (.inl rfl)) pgs_nil)))
        (fun _ _ _ _ _ => pts_one (pt_cmpR op_ne (pv 4) pe_int (nomark _))) (fun _ _ _ _ _ => pv 3))
      (pss_one (ps_ret (pe_maxL (T := T) (js := [0]) (k := 3) (ps := ["place"]) (fr := ["steps"]) (sp := spPlace K) (b := lamLT.2.1) (cl := cloFrom (cxOf CX0 P w K mg base nLT (Str.ofString "longest_taken") (defScope sLT) f (Value.ref c) A outer s H E).env.cells lamLT.2.2.names []) (mk := fun c' => ⟨"<lambda>", Str.ofString "longest_taken.<locals>." ++ Str.ofString "<lambda>", lamLT.1, [], lamLT.2.2, cloFrom (cxOf CX0 P w K mg base nLT (Str.ofString "longest_taken") (defScope sLT) f (Value.ref c) A outer s H E).env.cells lamLT.2.2.names [], c'⟩) (fun f' c' => lokLT D _ _ f' c') (fun _ => rfl) hr
        (fun ok => Caps.made (scope := lamLT.2.2) ok frX (by decide +kernel) rfl) (by rfl) mm (pa_cons (pv 2) pa_nil) (pe_lam (scope := lamLT.2.2) TB rfl hT hu frX)))), ?_⟩
    obtain ⟨a, b, ps, ts, rfl, hR, hb, tabs, hl, hn, hB, hne, k⟩ := h
    refine ⟨_, rfl, b, _, rfl, hb, fun D hD => lc_it (walk_enum (xs := ts.map V.int)) (fun i H' => Same H H' ∧ H' D = some (.lst ((takenI ts i).map fun (j : Nat) => V.int j)))
      ⟨keep_same.new hD, upd_same⟩ (fun i H' _ ⟨r, _⟩ => r.seq hb) ?_ ?_⟩
    · rintro i x H0 H' hi ⟨r, hL⟩ ⟨U, x1, y1, rfl, nU, rfl, hx, hy⟩
      cases hx
      obtain ⟨t, ht, rfl⟩ := map_get hy
      have hd : ts.getD i 0 = t := by simp [ht]
      have s1 := keep_same.new (o := .tup [V.int i, V.int t]) nU
      have hL1 := s1 _ _ hL
      refine ⟨U, _, rfl, SqT.of upd_same, rfl, _, _, rfl, _, _, rfl, rfl, rfl, _, rfl, rfl, _, rfl, ?_⟩
      refine bIf (fun hh => ?_) (fun hh => ?_)
      · have h0 := int_ne.mp hh
        have lenD : (takenI ts i).length ≤ i := by unfold takenI; exact Nat.le_trans (List.length_filter_le _ _) (by simp)
        have hi2 : i < ts.length := by simpa using hi
        refine ⟨_, rfl, _, hL1, by rw [sizeLine_eq]; simp; omega, keep_same.put (keep_same.trans r s1) hD (.inr ⟨_, hL1⟩), ?_⟩
        rw [upd_same, takenI_succ, if_pos (by rw [hd]; exact h0)]
        simp
      · have h0 := int_eq.mp hh
        refine ⟨keep_same.trans r s1, ?_⟩
        rw [takenI_succ, if_neg (by rw [hd]; simpa using h0)]
        exact hL1
    · rintro H1 ⟨r1, hL⟩
      rw [List.length_map] at hL
      refine ⟨_, rfl, tabs.ext r1, fun f' c' H2 k2 f0 atf atc => ?_⟩
      have k02 : KpT T H H2 := (keep_tabs T).trans (same_tabs r1) k2
      generalize hI : takenI ts ts.length = I at *
      refine ⟨D, f', c', _, fun j => dotL (ps.getD (I.getD j 0) []) (ps.getD (I.getD j 0) []), rfl, rfl, SqL.of ((keep_tabs T).lst k2 hL), ?_, atf, atc, ?_, ?_⟩
      · cases I with
        | nil => exact absurd rfl hne
        | cons i0 ir => simp
      · intro j x H' Q' hx k3 q
        obtain ⟨m, hm, rfl⟩ := map_get hx
        have hmI : m ∈ I := List.mem_of_getElem? hm
        have hlt : m < ps.length := by
          rw [← hI] at hmI
          unfold takenI at hmI
          have := (List.mem_filter.mp hmI).1
          rw [List.mem_range] at this
          omega
        obtain ⟨p, hp⟩ : ∃ p, ps[m]? = some p := ⟨_, List.getElem?_eq_getElem hlt⟩
        have hb2 := hB p (List.mem_of_getElem? hp)
        have e1 : I.getD j 0 = m := by simp [hm]
        have e2 : ps.getD m [] = p := by simp [hp]
        simp only [e1, e2] at q
        exact ⟨a, ps, m, p, rfl, rfl, Rows.keep (keep_tabs T) ((keep_tabs T).trans k02 k3) hR, hp, hb2.1, hb2.2, fun H3 r3 => q H3 (same_tabs r3)⟩
      · intro j x H' hx best k3
        obtain ⟨m, hm, rfl⟩ := map_get hx
        have e1 : I.getD j 0 = m := by simp [hm]
        refine k H' m ((keep_tabs T).trans k02 k3) (List.mem_of_getElem? hm) (fun j' hj' => ?_)
        obtain ⟨i', hi'⟩ := List.mem_iff_getElem?.mp hj'
        have lt : i' < I.length := (List.getElem?_eq_some_iff.mp hi').1
        have := (best.2 i' (by rw [List.length_map]; omega)).1
        have e3 : I.getD i' 0 = j' := by simp [hi']
        simp only [e1, e3] at this
        exact this
end
end Np
end
section
set_option maxRecDepth 100000
set_option maxHeartbeats 2000000
/-! Sorting by order's keys is the order. -/
namespace Np
open PySem PySem.Spec PyProof.Rows L2
theorem negs_lt : ∀ {v u : List Int}, Sq67.firstOf v u = true → v.map (fun x => -x) < u.map (fun x => -x)
  | a :: l, b :: m, h => by
    simp only [Sq67.firstOf, Bool.or_eq_true, decide_eq_true_eq, Bool.and_eq_true, beq_iff_eq] at h
    rw [List.map_cons, List.map_cons, List.cons_lt_cons_iff]
    rcases h with h | ⟨rfl, h⟩
    · left; omega
    · right; exact ⟨rfl, negs_lt h⟩
  | [], _, h => by simp [Sq67.firstOf] at h
  | _ :: _, [], h => by simp [Sq67.firstOf] at h
theorem order_lt {v u : List Int} (h : Sq67.before v u = true) : orderL v < orderL u := by
  unfold orderL
  rw [List.cons_lt_cons_iff]
  rcases (before_iff v u).mp h with h | ⟨h, g⟩
  · left; exact h
  · right; exact ⟨h, negs_lt g⟩
theorem before_of_le {v u : List Int} (hl : v.length = u.length) (hne : v ≠ u) (h : orderL v ≤ orderL u) : Bef v u := by
  rcases before_total hl hne with g | g
  · exact g
  · exact absurd (order_lt g) h
theorem sorted_told {Pr : List Int → Prop} {n : Nat} {β : Type} (f : β → List Int) {bs : List β} (hnd : bs.Nodup) (hinj : ∀ a ∈ bs, ∀ b ∈ bs, f a = f b → a = b) (hlen : ∀ b ∈ bs, (f b).length = n)
    (hP : ∀ v, (∃ b ∈ bs, f b = v) ↔ Pr v) : Told Pr ((bs.mergeSort (PySem.W.dataLe false fun y => listD (orderL (f y)))).map f) := by
  have e : (PySem.W.dataLe false fun y => listD (orderL (f y))) = fun p q => decide (orderL (f p) ≤ orderL (f q)) := PySem.W.dataLe_rows fun y => orderL (f y)
  rw [e]
  have pm : (bs.mergeSort fun p q => decide (orderL (f p) ≤ orderL (f q))).Perm bs := List.mergeSort_perm _ _
  have pw : (bs.mergeSort fun p q => decide (orderL (f p) ≤ orderL (f q))).Pairwise (fun p q => decide (orderL (f p) ≤ orderL (f q)) = true) := by
    refine List.pairwise_mergeSort (fun a b c h1 h2 => ?_) (fun a b => ?_) bs
    · simp only [decide_eq_true_eq] at *
      exact List.le_trans h1 h2
    · simp only [Bool.or_eq_true, decide_eq_true_eq]
      exact List.le_total _ _
  have nd : (bs.mergeSort fun p q => decide (orderL (f p) ≤ orderL (f q))).Nodup := pm.nodup_iff.mpr hnd
  generalize bs.mergeSort (fun p q => decide (orderL (f p) ≤ orderL (f q))) = cs at *
  refine ⟨?_, fun v => ?_⟩
  · rw [List.pairwise_map]
    have both := List.Pairwise.and pw (List.nodup_iff_pairwise_ne.mp nd)
    refine List.Pairwise.imp_of_mem (fun {a b} ha hb h => ?_) both
    have ha' := pm.mem_iff.mp ha
    have hb' := pm.mem_iff.mp hb
    exact before_of_le (by rw [hlen a ha', hlen b hb']) (fun e => h.2 (hinj a ha' b hb' e)) (of_decide_eq_true h.1)
  · rw [← hP v, List.mem_map]
    constructor
    · rintro ⟨a, ha, rfl⟩; exact ⟨a, pm.mem_iff.mp ha, rfl⟩
    · rintro ⟨a, ha, rfl⟩; exact ⟨a, pm.mem_iff.mpr ha, rfl⟩
theorem tog_inj {ps : List (List Int)} (hd : Dm ps) (h0 : detL ps ≠ 0) {s t : List Int} (hs : s.length = ps.length) (ht : t.length = ps.length) (e : togL ps s = togL ps t) : s = t := by
  rcases hd with ⟨m, rfl⟩ | ⟨m, rfl⟩
  · obtain ⟨k, rfl⟩ := len2 (v := s) hs
    obtain ⟨l, rfl⟩ := len2 (v := t) ht
    rw [tog2, tog2] at e
    rw [detL2] at h0
    rw [B2.pt_inj h0 (l2_inj e)]
  · obtain ⟨k, rfl⟩ := len3 (v := s) hs
    obtain ⟨l, rfl⟩ := len3 (v := t) ht
    rw [tog3, tog3] at e
    rw [detL3] at h0
    rw [B3.pt_inj h0 (l3_inj e)]
/-- led to -/
def Led (ps : List (List Int)) (v : List Int) : Prop := ∃ t, t.length = ps.length ∧ v = togL ps t
def FwdTo (ps : List (List Int)) (L : Int) (v : List Int) : Prop := (Led ps v ∧ Sq67.forward v = true) ∧ Sq67.norm v ≤ L
structure UpTo (ps : List (List Int)) (L : Int) (ts : List (List Int)) : Prop where
  cnt : ts.length ≤ 1000000
  len : ∀ t ∈ ts, t.length = ps.length
  bd : ∀ t ∈ ts, Bd 48 t
  told : Told (FwdTo ps L) (ts.map (togL ps))
theorem far_origin {ps : List (List Int)} {v : List Int} (hv : v.length = ps.length) (hd : Dm ps) : farL (List.replicate ps.length 0) 1 v = Sq67.norm v := by
  rcases hd with ⟨m, rfl⟩ | ⟨m, rfl⟩
  · obtain ⟨k, rfl⟩ := len2 (v := v) hv
    show farL (l2 V2.zero) 1 (l2 k) = _
    rw [farL, left2, dotL2, norm2]
    simp only [df2, V2.dot, V2.nrm, V2.add, V2.smul, V2.zero]; grind
  · obtain ⟨k, rfl⟩ := len3 (v := v) hv
    show farL (l3 V3.zero) 1 (l3 k) = _
    rw [farL, left3, dotL3, norm3]
    simp only [df3, V3.dot, V3.nrm, V3.add, V3.smul, V3.zero]; grind
theorem upTo_of {ps : List (List Int)} {L : Int} (hd : Dm ps) (h0 : detL ps ≠ 0) {ts : List (List Int)} (h : NearT ps (List.replicate ps.length 0) 1 L ts) :
    UpTo ps L ((ts.filter fun t => Sq67.forward (togL ps t)).mergeSort (PySem.W.dataLe false fun y => listD (orderL (togL ps y)))) := by
  have pm := List.mergeSort_perm (ts.filter fun t => Sq67.forward (togL ps t)) (PySem.W.dataLe false fun y => listD (orderL (togL ps y)))
  obtain ⟨n1, n2, n3, n4⟩ := nrm_shape hd
  have hne : ps ≠ [] := fun z => by rw [z] at n4; simp at n4
  have hin : ∀ t ∈ (ts.filter fun t => Sq67.forward (togL ps t)), t ∈ ts := fun t ht => (List.mem_filter.mp ht).1
  refine ⟨?_, fun t ht => h.len t (hin t (pm.mem_iff.mp ht)), fun t ht => h.bd0 (fun x hx => (List.mem_replicate.mp hx).2) t (hin t (pm.mem_iff.mp ht)), ?_⟩
  · rw [pm.length_eq]
    exact Nat.le_trans (List.length_filter_le _ _) h.cnt
  · refine sorted_told (n := ps.length) (togL ps) (List.Nodup.sublist (List.filter_sublist) h.nd) (fun a ha b hb e => tog_inj hd h0 (h.len a (hin a ha)) (h.len b (hin b hb)) e) (fun b _ => tog_len n3 hne) (fun v => ?_)
    constructor
    · rintro ⟨b, hb, rfl⟩
      have hb' := List.mem_filter.mp hb
      have hm := (h.mem b).mp hb'.1
      refine ⟨⟨⟨b, hm.1, rfl⟩, hb'.2⟩, ?_⟩
      rw [← far_origin (tog_len n3 hne) hd]; exact hm.2
    · rintro ⟨⟨⟨t, ht, rfl⟩, hf⟩, hL⟩
      refine ⟨t, List.mem_filter.mpr ⟨(h.mem t).mpr ⟨ht, ?_⟩, hf⟩, rfl⟩
      rw [far_origin (tog_len n3 hne) hd]; exact hL
end Np
end
section
set_option maxRecDepth 100000
set_option maxHeartbeats 2000000
namespace Np
open PySem PySem.Spec PyProof.Rows L2 LamX NdefX
/-! ### times_up_to -/
abbrev sTU : Stmt := top 18
def lamTU : Arguments × Expr × Scope := (keyLam (retE ((defBody sTU).getD 2 (.Pass ⟨0, 0, 0, 0⟩)))).getD (⟨[], [], none, [], [], none, []⟩, .Name "x" ⟨0, 0, 0, 0⟩, ⟨.function, [], false, false, []⟩)
section
variable {P : Program} {w : World} {K : PySem.W.Frag} {mg : Str → Option Value} {base : Heap}
/-- order(together(steps, times)) -/
def spKey (K : PySem.W.Frag) : List (Option V) → Sp := fun ws vs H Q _ => ∃ (a b : Addr) (ps : List (List Int)) (ts : List Int) (n : Nat), ws = [some (.ref a)] ∧ vs = [.ref b] ∧ Rows K H a ps ∧ SqL K H b (ts.map V.int) ∧
  ps ≠ [] ∧ ps.length = ts.length ∧ ps.length ≤ 1000 ∧ n ≤ 1000 ∧ (∀ p ∈ ps, p.length = n) ∧ Bd big ts ∧ (togL ps ts).length ≤ 1000 ∧ Bd big (togL ps ts) ∧
  ∀ H' p, Same H H' → H p = none → H' p = some (.lst ((orderL (togL ps ts)).map V.int)) → Q (.ref p) H'
theorem nsTU : NScope ["times", "steps"] ["times"] ["steps"] lamTU.2.2 := nscope_by (by decide +kernel)
theorem lokTU (O : Callee P w K mg base 3 "order" ["point"] (spOrder K)) (G : Callee P w K mg base 1 "together" ["steps", "times"] (spTogether K)) (q : Str) (cl : List (Str × Addr)) (f c' : Addr) :
    LOk P w K mg base 4 f ⟨"<lambda>", q, lamTU.1, [], lamTU.2.2, cl, c'⟩ lamTU.2.1 ["times"] ["steps"] (spKey K) := by
  refine lok_of (N := ["times", "steps"]) nsTU (fun pm ctv us hl => match us, hl with | [_], _ => rfl) (fun ws vs H Q E h => ?_) (fun A outer s H vs ws Q E hr hl h => ?_)
  · obtain ⟨a, b, ps, ts, n, rfl, rfl, _⟩ := h
    rfl
  · refine ⟨_, (pe_def O hr rfl (pa_cons (pe_def G (hr.mono (by decide)) rfl (pa_cons (pv 1) (pa_cons (pv 0) pa_nil))) pa_nil) : PE (ncx CX0 P w K mg base ["times", "steps"] ⟨"<lambda>", q, lamTU.1, [], lamTU.2.2, cl, c'⟩ f A outer s H E) lamTU.2.1 _), ?_⟩
    obtain ⟨a, b, ps, ts, n, rfl, rfl, hR, hb, h1, h2, h3, h4, h5, h6, h7, h8, k⟩ := h
    refine ⟨_, rfl, _, rfl, a, b, ps, ts, n, rfl, hR, hb, h1, h2, h3, h4, h5, h6, fun H1 p r1 hp e1 => ?_⟩
    exact ⟨p, _, rfl, SqL.of e1, h7, h8, fun H2 q2 r2 hq2 e2 => k H2 q2 (keep_same.trans r1 r2) (keep_same.free r1 hq2) e2⟩

theorem each_of_get {α β : Type} {R : α → β → Prop} : ∀ {as : List α} {bs : List β}, as.length = bs.length → (∀ (j : Nat) (a : α) (b : β), as[j]? = some a → bs[j]? = some b → R a b) → PySem.W.EachIs R as bs
  | [], [], _, _ => .nil
  | [], _ :: _, h, _ => by simp at h
  | _ :: _, [], h, _ => by simp at h
  | a :: as, b :: bs, h, g => .cons (g 0 a b rfl rfl) (each_of_get (by simpa using h) fun j x y e1 e2 => g (j + 1) x y (by simpa using e1) (by simpa using e2))
theorem rows_of_each {H : Hp} {l : Addr} : ∀ {zs : List V} {ys : List (List Int)}, PySem.W.EachIs (fun x (y : List Int) => ∃ b, x = V.ref b ∧ H b = some (.lst (y.map V.int)) ∧ b ≠ l) zs ys →
    ∃ as : List Addr, zs = as.map V.ref ∧ as.length = ys.length ∧ ∀ (j : Nat) (b : Addr) (y : List Int), as[j]? = some b → ys[j]? = some y → H b = some (.lst (y.map V.int)) ∧ b ≠ l
  | _, _, .nil => ⟨[], rfl, rfl, fun j b y e => by simp at e⟩
  | _, _, .cons ⟨b, e, h1, h2⟩ es => by
    obtain ⟨as, rfl, hl, hp⟩ := rows_of_each es
    refine ⟨b :: as, by rw [e]; rfl, by simp [hl], fun j b' y' e1 e2 => ?_⟩
    cases j with
    | zero => cases e1; cases e2; exact ⟨h1, h2⟩
    | succ j => exact hp j b' y' (by simpa using e1) (by simpa using e2)
/-- THE RULE for a def whose own code object is known -/
theorem fun_okC {x qual : Str} {st : Stmt} {f c : Addr} {fd : FuncData} {N ps : List Str} {k : Nat} {sp : Sp} (F : Fun K x qual st f fd) (hcd : fd.code = .ref c) (S : FnScope N ps (defScope st)) (len : ∀ vs H Q E, sp vs H Q E → vs.length = ps.length)
    (hb : ∀ (A : Around) (outer : List Env) (s : Shared) (H : Hp) (vs : List V) (Q : VK) (E : XK), Room k (A.deeper (envOfC qual (defScope st) s.heap.objs.size f (.ref c))) → sp vs H Q E →
      ∃ t, PSs (cxOf CX0 P w K mg base N qual (defScope st) f (.ref c) A outer s H E).nox (defBody st) t ∧ t { nx := fun _ H' => Q .non H', rt := Q } (L2.start N vs) H) : FnOk P w K mg base CX0 (k + 1) f fd ps sp := by
  obtain ⟨oc, od, kV, doc, pm, an, cdv, ct, osl, rfl, lk, hc⟩ := F.ex
  obtain rfl : cdv = .ref c := hcd
  refine fn_of lk hc S len fun A outer s H vs Q E hr h => ?_
  obtain ⟨t, d, q⟩ := hb A outer s H vs Q E hr h
  exact ⟨t, d.nox, q⟩
abbrev nTU : List Str := ["steps", "limit", "origin", "found", "step", "times"]
theorem scTU : FnScope nTU ["steps", "limit"] (defScope sTU) :=
  ⟨rfl, rfl, rfl, by decide +kernel, rfl, by decide +kernel, by decide +kernel⟩
def spTU (K : PySem.W.Frag) (T : List (Addr × Str)) : Sp := fun vs H Q _ => ∃ (a : Addr) (ps : List (List Int)) (L : Int), vs = [.ref a, .int L] ∧ Rows K H a ps ∧ ShL ps ∧ BdP 20 ps ∧ detL ps ≠ 0 ∧ 0 ≤ L ∧ L ≤ 576 ∧ Tabs T H ∧
  ∀ H' p ts, KpT T H H' → H p = none → RowsH H' p ts → UpTo ps L ts → Q (.ref p) H'
theorem ok_tu {T : List (Addr × Str)} {f c Pt : Addr} {fd : FuncData} (F : Fun K "times_up_to" "times_up_to" sTU f fd) (hcd : fd.code = .ref c) (TB : TabB base mg c Pt)
    (hT : (Pt, (Str.ofString "times_up_to.<locals>." ++ Str.ofString "<lambda>" : Str)) ∈ T) (hu : ∀ p ∈ T, p.1 = Pt → p.2 = (Str.ofString "times_up_to.<locals>." ++ Str.ofString "<lambda>" : Str))
    (Tn : Callee P w K mg base 4 "times_near" ["steps", "told", "q", "limit"] (spTN K)) (Fo : Callee P w K mg base 1 "is_forward" ["point"] (spForward K)) (O : Callee P w K mg base 3 "order" ["point"] (spOrder K)) (G : Callee P w K mg base 1 "together" ["steps", "times"] (spTogether K))
    (ms : mg "sorted" = none) : FnOk P w K mg base CX0 7 f fd ["steps", "limit"] (spTU K T) := by
  refine fun_okC F hcd scTU (fun vs H Q E h => ?_) fun A outer s H vs Q E hr h => ?_
  · obtain ⟨a, ps, L, rfl, _⟩ := h
    rfl
  · have frX : ∀ y ∈ lamTU.2.2.names, y.2 = .free → (defScope sTU).names.lookup y.1 = some .cell ∨ (defScope sTU).names.lookup y.1 = some .free := by
      have : lamSB2 (defScope sTU) lamTU.2.2 = true := by decide +kernel
      exact lamS2 this
    refine ⟨_, pss_cons (ps_setLc (i := 2) (own := [("step", 4)]) (g := gName 4) (by rfl) scTU.nd rfl rfl (sw_true rfl rfl rfl (by decide +kernel))
        (pi_list (pv 0))
        (blkOk_by (N := nTU) (sc := defScope sTU) (by decide +kernel))
        (fun _ _ _ _ _ => by exact pg_name (i := 4) scTU.nd rfl (.inl rfl)) (fun _ _ _ _ _ => pts_nil) (fun _ _ _ _ _ => pe_int))
      (pss_cons (ps_setLc (i := 3) (own := [("times", 5)]) (g := gName 5) (by rfl) scTU.nd rfl rfl (sw_true rfl rfl rfl (by decide +kernel))
        (pi_list (pe_def Tn (hr.mono (by decide)) rfl (pa_cons (pv 0) (pa_cons (pv 2) (pa_cons pe_int (pa_cons (pv 1) pa_nil))))))
        (blkOk_by (N := nTU) (sc := defScope sTU) (by decide +kernel))
        (fun _ _ _ _ _ => by exact pg_name (i := 5) scTU.nd rfl (.inl rfl))
        (fun _ _ _ _ _ => by exact pts_one (pt_val (pe_def Fo (hr.mono (by decide)) rfl (pa_cons (pe_def G (hr.mono (by decide)) rfl (pa_cons (pv 0) (pa_cons (pv 5) pa_nil))) pa_nil))))
        (fun _ _ _ _ _ => by exact pv 5))
      (pss_one (ps_ret (pe_sortL (T := T) (js := [0]) (k := 4) (ps := ["times"]) (fr := ["steps"]) (sp := spKey K) (b := lamTU.2.1)
        (cl := cloFrom (cxOf CX0 P w K mg base nTU (Str.ofString "times_up_to") (defScope sTU) f (Value.ref c) A outer s H E).env.cells lamTU.2.2.names [])
        (mk := fun c' => ⟨"<lambda>", Str.ofString "times_up_to.<locals>." ++ Str.ofString "<lambda>", lamTU.1, [], lamTU.2.2, cloFrom (cxOf CX0 P w K mg base nTU (Str.ofString "times_up_to") (defScope sTU) f (Value.ref c) A outer s H E).env.cells lamTU.2.2.names [], c'⟩)
        (fun f' c' => lokTU O G _ _ f' c') (fun _ => rfl) hr
        (fun ok => Caps.made (scope := lamTU.2.2) ok frX (by decide +kernel) rfl) (by rfl) ms (pa_cons (pv 3) pa_nil) (pe_lam (scope := lamTU.2.2) TB rfl hT hu frX))))), ?_⟩
    obtain ⟨a, ps, L, rfl, hR, hS, hB, h0, hL0, hL1, tabs, k⟩ := h
    have hd := hS.dm
    obtain ⟨n1, n2, n3, n4⟩ := nrm_shape hd
    have hne : ps ≠ [] := fun z => by rw [z] at n4; simp at n4
    obtain ⟨as, has, hal, hap⟩ := id hR
    refine ⟨_, rfl, a, rfl, ⟨_, has⟩, lc_ints keep_same (walk_list (xs := as.map V.ref)) (List.replicate ps.length 0) (by simp [hal]) (fun H' r => r.seq has) (by rw [sizeLine_eq]; simp; omega) ?_ ?_⟩
    · rintro i v z H0 H' Qf hz r ⟨rfl, hx⟩ q
      have : z = 0 := (List.mem_replicate.mp (List.mem_of_getElem? hz)).2
      subst this
      exact ⟨rfl, q _ (keep_same.refl _)⟩
    · intro D0 H1 r1 hD0 e1
      have tn : TnOk ps (List.replicate ps.length 0) 1 L := ⟨hS, h0, hB, by simp, fun x hx => by have := (List.mem_replicate.mp hx).2; omega, by decide, by decide, hL0, by omega⟩
      refine ⟨_, rfl, _, rfl, _, rfl, a, D0, ps, _, 1, L, rfl, Rows.keep keep_same r1 hR, SqL.of e1, tn, fun H2 p2 ts r2 hp2 hR2 nt => ?_⟩
      have s2 := keep_same.trans r1 r2
      obtain ⟨bs, hbs, hbl, hbp⟩ := id hR2
      refine ⟨p2, rfl, ⟨_, SqL.of hbs⟩, lc_filt keep_same (fun t => Sq67.forward (togL ps t)) (SqL.of hbs) hbl hbp (by rw [sizeLine_eq]; have := nt.cnt; omega) ?_ ?_⟩
      · intro i bi t H0 Qe Qn hbi hti r qe qn
        have tm := List.mem_of_getElem? hti
        refine ⟨rfl, _, rfl, _, rfl, a, bi, ps, t, ps.length, rfl, Rows.keep keep_same (keep_same.trans s2 r) hR, SqL.of (r _ _ (hbp i bi t hbi hti)), hne, (nt.len t tm).symm, by omega, by omega, n3, Bd.mono (by decide) (nt.bd t tm), fun H5 p5 r5 hp5 e5 => ?_⟩
        refine ⟨p5, _, rfl, SqL.of e5, _, rfl, ?_⟩
        refine bIf (fun hh => ?_) (fun hh => ?_)
        · exact ⟨_, rfl, qe H5 r5 hh⟩
        · exact qn H5 r5 hh
      · intro l H3 r3 hl hR3
        have s3 := keep_same.trans s2 r3
        obtain ⟨cs, hL, hcl, hcs⟩ := hR3
        refine ⟨_, rfl, tabs.ext s3, fun f' c' H8 k8 f0 atf atc => ?_⟩
        have k08 : KpT T H H8 := (keep_tabs T).trans (same_tabs s3) k8
        have fmem : ∀ y ∈ (ts.filter fun t => Sq67.forward (togL ps t)), y ∈ ts := fun y hy => (List.mem_filter.mp hy).1
        refine ⟨l, f', c', cs.map V.ref, ts.filter fun t => Sq67.forward (togL ps t), fun y => orderL (togL ps y), ps.length + 1, fun x y => ∃ b, x = .ref b ∧ H3 b = some (.lst (y.map V.int)) ∧ b ≠ f', rfl, rfl, SqL.of ((keep_tabs T).lst k8 hL), atf, atc, ?_, ?_, ?_, ?_⟩
        · refine each_of_get (by rw [List.length_map]; exact hcl) (fun j x y e1 e2 => ?_)
          obtain ⟨b, hb, rfl⟩ := map_get e1
          exact ⟨b, rfl, hcs j b y hb e2, fun z => by have := hcs j b y hb e2; rw [z, f0] at this; cases this⟩
        · intro y hy
          show (orderL (togL ps y)).length = _
          unfold orderL
          rw [List.length_cons, List.length_map, tog_len n3 hne]
        · intro j x y H9 Q' e1 e2 k9 q
          obtain ⟨b, hb, rfl⟩ := map_get e1
          have hy := fmem y (List.mem_of_getElem? e2)
          have h6 := hcs j b y hb e2
          exact ⟨a, b, ps, y, ps.length, rfl, rfl, Rows.keep (keep_tabs T) ((keep_tabs T).trans k08 k9) hR, SqL.of ((keep_tabs T).lst ((keep_tabs T).trans k8 k9) h6), hne, (nt.len y hy).symm, by omega, by omega, n3, Bd.mono (by decide) (nt.bd y hy),
            by rw [tog_len n3 hne]; omega, Bd.mono (by decide) (tog_bd (M := 300000) (by decide) (by decide) hB (nt.bd y hy) (by omega)), fun H10 p r10 hp e10 => q H10 p (same_tabs r10) hp e10⟩
        · intro H9 p zs k9 hp ez each
          refine k H9 p _ ((keep_tabs T).trans k08 k9) ((keep_tabs T).free k08 hp) ?_ (upTo_of hd h0 nt)
          obtain ⟨as, rfl, hal, hap⟩ := rows_of_each each
          exact ⟨as, ez, hal, fun j b y e1 e2 => (keep_tabs T).lst ((keep_tabs T).trans k8 k9) (hap j b y e1 e2).1⟩
end
end Np
end
section
set_option maxRecDepth 100000
set_option maxHeartbeats 2000000
/-! any(xs), xs whole numbers. -/
namespace Np
open PySem PySem.Spec PyProof.Rows L2
theorem truth_intsN {prog : Program} {w : World} {A : Around} {ns : List Int} {its : List Value} (e : Vals (ns.map V.int) its) :
    TruthOf prog w A (fun i v => its.toArray[i]? = some v) (fun i => (ns.map fun n => n != 0).getD i false) := fun i v s Q E hv hq => by
  have hv' : its[i]? = some v := by simpa using hv
  have key : ∀ (ns : List Int) (its : List Value) (i : Nat), Vals (ns.map V.int) its → its[i]? = some v → ∃ n t, ns[i]? = some n ∧ v = .int n t := by
    intro ns
    induction ns with
    | nil => intro its i r h; cases r; simp at h
    | cons n ns ih =>
      intro its i r h
      cases r with
      | cons r rs =>
        obtain ⟨t, rfl⟩ := r
        cases i with
        | zero => cases h; exact ⟨n, t, rfl, rfl⟩
        | succ i => exact ih _ i rs (by simpa using h)
  obtain ⟨n, t, hn, rfl⟩ := key ns its i e hv'
  have hg : (ns.map fun n => n != 0).getD i false = (n != 0) := by rw [List.getD_eq_getElem?_getD, List.getElem?_map, hn]; rfl
  have hq' : Q ((ns.map fun n => n != 0).getD i false) s := hq
  rw [hg] at hq'
  exact PyProof.Rows.truthy_int hq'
def rAnyI (K : PySem.W.Frag) : List V → Hp → VK → Prop := fun vs H Q => ∃ (a : Addr) (ns : List Int), vs = [V.ref a] ∧ SqL K H a (ns.map V.int) ∧ Q (.bl (ns.any fun n => n != 0)) H
theorem cr_anyI {X : Cx} (hc : X.calm = true) : CallR X (.builtin "any") (rAnyI X.K) := by
  intro pins s σ H vs us Q I r h
  obtain ⟨a, ns, rfl, hs, q⟩ := h
  obtain ⟨its, rv, hl, _⟩ := I.list hs
  rw [Vals.ref1 r]
  have hlen : its.length = ns.length := by rw [← rv.length]; simp
  refine call_any_walk (iter_any hl.isList fun s₂ e2 st hne => ?_)
  subst e2
  refine ⟨_, _, _, _, _, _, _, rfl, Walks.list (A := X.A.in1) (I.ok.hd hc) _ a hne its.toArray, st, truth_intsN rv, fun h' tk hk => ?_⟩
  refine ⟨.bl _, H, I.kept fun b o eo => hk b o (fun hmem => ?_) (Heap.get?_push_of_some _ eo), ?_, q⟩
  · rcases List.mem_cons.mp hmem with e1 | hmem
    · exact absurd (e1 ▸ Heap.lt_size eo) (Nat.lt_irrefl _)
    · cases hmem
  · show Value.bool _ = Value.bool _
    have := any_range (ns.map fun n => n != 0)
    rw [List.length_map, List.any_map] at this
    rw [List.size_toArray, hlen, this]
    rfl
theorem cr_anyK {X : Cx} (K : PySem.W.Frag) (hK : X.K = K) (hc : X.calm = true) : CallR X (.builtin "any") (rAnyI K) := by
  subst hK
  exact cr_anyI hc
end Np
end
section
set_option maxRecDepth 100000
set_option maxHeartbeats 2000000
namespace Np
open PySem PySem.Spec PyProof.Rows L2 LamX NdefX
/-! ### shortened: the numbers -/
abbrev sSh : Stmt := top 15
def SameL (ps qs : List (List Int)) : Prop := (∃ m s, ps = b2 m ∧ qs = b2 s ∧ Same2 m s) ∨ (∃ m s, ps = b3 m ∧ qs = b3 s ∧ Same3 m s)
theorem SameL.dm {ps qs : List (List Int)} (h : SameL ps qs) : Dm qs := by
  rcases h with ⟨m, s, _, e, _⟩ | ⟨m, s, _, e, _⟩
  · exact .inl ⟨s, e⟩
  · exact .inr ⟨s, e⟩
theorem SameL.len {ps qs : List (List Int)} (h : SameL ps qs) : qs.length = ps.length := by
  rcases h with ⟨m, s, rfl, rfl, _⟩ | ⟨m, s, rfl, rfl, _⟩ <;> rfl
theorem SameL.det {ps qs : List (List Int)} (h : SameL ps qs) (h0 : detL ps ≠ 0) : detL qs ≠ 0 := by
  rcases h with ⟨m, s, rfl, rfl, h⟩ | ⟨m, s, rfl, rfl, h⟩
  · rw [detL2] at *; exact h.det_ne h0
  · rw [detL3] at *; exact h.det_ne h0
theorem SameL.refl {ps : List (List Int)} (h : Dm ps) : SameL ps ps := by
  rcases h with ⟨m, e⟩ | ⟨m, e⟩
  · exact .inl ⟨m, m, e, e, Same2.refl m⟩
  · exact .inr ⟨m, m, e, e, Same3.refl m⟩
def mu (qs : List (List Int)) : Nat := (qs.map fun q => (dotL q q).toNat).sum
theorem dotL_nonneg : ∀ q : List Int, 0 ≤ dotL q q ∧ ∀ x ∈ q, x * x ≤ dotL q q
  | [] => by simp [dotL]
  | x :: q => by
    have ih := dotL_nonneg q
    have e : dotL (x :: q) (x :: q) = x * x + dotL q q := by simp [dotL]
    have := sq_nonneg x
    rw [e]
    refine ⟨by omega, fun y hy => ?_⟩
    rcases List.mem_cons.mp hy with rfl | h
    · omega
    · have := ih.2 y h; omega
theorem bd_of_norm {q : List Int} (h : dotL q q ≤ 243) : Bd 20 q := fun x hx => by
  have := (dotL_nonneg q).2 x hx
  exact abs_le_of_sq (m := 20) (by decide) (by omega)
theorem mu_set : ∀ (qs : List (List Int)) (i : Nat) (q v : List Int), qs[i]? = some q → dotL v v < dotL q q → mu (qs.set i v) < mu qs
  | [], i, q, v, h, _ => by simp at h
  | p :: qs, 0, q, v, h, hlt => by
    cases h
    have := (dotL_nonneg v).1
    simp only [List.set_cons_zero, mu, List.map_cons, List.sum_cons]
    omega
  | p :: qs, i + 1, q, v, h, hlt => by
    have := mu_set qs i q v (by simpa using h) hlt
    simp only [List.set_cons_succ, mu, List.map_cons, List.sum_cons] at this ⊢
    omega
structure Cur (ps qs : List (List Int)) : Prop where
  same : SameL ps qs
  le : ∀ q ∈ qs, dotL q q ≤ 243
theorem Cur.bd {ps qs : List (List Int)} (h : Cur ps qs) : BdP 20 qs := fun q hq => bd_of_norm (h.le q hq)
def Sml (t : List Int) : Prop := ∀ x ∈ t, x = -1 ∨ x = 0 ∨ x = 1
theorem pm_of {x : Int} (h : x = -1 ∨ x = 0 ∨ x = 1) (h0 : x ≠ 0) : x = 1 ∨ x = -1 := by omega
theorem taken_get {t : List Int} {i : Nat} (h : i ∈ takenI t t.length) : i < t.length ∧ t.getD i 0 ≠ 0 := by
  unfold takenI at h
  have := List.mem_filter.mp h
  exact ⟨List.mem_range.mp this.1, of_decide_eq_true this.2⟩
theorem get_taken {t : List Int} {i : Nat} (h : i < t.length) (h0 : t.getD i 0 ≠ 0) : i ∈ takenI t t.length := by
  unfold takenI
  exact List.mem_filter.mpr ⟨List.mem_range.mpr h, by simpa using h0⟩
theorem same_set {ps qs : List (List Int)} (h : SameL ps qs) {t : List Int} (hl : t.length = qs.length) (hs : Sml t) {i : Nat} (hi : i ∈ takenI t t.length) : SameL ps (qs.set i (togL qs t)) := by
  obtain ⟨h1, h2⟩ := taken_get hi
  rcases h with ⟨m, s, rfl, rfl, h⟩ | ⟨m, s, rfl, rfl, h⟩
  · obtain ⟨k, rfl⟩ := len2 (v := t) hl
    rw [tog2]
    have sx := hs k.x (by simp [l2])
    have sy := hs k.y (by simp [l2])
    left
    match i, h1, h2 with
    | 0, _, h2 =>
      have := pm_of sx h2
      have e := same_comp2 s ⟨k, ⟨0, 1⟩⟩ (by simp only [B2.det, V2.crs]; omega)
      refine ⟨m, comp2 s ⟨k, ⟨0, 1⟩⟩, rfl, ?_, h.trans e⟩
      simp only [comp2, (pts2 s).2, b2, List.set_cons_zero]
    | 1, _, h2 =>
      have := pm_of sy h2
      have e := same_comp2 s ⟨⟨1, 0⟩, k⟩ (by simp only [B2.det, V2.crs]; omega)
      refine ⟨m, comp2 s ⟨⟨1, 0⟩, k⟩, rfl, ?_, h.trans e⟩
      simp only [comp2, (pts2 s).1, b2, List.set_cons_zero, List.set_cons_succ]
  · obtain ⟨k, rfl⟩ := len3 (v := t) hl
    rw [tog3]
    have sx := hs k.x (by simp [l3])
    have sy := hs k.y (by simp [l3])
    have sz := hs k.z (by simp [l3])
    right
    match i, h1, h2 with
    | 0, _, h2 =>
      have := pm_of sx h2
      have e := same_comp3 s ⟨k, ⟨0, 1, 0⟩, ⟨0, 0, 1⟩⟩ (by simp only [B3.det, V3.dot, V3.cross]; omega)
      refine ⟨m, comp3 s ⟨k, ⟨0, 1, 0⟩, ⟨0, 0, 1⟩⟩, rfl, ?_, h.trans e⟩
      simp only [comp3, (pts3 s).2.1, (pts3 s).2.2, b3, List.set_cons_zero]
    | 1, _, h2 =>
      have := pm_of sy h2
      have e := same_comp3 s ⟨⟨1, 0, 0⟩, k, ⟨0, 0, 1⟩⟩ (by simp only [B3.det, V3.dot, V3.cross]; omega)
      refine ⟨m, comp3 s ⟨⟨1, 0, 0⟩, k, ⟨0, 0, 1⟩⟩, rfl, ?_, h.trans e⟩
      simp only [comp3, (pts3 s).1, (pts3 s).2.2, b3, List.set_cons_zero, List.set_cons_succ]
    | 2, _, h2 =>
      have := pm_of sz h2
      have e := same_comp3 s ⟨⟨1, 0, 0⟩, ⟨0, 1, 0⟩, k⟩ (by simp only [B3.det, V3.dot, V3.cross]; omega)
      refine ⟨m, comp3 s ⟨⟨1, 0, 0⟩, ⟨0, 1, 0⟩, k⟩, rfl, ?_, h.trans e⟩
      simp only [comp3, (pts3 s).1, (pts3 s).2.1, b3, List.set_cons_zero, List.set_cons_succ]
theorem cur_set {ps qs : List (List Int)} (h : Cur ps qs) {t : List Int} (hl : t.length = qs.length) (hs : Sml t) {i : Nat} (hi : i ∈ takenI t t.length)
    (hlt : dotL (togL qs t) (togL qs t) < dotL (qs.getD i []) (qs.getD i [])) : Cur ps (qs.set i (togL qs t)) ∧ mu (qs.set i (togL qs t)) < mu qs := by
  obtain ⟨h1, h2⟩ := taken_get hi
  have hi' : qs[i]? = some (qs.getD i []) := by
    rw [List.getD_eq_getElem?_getD, List.getElem?_eq_getElem (by omega)]; rfl
  refine ⟨⟨same_set h.same hl hs hi, fun q hq => ?_⟩, mu_set _ _ _ _ hi' hlt⟩
  rcases List.mem_or_eq_of_mem_set hq with g | g
  · exact h.le q g
  · have := h.le _ (List.mem_of_getElem? hi')
    rw [g]; omega
/-- no row shortens -/
def Still (qs : List (List Int)) (t : List Int) : Prop := ∀ j ∈ takenI t t.length, dotL (qs.getD j []) (qs.getD j []) ≤ dotL (togL qs t) (togL qs t)
theorem sm_list {x : Int} (h : Sm x) : x = -1 ∨ x = 0 ∨ x = 1 := by unfold Sm at h; omega
theorem still_sh {qs : List (List Int)} (hd : Dm qs) (h : ∀ t, t.length = qs.length → Sml t → (∃ x ∈ t, x ≠ 0) → Still qs t) : ShL qs := by
  rcases hd with ⟨m, rfl⟩ | ⟨m, rfl⟩
  · have key : ∀ k : V2, Small2 k → ∀ j, j < 2 → (l2 k).getD j 0 ≠ 0 → dotL ((b2 m).getD j []) ((b2 m).getD j []) ≤ V2.nrm (m.pt k) := fun k hk j hj h0 => by
      have := h (l2 k) rfl (fun x hx => by
        simp only [l2, List.mem_cons, List.not_mem_nil, or_false] at hx
        rcases hx with rfl | rfl
        · exact sm_list hk.1
        · exact sm_list hk.2) ⟨(l2 k).getD j 0, by
          rw [List.getD_eq_getElem?_getD, List.getElem?_eq_getElem (show j < (l2 k).length from hj)]
          exact List.getElem_mem _, h0⟩ j (get_taken hj h0)
      rw [tog2, dotL2] at this
      exact this
    refine .inl ⟨m, rfl, ⟨fun k hk h0 => ?_, fun k hk h0 => ?_⟩⟩
    · have := key k hk 0 (by decide) h0
      rw [show (b2 m).getD 0 [] = l2 m.a from rfl, dotL2] at this; exact this
    · have := key k hk 1 (by decide) h0
      rw [show (b2 m).getD 1 [] = l2 m.b from rfl, dotL2] at this; exact this
  · have key : ∀ k : V3, Small3 k → ∀ j, j < 3 → (l3 k).getD j 0 ≠ 0 → dotL ((b3 m).getD j []) ((b3 m).getD j []) ≤ V3.nrm (m.pt k) := fun k hk j hj h0 => by
      have := h (l3 k) rfl (fun x hx => by
        simp only [l3, List.mem_cons, List.not_mem_nil, or_false] at hx
        rcases hx with rfl | rfl | rfl
        · exact sm_list hk.1
        · exact sm_list hk.2.1
        · exact sm_list hk.2.2) ⟨(l3 k).getD j 0, by
          rw [List.getD_eq_getElem?_getD, List.getElem?_eq_getElem (show j < (l3 k).length from hj)]
          exact List.getElem_mem _, h0⟩ j (get_taken hj h0)
      rw [tog3, dotL3] at this
      exact this
    refine .inr ⟨m, rfl, ⟨fun k hk h0 => ?_, fun k hk h0 => ?_, fun k hk h0 => ?_⟩⟩
    · have := key k hk 0 (by decide) h0
      rw [show (b3 m).getD 0 [] = l3 m.a from rfl, dotL3] at this; exact this
    · have := key k hk 1 (by decide) h0
      rw [show (b3 m).getD 1 [] = l3 m.b from rfl, dotL3] at this; exact this
    · have := key k hk 2 (by decide) h0
      rw [show (b3 m).getD 2 [] = l3 m.c from rfl, dotL3] at this; exact this
/-- the rows that are gone through -/
def smallL (n : Nat) : List (List Int) := (boxL (List.replicate n [-1, 0, 1])).filter fun t => t.any fun x => x != 0
theorem small_mem {n : Nat} (hn : n = 2 ∨ n = 3) (t : List Int) : t ∈ smallL n ↔ t.length = n ∧ Sml t ∧ ∃ x ∈ t, x ≠ 0 := by
  unfold smallL
  rw [List.mem_filter]
  have e : (t.any fun x => x != 0) = true ↔ ∃ x ∈ t, x ≠ 0 := by simp
  rw [e]
  have b : t ∈ boxL (List.replicate n [-1, 0, 1]) ↔ t.length = n ∧ Sml t := by
    rcases hn with rfl | rfl
    · show t ∈ boxL [[-1, 0, 1], [-1, 0, 1]] ↔ _
      rw [mem_box2]
      constructor
      · rintro ⟨x, hx, y, hy, rfl⟩
        refine ⟨rfl, fun z hz => ?_⟩
        simp only [List.mem_cons, List.not_mem_nil, or_false] at hx hy hz
        rcases hz with rfl | rfl <;> assumption
      · rintro ⟨hl, hs⟩
        obtain ⟨k, rfl⟩ := len2 hl
        exact ⟨k.x, by have := hs k.x (by simp [l2]); simpa using this, k.y, by have := hs k.y (by simp [l2]); simpa using this, rfl⟩
    · show t ∈ boxL [[-1, 0, 1], [-1, 0, 1], [-1, 0, 1]] ↔ _
      rw [mem_box3]
      constructor
      · rintro ⟨x, hx, y, hy, u, hu, rfl⟩
        refine ⟨rfl, fun z hz => ?_⟩
        simp only [List.mem_cons, List.not_mem_nil, or_false] at hx hy hu hz
        rcases hz with rfl | rfl | rfl <;> assumption
      · rintro ⟨hl, hs⟩
        obtain ⟨k, rfl⟩ := len3 hl
        exact ⟨k.x, by have := hs k.x (by simp [l3]); simpa using this, k.y, by have := hs k.y (by simp [l3]); simpa using this, k.z, by have := hs k.z (by simp [l3]); simpa using this, rfl⟩
  rw [b]
  constructor
  · rintro ⟨⟨h1, h2⟩, h3⟩; exact ⟨h1, h2, h3⟩
  · rintro ⟨h1, h2, h3⟩; exact ⟨⟨h1, h2⟩, h3⟩
theorem taken_ne {t : List Int} (h : ∃ x ∈ t, x ≠ 0) : takenI t t.length ≠ [] := by
  obtain ⟨x, hx, h0⟩ := h
  obtain ⟨i, hi⟩ := List.getElem?_of_mem hx
  have hi' := (List.getElem?_eq_some_iff.mp hi).1
  have : i ∈ takenI t t.length := get_taken hi' (by rw [List.getD_eq_getElem?_getD, hi]; exact h0)
  intro e
  rw [e] at this
  cases this
end Np
end
section
set_option maxRecDepth 100000
set_option maxHeartbeats 2000000
namespace Np
open PySem PySem.Spec PyProof.Rows L2 LamX NdefX
/-! ### shortened -/
theorem LK.keep {T : List (Addr × Str)} {D : Addr} {H H1 H2 : Hp} (h : LK D H H1) (r : KpT T H1 H2) : LK D H H2 := fun b xs hb e => (keep_tabs T).lst r (h b xs hb e)
theorem LK.updD {D : Addr} {H H1 : Hp} {o : HO} (h : LK D H H1) : LK D H (L2.upd H1 D o) := fun b xs hb e => by rw [upd_ne hb]; exact h b xs hb e
/-- a list of numbers is no list of rows -/
theorem num_ne_rows {H : Hp} {b l : Addr} {q : List Int} {as : List Addr} (hb : H b = some (.lst (q.map V.int))) (hl : H l = some (.lst (as.map V.ref))) (h0 : as ≠ []) : b ≠ l := fun e => by
  rw [e, hl] at hb
  have h1 : as.map V.ref = q.map V.int := by injection hb with hb; injection hb
  cases as with
  | nil => exact h0 rfl
  | cons a as => cases q with
    | nil => simp at h1
    | cons x q => simp at h1
theorem RowsH.ne {H : Hp} {l b : Addr} {qs : List (List Int)} {q : List Int} (h : RowsH H l qs) (h0 : qs ≠ []) (hb : H b = some (.lst (q.map V.int))) : b ≠ l := by
  obtain ⟨as, h1, h2, h3⟩ := h
  refine num_ne_rows hb h1 (fun e => h0 ?_)
  rw [e] at h2
  exact List.length_eq_zero_iff.mp h2.symm
theorem RowsH.set {H : Hp} {l p : Addr} {qs : List (List Int)} {v : List Int} {as : List Addr} {i : Nat} (h1 : H l = some (.lst (as.map V.ref))) (h2 : as.length = qs.length)
    (h3 : ∀ (i : Nat) (b : Addr) (p : List Int), as[i]? = some b → qs[i]? = some p → H b = some (.lst (p.map V.int))) (hp : H p = some (.lst (v.map V.int))) (h0 : qs ≠ []) :
    RowsH (upd H l (.lst ((as.map V.ref).set i (V.ref p)))) l (qs.set i v) := by
  have hR : RowsH H l qs := ⟨as, h1, h2, h3⟩
  refine ⟨as.set i p, by rw [upd_same, List.map_set], by simp [h2], fun j b q e1 e2 => ?_⟩
  rw [List.getElem?_set] at e1 e2
  by_cases hj : i = j
  · rw [if_pos hj] at e1 e2
    split at e1
    · split at e2
      · cases e1; cases e2
        rw [upd_ne (hR.ne h0 hp)]; exact hp
      · cases e2
    · cases e1
  · rw [if_neg hj] at e1 e2
    have := h3 j b q e1 e2
    rw [upd_ne (hR.ne h0 this)]; exact this
def spSh (K : PySem.W.Frag) (T : List (Addr × Str)) : Sp := fun vs H Q _ => ∃ (a : Addr) (ps : List (List Int)), vs = [.ref a] ∧ RowsH H a ps ∧ Dm ps ∧ detL ps ≠ 0 ∧ (∀ p ∈ ps, dotL p p ≤ 243) ∧ Tabs T H ∧
  ∀ H' p qs, KpT T H H' → H p = none → RowsH H' p qs → Cur ps qs → ShL qs → Q (.ref p) H'
section
variable {P : Program} {w : World} {K : PySem.W.Frag} {mg : Str → Option Value} {base : Heap}
abbrev nSh : List Str := ["steps", "current", "rows", "changed", "times", "point", "place", "step"]
theorem scSh : FnScope nSh ["steps"] (defScope sSh) :=
  ⟨rfl, rfl, rfl, by decide +kernel, rfl, by decide +kernel, by decide +kernel⟩
theorem ok_sh {T : List (Addr × Str)} {f : Addr} {fd : FuncData} (F : Fun K "shortened" "shortened" sSh f fd)
    (Bo : Callee P w K mg base 1 "box" ["choices"] (spBox K)) (G : Callee P w K mg base 1 "together" ["steps", "times"] (spTogether K)) (Lt : Callee P w K mg base 5 "longest_taken" ["steps", "times"] (spLT K T))
    (Le : Callee P w K mg base 2 "length" ["point"] (spLength K)) (mli : mg "list" = none) (my : mg "any" = none) : FnOk P w K mg base CX0 6 f fd ["steps"] (spSh K T) := by
  refine F.ok scSh (fun vs H Q E h => ?_) (fun cdv A outer s H vs Q E hr h => ?_)
  · obtain ⟨a, ps, rfl, _⟩ := h
    rfl
  · refine ⟨_, pss_cons (ps_set (i := 1) scSh.nd rfl (.inl rfl) (pe_callTy call_list_of (by rfl) mli (by decide +kernel) (pa_cons (pv 0) pa_nil)))
      (pss_cons (ps_setLc (i := 2) (own := [("times", 4)]) (g := gName 4) (by rfl) scSh.nd rfl rfl (sw_true rfl rfl rfl (by decide +kernel))
        (pi_list (pe_def Bo (hr.mono (by decide)) rfl (pa_cons (pe_lc (own := [("step", 7)]) (g := gName 7) rfl scSh.nd (pi_list (pv 0))
          (blkOk_by (N := nSh) (sc := defScope sSh) (by decide +kernel))
          (fun _ _ _ _ _ => by exact pg_name (i := 7) scSh.nd rfl (.inl rfl)) (fun _ _ _ _ _ => pts_nil)
          (fun _ _ _ _ _ => pe_lst (pa_cons (pe_un un_neg pe_int) (pa_cons pe_int (pa_cons pe_int pa_nil))))) pa_nil)))
        (blkOk_by (N := nSh) (sc := defScope sSh) (by decide +kernel))
        (fun _ _ _ _ _ => by exact pg_name (i := 4) scSh.nd rfl (.inl rfl))
        (fun _ _ _ _ _ => by exact pts_one (pt_val (pe_callB (cr_anyK K rfl rfl) (by rfl) my (by decide +kernel) (pa_cons (pv 4) pa_nil))))
        (fun _ _ _ _ _ => by exact pv 4))
      (pss_cons (ps_set (i := 3) scSh.nd rfl (.inl rfl) pe_bl)
      (pss_cons (ps_while PassesOwn.never (pt_val (pv 3))
        (pss_cons (ps_set (i := 3) scSh.nd rfl (.inl rfl) pe_bl)
        (pss_one (ps_for PassesOwn.never rfl (pi_list (pv 2)) (pg_name (i := 4) scSh.nd rfl (.inl rfl))
          (pss_cons (ps_set (i := 5) scSh.nd rfl (.inl rfl) (pe_def G (hr.mono (by decide)) rfl (pa_cons (pv 1) (pa_cons (pv 4) pa_nil))))
          (pss_cons (ps_set (i := 6) scSh.nd rfl (.inl rfl) (pe_def Lt hr rfl (pa_cons (pv 1) (pa_cons (pv 4) pa_nil))))
          (pss_one (ps_if (pt_cmpR op_lt (pe_def Le (hr.mono (by decide)) rfl (pa_cons (pv 5) pa_nil)) (pe_def Le (hr.mono (by decide)) rfl (pa_cons (pe_ix ix_list (pv 1) (pv 6) (fun _ _ => rfl)) pa_nil)) (nomark _))
            (pss_cons (ps_asg (pv 5) (pg_sub (pv 1) (pv 6) set_list)) (pss_one (ps_set (i := 3) scSh.nd rfl (.inl rfl) pe_bl))) pss_nil))))))))
      (pss_one (ps_ret (pv 1)))))), ?_⟩
    obtain ⟨a, ps, rfl, hR, hd, h0, hle, tabs, k⟩ := h
    obtain ⟨n1, n2, n3, n4⟩ := nrm_shape hd
    have hne : ps ≠ [] := fun z => by rw [z] at n4; simp at n4
    obtain ⟨as, has, hal, hap⟩ := id hR
    refine ⟨_, rfl, a, _, rfl, .inl (SqL.of has), fun l hl => ?_⟩
    have s0 : Same H (upd H l (.lst (as.map V.ref))) := keep_same.new hl
    have hl0 : upd H l (.lst (as.map V.ref)) l = some (.lst (as.map V.ref)) := upd_same
    generalize hH0 : upd H l (.lst (as.map V.ref)) = H0 at s0 hl0
    refine ⟨_, rfl, a, rfl, ⟨_, SqL.of (s0 _ _ has)⟩, lc_rows keep_same (walk_list (xs := as.map V.ref)) (List.replicate ps.length [-1, 0, 1]) (by simp [hal]) (fun H' r => SqL.of (r _ _ (s0 _ _ has))) (by rw [sizeLine_eq]; simp; omega) ?_ ?_⟩
    · rintro i v z H1 H' Qf hz r ⟨rfl, hx⟩ q
      have : z = [-1, 0, 1] := (List.mem_replicate.mp (List.mem_of_getElem? hz)).2
      subst this
      exact ⟨rfl, _, rfl, by show 3 ≤ sizeLine; decide, fun p hp => q p _ (keep_same.new hp) hp upd_same⟩
    · intro D1 H1 r1 hD1 hR1
      refine ⟨D1, _, rfl, hR1.rows, by simp; omega, fun i hi => ?_, fun H2 pb r2 hpb hRb => ?_⟩
      · exact box_small (fun zs hz => by rw [(List.mem_replicate.mp hz).2]; decide) (by simp; omega) i
      · obtain ⟨bs, hbs, hbl, hbp⟩ := id hRb
        have s12 := keep_same.trans r1 r2
        have bcnt : (boxL (List.replicate ps.length [-1, 0, 1])).length ≤ 1000000 := by
          have := box_small (cs := List.replicate ps.length [-1, 0, 1]) (fun zs hz => by rw [(List.mem_replicate.mp hz).2]; decide) (by simp; omega) ps.length
          rwa [List.take_of_length_le (by simp)] at this
        refine ⟨pb, rfl, ⟨_, SqL.of hbs⟩, lc_filt keep_same (fun t => t.any fun x => x != 0) (SqL.of hbs) hbl hbp (by rw [sizeLine_eq]; omega) ?_ ?_⟩
        · intro i bi t H' Qe Qn hbi hti r qe qn
          refine ⟨rfl, _, rfl, bi, t, rfl, SqL.of (r _ _ (hbp i bi t hbi hti)), _, rfl, ?_⟩
          refine bIf (fun hh => ?_) (fun hh => ?_)
          · exact ⟨_, rfl, qe H' (keep_same.refl _) hh⟩
          · exact qn H' (keep_same.refl _) hh
        · intro rw_ H3 r3 hrw hR3
          have s3 : Same H0 H3 := keep_same.trans s12 r3
          have sH3 : Same H H3 := keep_same.trans s0 s3
          obtain ⟨gs, hgs, hgl, hgp⟩ := hR3
          have hl3 : H3 l = some (.lst (as.map V.ref)) := s3 _ _ hl0
          have hrl : rw_ ≠ l := fun e => by
            rw [e] at hrw
            have := s12 _ _ hl0
            rw [this] at hrw; cases hrw
          have asne : as ≠ [] := fun e => by rw [e] at hal; simp at hal; omega
          have hgne : ∀ (i : Nat) (b : Addr) (t : List Int), gs[i]? = some b → (smallL ps.length)[i]? = some t → b ≠ l := fun i b t e1 e2 => num_ne_rows (hgp i b t e1 e2) hl3 asne
          have smem := fun t => small_mem n4 t
          have hR3l : RowsH H3 l ps := ⟨as, hl3, hal, fun i b p e1 e2 => sH3 _ _ (hap i b p e1 e2)⟩
          refine ⟨fun m σ H' => KpT T H H' ∧ LK l H3 H' ∧ ∃ (ch : Bool) (qs : List (List Int)) (v4 v5 v6 v7 : Option V), σ = [some (.ref a), some (.ref l), some (.ref rw_), some (.bl ch), v4, v5, v6, v7] ∧ RowsH H' l qs ∧ Cur ps qs ∧ (ch = false → ShL qs) ∧ m = if ch = true then mu qs + 1 else 0,
            ⟨_, same_tabs sH3, fun b xs _ e => e, true, ps, none, none, none, none, rfl, hR3l, ⟨SameL.refl hd, hle⟩, fun e => (by cases e), rfl⟩, ?_⟩
          rintro m σ H' ⟨kH, lk, ch, qs, v4, v5, v6, v7, rfl, hRq, cur, hsh, rfl⟩
          refine ⟨_, rfl, ch, rfl, ?_⟩
          refine bIf (fun hc => ?_) (fun hc => ?_)
          · subst hc
            have hqlen : qs.length = ps.length := cur.same.len
            have hqne : qs ≠ [] := fun z => by rw [z] at hqlen; simp at hqlen; omega
            refine ⟨fun σ' H'' => KpT T H H'' ∧ LK l H3 H'' ∧ ∃ (ch' : Bool) (qs' : List (List Int)) (v4 v5 v6 v7 : Option V), σ' = [some (.ref a), some (.ref l), some (.ref rw_), some (.bl ch'), v4, v5, v6, v7] ∧ RowsH H'' l qs' ∧ Cur ps qs' ∧ (ch' = false → ShL qs') ∧ (ch' = true → mu qs' < mu qs), ?_, ?_⟩
            · rintro σ' H'' ⟨k1, k2, ch', qs', w4, w5, w6, w7, rfl, e1, e2, e3, e4⟩
              refine ⟨_, ?_, k1, k2, ch', qs', w4, w5, w6, w7, rfl, e1, e2, e3, rfl⟩
              cases ch' with
              | true => have := e4 rfl; simp; omega
              | false => simp
            · refine ⟨_, rfl, rw_, rfl, ⟨_, SqL.of (lk _ _ hrl hgs)⟩, for_it (walk_list (xs := gs.map V.ref))
                (fun i σ' H'' => KpT T H H'' ∧ LK l H3 H'' ∧ ∃ (ch' : Bool) (qs' : List (List Int)) (v4 v5 v6 v7 : Option V), σ' = [some (.ref a), some (.ref l), some (.ref rw_), some (.bl ch'), v4, v5, v6, v7] ∧ RowsH H'' l qs' ∧ Cur ps qs' ∧
                  (ch' = false → qs' = qs ∧ ∀ j t, j < i → (smallL ps.length)[j]? = some t → Still qs t) ∧ (ch' = true → mu qs' < mu qs))
                ⟨kH, lk, false, qs, v4, v5, v6, v7, rfl, hRq, cur, fun _ => ⟨rfl, fun j t hj => by omega⟩, fun e => (by cases e)⟩ (fun i σ' H'' _ ⟨_, lk2, _⟩ => SqL.of (lk2 _ _ hrl hgs)) ?_ ?_⟩
              · rintro i x σ' H4 H4' hi ⟨kH4, lk4, ch', qs', w4, w5, w6, w7, rfl, hRq4, cur4, c0, c1⟩ ⟨rfl, hx⟩
                obtain ⟨bi, hbi, rfl⟩ := map_get hx
                have hi' : i < (smallL ps.length).length := by
                  have : gs.length = (smallL ps.length).length := hgl
                  rw [← this]; simpa using hi
                obtain ⟨t, ht⟩ : ∃ t, (smallL ps.length)[i]? = some t := ⟨_, List.getElem?_eq_getElem hi'⟩
                obtain ⟨t1, t2, t3⟩ := (smem t).mp (List.mem_of_getElem? ht)
                have hbt := lk4 _ _ (hgne i bi t hbi ht) (hgp i bi t hbi ht)
                have hql : qs'.length = ps.length := cur4.same.len
                have hqne' : qs' ≠ [] := fun z => by rw [z] at hql; simp at hql; omega
                have qd := dm_len cur4.same.dm
                have tb : Bd 1 t := fun x hx => by have := t2 x hx; omega
                have qb := cur4.bd
                have pl : (togL qs' t).length = qs'.length := tog_len qd.1 hqne'
                have pb' := tog_bd (M := 1) (by decide) (by decide) qb tb (by omega)
                refine ⟨_, rfl, _, rfl, l, bi, qs', t, qs'.length, rfl, hRq4.rows, SqL.of hbt, hqne', by omega, by omega, by omega, qd.1, Bd.mono (by decide) tb, fun H5 pp r5 hpp e5 => ?_⟩
                have k5 : KpT T H4' H5 := same_tabs r5
                refine ⟨_, rfl, _, rfl, l, bi, qs', t, rfl, (RowsH.keep keep_same r5 hRq4).rows, SqL.of (r5 _ _ hbt), (k5.tabs (kH4.tabs tabs)), by omega, by omega, fun q hq => ⟨by rw [qd.1 q hq]; omega, Bd.mono (by decide) (qb q hq)⟩, taken_ne t3, fun H6 pl6 k6 hin hmax => ?_⟩
                have k46 := (keep_tabs T).trans k5 k6
                have e6 := (keep_tabs T).lst k6 e5
                have hR6 := RowsH.keep (keep_tabs T) k46 hRq4
                obtain ⟨as6, hs6, hl6, hp6⟩ := id hR6
                obtain ⟨g1, g2⟩ := taken_get hin
                have hplt : pl6 < qs'.length := by omega
                obtain ⟨ap, hap'⟩ : ∃ ap, as6[pl6]? = some ap := ⟨_, List.getElem?_eq_getElem (by omega)⟩
                have hqp : qs'[pl6]? = some (qs'.getD pl6 []) := by
                  rw [List.getD_eq_getElem?_getD, List.getElem?_eq_getElem hplt]; rfl
                have hqm := List.mem_of_getElem? hqp
                refine ⟨_, rfl, pp, _, rfl, SqL.of e6, by omega, Bd.mono (by decide) pb', fun H7 r7 => ?_⟩
                refine ⟨_, rfl, _, rfl, l, _, (pl6 : Int), .ref ap, rfl, rfl, SqL.of (r7 _ _ hs6), atI_nat (j := pl6) (by rw [List.getElem?_map, hap']; rfl), ap, _, rfl, SqL.of (r7 _ _ (hp6 pl6 ap _ hap' hqp)), by rw [qd.1 _ hqm]; omega, Bd.mono (by decide) (qb _ hqm), fun H8 r8 => ?_⟩
                have k48 : KpT T H4' H8 := (keep_tabs T).trans k46 (same_tabs (keep_same.trans r7 r8))
                have kH8 := (keep_tabs T).trans kH4 k48
                have lk8 := LK.keep lk4 k48
                have hR8 := RowsH.keep (keep_tabs T) k48 hRq4
                refine ⟨_, _, rfl, rfl, _, rfl, ?_⟩
                refine bIf (fun hlt => ?_) (fun hlt => ?_)
                · have hlt' := of_decide_eq_true hlt
                  obtain ⟨c5, c6⟩ := cur_set cur4 (by omega) t2 hin hlt'
                  obtain ⟨as8, hs8, hl8, hp8⟩ := id hR8
                  have e8 : H8 pp = some (.lst ((togL qs' t).map V.int)) := r8 _ _ (r7 _ _ e6)
                  refine ⟨_, rfl, _, rfl, _, rfl, l, _, (pl6 : Int), pl6, rfl, rfl, hs8, ?_, ?_⟩
                  · unfold ixN
                    rw [if_pos (by omega), if_pos (by rw [List.length_map]; omega)]; rfl
                  · refine ⟨(keep_tabs T).put kH8 hl (.inr ⟨_, hs8⟩), LK.updD lk8, true, _, _, _, _, _, rfl, RowsH.set hs8 hl8 hp8 e8 hqne', c5, fun e => (by cases e), fun _ => ?_⟩
                    cases ch' with
                    | true => have := c1 rfl; omega
                    | false => have := (c0 rfl).1; subst this; exact c6
                · have hge := of_decide_eq_false hlt
                  refine ⟨kH8, lk8, ch', qs', _, _, _, _, rfl, hR8, cur4, fun e => ?_, c1⟩
                  obtain ⟨e1, e2⟩ := c0 e
                  subst e1
                  refine ⟨rfl, fun j t' hj ht' => ?_⟩
                  by_cases hji : j = i
                  · rw [hji, ht] at ht'
                    cases ht'
                    intro j' hj'
                    have := hmax j' hj'
                    omega
                  · exact e2 j t' (by omega) ht'
              · rintro σ' H4 ⟨kH4, lk4, ch', qs', w4, w5, w6, w7, rfl, hRq4, cur4, c0, c1⟩
                refine ⟨kH4, lk4, ch', qs', _, _, _, _, rfl, hRq4, cur4, fun e => ?_, c1⟩
                obtain ⟨e1, e2⟩ := c0 e
                subst e1
                refine still_sh cur4.same.dm (fun t h1 h2 h3 => ?_)
                have hm := (smem t).mpr ⟨by rw [h1, cur4.same.len], h2, h3⟩
                obtain ⟨j, hj⟩ := List.getElem?_of_mem hm
                have : gs.length = (smallL ps.length).length := hgl
                exact e2 j t (by rw [List.length_map, this]; exact (List.getElem?_eq_some_iff.mp hj).1) hj
          · exact ⟨_, rfl, k H' l qs kH hl hRq cur (hsh hc)⟩
end
end Np
end
section
set_option maxRecDepth 100000
set_option maxHeartbeats 2000000
namespace Np
open PySem PySem.Spec PyProof.Rows L2 LamX NdefX
/-! ### shortest_points -/
abbrev sSP : Stmt := top 23
/-- within a comprehension: the written part by its own name -/
theorem ix_listK {X : Cx} (K : PySem.W.Frag) (hK : X.K = K) : IxR X (rIxL K) := by
  subst hK
  exact ix_list
structure StOk (ps : List (List Int)) : Prop where
  sh : ShL ps
  det : detL ps ≠ 0
  le : ∀ p ∈ ps, dotL p p ≤ 243
theorem StOk.bd {ps : List (List Int)} (h : StOk ps) : BdP 20 ps := fun p hp => bd_of_norm (h.le p hp)
theorem led3 (m : B3) (v : List Int) : Led (b3 m) v ↔ S3 m v := by
  constructor
  · rintro ⟨t, ht, rfl⟩
    obtain ⟨k, rfl⟩ := len3 (v := t) ht
    exact ⟨k, tog3 m k⟩
  · rintro ⟨k, rfl⟩
    exact ⟨l3 k, rfl, (tog3 m k).symm⟩
theorem led2 (m : B2) (v : List Int) : Led (b2 m) v ↔ S2 m v := by
  constructor
  · rintro ⟨t, ht, rfl⟩
    obtain ⟨k, rfl⟩ := len2 (v := t) ht
    exact ⟨k, tog2 m k⟩
  · rintro ⟨k, rfl⟩
    exact ⟨l2 k, rfl, (tog2 m k).symm⟩
theorem fwdTo3 (m : B3) (L : Int) (v : List Int) : FwdTo (b3 m) L v ↔ In3 m L v := by
  unfold FwdTo In3
  rw [led3]
  constructor
  · rintro ⟨⟨⟨k, e⟩, hf⟩, hl⟩; exact ⟨⟨k, e, hf⟩, hl⟩
  · rintro ⟨⟨k, e, hf⟩, hl⟩; exact ⟨⟨⟨k, e⟩, hf⟩, hl⟩
theorem fwdTo2 (m : B2) (L : Int) (v : List Int) : FwdTo (b2 m) L v ↔ In2 m L v := by
  unfold FwdTo In2
  rw [led2]
  constructor
  · rintro ⟨⟨⟨k, e⟩, hf⟩, hl⟩; exact ⟨⟨k, e, hf⟩, hl⟩
  · rintro ⟨⟨k, e, hf⟩, hl⟩; exact ⟨⟨⟨k, e⟩, hf⟩, hl⟩
theorem exists_fwd {ps : List (List Int)} (hd : Dm ps) (h0 : detL ps ≠ 0) {p : List Int} (hp : p ∈ ps) : ∃ u, Led ps u ∧ Sq67.forward u = true ∧ Sq67.norm u = dotL p p := by
  rcases hd with ⟨m, rfl⟩ | ⟨m, rfl⟩
  · rw [detL2] at h0
    have key : ∀ k : V2, k ≠ V2.zero → ∃ u, Led (b2 m) u ∧ Sq67.forward u = true ∧ Sq67.norm u = V2.nrm (m.pt k) := fun k hk => by
      obtain ⟨k', hk', hf⟩ := fwd_k2 h0 hk
      refine ⟨l2 (m.pt k'), (led2 m _).mpr ⟨k', rfl⟩, hf, ?_⟩
      rw [norm2]
      rcases hk' with rfl | rfl
      · rfl
      · exact nrm_neg2 m k
    simp only [b2, List.mem_cons, List.not_mem_nil, or_false] at hp
    rcases hp with rfl | rfl
    · have := key ⟨1, 0⟩ (fun e => absurd (congrArg V2.x e) (by decide))
      rw [(pts2 m).1] at this; rw [dotL2]; exact this
    · have := key ⟨0, 1⟩ (fun e => absurd (congrArg V2.y e) (by decide))
      rw [(pts2 m).2] at this; rw [dotL2]; exact this
  · rw [detL3] at h0
    have key : ∀ k : V3, k ≠ V3.zero → ∃ u, Led (b3 m) u ∧ Sq67.forward u = true ∧ Sq67.norm u = V3.nrm (m.pt k) := fun k hk => by
      obtain ⟨k', hk', hf⟩ := fwd_k3 h0 hk
      refine ⟨l3 (m.pt k'), (led3 m _).mpr ⟨k', rfl⟩, hf, ?_⟩
      rw [norm3]
      rcases hk' with rfl | rfl
      · rfl
      · exact nrm_neg3 m k
    simp only [b3, List.mem_cons, List.not_mem_nil, or_false] at hp
    rcases hp with rfl | rfl | rfl
    · have := key ⟨1, 0, 0⟩ (fun e => absurd (congrArg V3.x e) (by decide))
      rw [(pts3 m).1] at this; rw [dotL3]; exact this
    · have := key ⟨0, 1, 0⟩ (fun e => absurd (congrArg V3.y e) (by decide))
      rw [(pts3 m).2.1] at this; rw [dotL3]; exact this
    · have := key ⟨0, 0, 1⟩ (fun e => absurd (congrArg V3.z e) (by decide))
      rw [(pts3 m).2.2] at this; rw [dotL3]; exact this
def ShortP (ps vs : List (List Int)) : Prop := ∃ L ns v l, Told (FwdTo ps L) ns ∧ ns = v :: l ∧ vs = ns.filter (fun u => Sq67.norm u == Sq67.norm v) ∧ ns.length ≤ 1000000 ∧ L ≤ 243
def spSP (K : PySem.W.Frag) (T : List (Addr × Str)) : Sp := fun vs H Q _ => ∃ (a : Addr) (ps : List (List Int)), vs = [.ref a] ∧ Rows K H a ps ∧ StOk ps ∧ Tabs T H ∧
  ∀ H' p us, KpT T H H' → H p = none → RowsH H' p us → ShortP ps us → Q (.ref p) H'
section
variable {P : Program} {w : World} {K : PySem.W.Frag} {mg : Str → Option Value} {base : Heap}
abbrev nSP : List Str := ["steps", "limit", "points", "step", "times", "point"]
theorem scSP : FnScope nSP ["steps"] (defScope sSP) :=
  ⟨rfl, rfl, rfl, by decide +kernel, rfl, by decide +kernel, by decide +kernel⟩
theorem ok_sp {T : List (Addr × Str)} {f : Addr} {fd : FuncData} (F : Fun K "shortest_points" "shortest_points" sSP f fd)
    (Tu : Callee P w K mg base 7 "times_up_to" ["steps", "limit"] (spTU K T)) (G : Callee P w K mg base 1 "together" ["steps", "times"] (spTogether K))
    (Le : Callee P w K mg base 2 "length" ["point"] (spLength K)) (mm : mg "min" = none) : FnOk P w K mg base CX0 8 f fd ["steps"] (spSP K T) := by
  refine F.ok scSP (fun vs H Q E h => ?_) (fun cdv A outer s H vs Q E hr h => ?_)
  · obtain ⟨a, ps, rfl, _⟩ := h
    rfl
  · refine ⟨_, pss_cons (ps_set (i := 1) scSP.nd rfl (.inl rfl) (pe_callB (cr_min rfl) (by rfl) mm (by decide +kernel) (pa_cons (pe_lc (own := [("step", 3)]) (g := gName 3) rfl scSP.nd (pi_list (pv 0))
          (blkOk_by (N := nSP) (sc := defScope sSP) (by decide +kernel))
          (fun _ _ _ _ _ => by exact pg_name (i := 3) scSP.nd rfl (.inl rfl)) (fun _ _ _ _ _ => pts_nil)
          (fun _ _ _ _ _ => by exact pe_def Le (hr.mono (by decide)) rfl (pa_cons (pv 3) pa_nil))) pa_nil)))
      (pss_cons (ps_set (i := 2) scSP.nd rfl (.inr rfl) (pe_lc (own := [("times", 4)]) (g := gName 4) rfl scSP.nd (pi_list (pe_def Tu hr rfl (pa_cons (pv 0) (pa_cons (pv 1) pa_nil))))
          (blkOk_by (N := nSP) (sc := defScope sSP) (by decide +kernel))
          (fun _ _ _ _ _ => by exact pg_name (i := 4) scSP.nd rfl (.inl rfl)) (fun _ _ _ _ _ => pts_nil)
          (fun _ _ _ _ _ => by exact pe_def G (hr.mono (by decide)) rfl (pa_cons (pv 0) (pa_cons (pv 4) pa_nil)))))
      (pss_one (ps_ret (pe_lc (own := [("point", 5)]) (g := gName 5) rfl scSP.nd (pi_list (pv 2))
          (blkOk_by (N := nSP) (sc := defScope sSP) (by decide +kernel))
          (fun _ _ _ _ _ => by exact pg_name (i := 5) scSP.nd rfl (.inl rfl))
          (fun _ _ _ _ _ => by exact pts_one (pt_cmpR op_eq (pe_def Le (hr.mono (by decide)) rfl (pa_cons (pv 5) pa_nil)) (pe_def Le (hr.mono (by decide)) rfl (pa_cons (pe_ix (ix_listK K rfl) (pv 2) pe_int (fun _ _ => rfl)) pa_nil)) (nomark _)))
          (fun _ _ _ _ _ => by exact pv 5))))), ?_⟩
    obtain ⟨a, ps, rfl, hR, ok, tabs, k⟩ := h
    have hd := ok.sh.dm
    have hB := ok.bd
    obtain ⟨n1, n2, n3, n4⟩ := nrm_shape hd
    have hne : ps ≠ [] := fun z => by rw [z] at n4; simp at n4
    obtain ⟨as, has, hal, hap⟩ := id hR
    refine ⟨_, rfl, a, rfl, ⟨_, has⟩, lc_ints keep_same (walk_list (xs := as.map V.ref)) (ps.map fun p => dotL p p) (by simp [hal]) (fun H' r => r.seq has) (by rw [sizeLine_eq]; simp; omega) ?_ ?_⟩
    · rintro i x z H0 H' Qf hz r ⟨rfl, hx⟩ q
      obtain ⟨p, hp, rfl⟩ := map_get hz
      obtain ⟨ai, hai, rfl⟩ := map_get hx
      have hpm := List.mem_of_getElem? hp
      exact ⟨rfl, _, rfl, ai, p, rfl, r.seq (hap i ai p hai hp), by rw [n3 p hpm]; omega, Bd.mono (by decide) (hB p hpm), fun H4 r4 => q H4 r4⟩
    · intro D1 H1 r1 hD1 e1
      refine ⟨D1, _, rfl, SqL.of e1, by simp; omega, fun L hL _ => ?_⟩
      obtain ⟨p0, hp0, hpL⟩ := List.mem_map.mp hL
      have hL0 : 0 ≤ L := by rw [← hpL]; exact (dotL_nonneg p0).1
      have hL1 : L ≤ 243 := by rw [← hpL]; exact ok.le p0 hp0
      refine ⟨_, rfl, _, rfl, a, ps, L, rfl, Rows.keep keep_same r1 hR, ok.sh, hB, ok.det, hL0, by omega, tabs.ext r1, fun H2 pt ts k2 hpt hRt up => ?_⟩
      have k02 := (keep_tabs T).trans (same_tabs r1) k2
      obtain ⟨bs, hbs, hbl, hbp⟩ := id hRt
      have ucnt := up.cnt
      refine ⟨pt, rfl, ⟨_, SqL.of hbs⟩, lc_rows keep_same (walk_list (xs := bs.map V.ref)) (ts.map (togL ps)) (by simp [hbl]) (fun H' r => SqL.of (r _ _ hbs)) (by rw [sizeLine_eq]; simp; omega) ?_ ?_⟩
      · rintro i x z H0 H' Qf hz r ⟨rfl, hx⟩ q
        obtain ⟨t, ht, rfl⟩ := map_get hz
        obtain ⟨bi, hbi, rfl⟩ := map_get hx
        have tm := List.mem_of_getElem? ht
        exact ⟨rfl, _, rfl, _, rfl, a, bi, ps, t, ps.length, rfl, Rows.keep keep_same r (Rows.keep (keep_tabs T) k02 hR), SqL.of (r _ _ (hbp i bi t hbi ht)), hne, (up.len t tm).symm, by omega, by omega, n3, Bd.mono (by decide) (up.bd t tm), fun H5 p5 r5 hp5 e5 => q p5 H5 r5 hp5 e5⟩
      · intro D3 H3 r3 hD3 hR3
        have k03 := (keep_tabs T).trans k02 (same_tabs r3)
        obtain ⟨cs, hcs, hcl, hcp⟩ := id hR3
        -- the first
        have hne' : ts.map (togL ps) ≠ [] := fun z => by
          obtain ⟨u, u1, u2, u3⟩ := exists_fwd hd ok.det hp0
          have := (up.told.2 u).mpr ⟨⟨u1, u2⟩, by rw [u3, hpL]; exact Int.le_refl _⟩
          rw [z] at this; cases this
        obtain ⟨v, l, hvl⟩ : ∃ v l, ts.map (togL ps) = v :: l := by
          cases e : ts.map (togL ps) with
          | nil => exact absurd e hne'
          | cons v l => exact ⟨v, l, rfl⟩
        obtain ⟨c0, cr, hcr⟩ : ∃ v l, cs = v :: l := by
          cases e : cs with
          | nil => rw [e, hvl] at hcl; simp at hcl
          | cons v l => exact ⟨v, l, rfl⟩
        have hv := hcp 0 c0 v (by rw [hcr]; rfl) (by rw [hvl]; rfl)
        have pin : ∀ u ∈ ts.map (togL ps), u.length = ps.length ∧ Bd 60000000 u := fun u hu => by
          obtain ⟨t, ht, rfl⟩ := List.mem_map.mp hu
          exact ⟨tog_len n3 hne, tog_bd (M := 48) (by decide) (by decide) hB (up.bd t ht) (by omega)⟩
        have vin := pin v (by rw [hvl]; simp)
        refine ⟨_, rfl, D3, rfl, ⟨_, SqL.of hcs⟩, lc_filt keep_same (fun u => decide (V.int (dotL u u) = V.int (dotL v v))) (SqL.of hcs) hcl hcp (by rw [sizeLine_eq]; simp; omega) ?_ ?_⟩
        · intro i bi u H0 Qe Qn hbi hui r qe qn
          have uin := pin u (List.mem_of_getElem? hui)
          refine ⟨rfl, _, rfl, bi, u, rfl, SqL.of (r _ _ (hcp i bi u hbi hui)), by omega, Bd.mono (by decide) uin.2, fun H4 r4 => ?_⟩
          refine ⟨_, rfl, D3, _, 0, .ref c0, rfl, rfl, SqL.of (r4 _ _ (r _ _ hcs)), atI_nat (j := 0) (by rw [hcr]; rfl), c0, v, rfl, SqL.of (r4 _ _ (r _ _ hv)), by omega, Bd.mono (by decide) vin.2, fun H5 r5 => ?_⟩
          refine ⟨rfl, _, rfl, ?_⟩
          refine bIf (fun hh => ?_) (fun hh => ?_)
          · exact ⟨_, rfl, qe H5 (keep_same.trans r4 r5) hh⟩
          · exact qn H5 (keep_same.trans r4 r5) hh
        · intro D4 H4 r4 hD4 hR4
          refine k H4 D4 _ ((keep_tabs T).trans k03 (same_tabs r4)) ((keep_tabs T).free k03 hD4) hR4 ⟨L, ts.map (togL ps), v, l, up.told, hvl, ?_, by simp; omega, hL1⟩
          apply List.filter_congr
          intro u _
          rw [Bool.eq_iff_iff]
          simp only [decide_eq_true_eq, beq_iff_eq]
          constructor
          · intro h; injection h
          · intro h; exact congrArg V.int h
end
end Np
end
section
set_option maxRecDepth 100000
set_option maxHeartbeats 2000000
namespace Np
open PySem PySem.Spec PyProof.Rows L2 LamX NdefX
abbrev sFirst : Stmt := top 21
def spFit (g : Int → Bool) : Sp := fun vs H Q _ => ∃ n : Int, vs = [.int n] ∧ Q (.bl (g n)) H
/-- at f a lambda that tells g of a whole number -/
def Fit (P : Program) (w : World) (K : PySem.W.Frag) (mg : Str → Option Value) (base : Heap) (k : Nat) (g : Int → Bool) (H : Hp) (f : Addr) : Prop :=
  ∃ (F : NF) (b : Expr) (ps : List Str), H f = some (LamO f F b) ∧ H F.c = some (CodeO F.c F.qual) ∧ F.cl = [] ∧ LOk P w K mg base k f F b ps [] (fun _ => spFit g)
theorem Fit.same {P : Program} {w : World} {K : PySem.W.Frag} {mg : Str → Option Value} {base : Heap} {k : Nat} {g : Int → Bool} {H H' : Hp} {f : Addr} (h : Fit P w K mg base k g H f) (r : Same H H') : Fit P w K mg base k g H' f := by
  obtain ⟨F, b, ps, h1, h2, h3, h4⟩ := h
  exact ⟨F, b, ps, r _ _ h1, r _ _ h2, h3, h4⟩
section
variable {X : Cx} {k j i : Nat} {x : Str} {g : Int → Bool} {t : TA} {e : Expr} {es : List Expr} {p pos : Pos}
def tFit (X : Cx) (k i : Nat) (g : Int → Bool) (t : TA) : TE := fun σ H Q => ∃ f, σ[i]? = some (some (.ref f)) ∧ Fit X.prog X.w X.K X.mg X.base k g H f ∧
  t σ H fun vs H1 => Fit X.prog X.w X.K X.mg X.base k g H1 f ∧ ∃ n : Int, vs = [.int n] ∧ Q (.bl (g n)) H1
theorem pe_fit (hr : Room j X.A) (hk : k ≤ j) (hN : X.N[i]? = some x) (hv : Vis X.env.scope x) (ha : PA X (e :: es) t)
    (hd : (x == ("__debug__" : Str)) = false := by decide) (hcd : (x == ("__classdict__" : Str)) = false := by decide)
    (he : starEach (e :: es) X.env = (false, eval e X.env) :: starEach es X.env := by rfl) (hpl : (backTo pos (starEach es X.env)).any (·.1) = false := by rfl) :
    PE X (.Call (.Name x p) (e :: es) [] pos) (tFit X k i g t) := by
  refine ⟨fun pins s σ H Q I h => ?_⟩
  obtain ⟨f, hs, hF, ht⟩ := h
  refine wpAny_Call_Name_kw (thn ((pe_var (pos := p) hN hv hd hcd).run pins s σ H (fun v H1 => v = .ref f ∧ H1 = H) I ⟨.ref f, hs, rfl, rfl⟩) fun u s1 ⟨v, H1, I1, r1, q1⟩ => ?_)
  obtain ⟨rfl, rfl⟩ := q1
  obtain rfl : u = Value.ref f := r1
  have at_ : ∀ {H' : Hp} {s' : Shared}, Inv X pins σ H' s' → Fit X.prog X.w X.K X.mg X.base k g H' f → PySem.W.FnAt f s'.heap := fun {H' s'} J hF => by
    obtain ⟨F, b, ps, h1, _⟩ := hF
    obtain ⟨⟨pm, ctv, z⟩, _, _⟩ := J.hok f _ h1
    exact ⟨_, _, _, _, z⟩
  refine PySem.W.callWith_F (first := []) (at_ I1 hF) (thn (ha.run pos pins s1 σ H1 _ I1 ht) fun us s2 ⟨vs, H2, I2, r, hF2, n, ev, q⟩ => ⟨at_ I2 hF2, ?_⟩) he hpl
  show wpAny _ _ (call (.ref f) us) _ _ _
  obtain ⟨F, b, ps, h1, h2, h3, ok⟩ := hF2
  have C : CellsAt F.cl [] [] s2.heap H2 := by
    rw [h3]
    exact ⟨rfl, fun y c z => by simp at z, fun y z c e => by simp at e, fun i y z => by simp at z⟩
  refine wpAny_call (codeAny_mono (ok.run X.A X.stack s2 H2 us vs [] Q E0 (hr.mono hk) I2.env0 h1 h2 C r ⟨n, ev, q⟩) fun res s' hq => ?_)
  cases res with
  | error e => exact False.elim hq
  | ok fl =>
    cases fl with
    | ret u => exact I2.after hq
    | next => exact False.elim hq
    | brk => exact False.elim hq
    | cont => exact False.elim hq
end
/-! ### first_fitting -/
def contF : List (List Int) → Int
  | [p] => (Sq67.gcdAll p : Nat)
  | [[a, b], [c, d]] => ((B2.mk ⟨a, b⟩ ⟨c, d⟩).det.natAbs : Nat)
  | [[a1, a2, a3], [b1, b2, b3]] => (Sq67.gcdAll (crossL ⟨a1, a2, a3⟩ ⟨b1, b2, b3⟩) : Nat)
  | [[a1, a2, a3], [b1, b2, b3], [c1, c2, c3]] => ((B3.mk ⟨a1, a2, a3⟩ ⟨b1, b2, b3⟩ ⟨c1, c2, c3⟩).det.natAbs : Nat)
  | _ => 0
theorem few_of {ps : List (List Int)} {n : Nat} (hn : n = 2 ∨ n = 3) (h0 : ps ≠ []) (hl : ps.length ≤ n) (hr : ∀ p ∈ ps, p.length = n) : Few ps (contF ps) := by
  rcases hn with rfl | rfl
  · match ps with
    | [p] => exact .one (.inl (hr p (by simp)))
    | [p, q] =>
      obtain ⟨u, rfl⟩ := len2 (hr p (by simp))
      obtain ⟨v, rfl⟩ := len2 (hr q (by simp))
      exact .two2 ⟨u, v⟩
    | _ :: _ :: _ :: _ => simp at hl
  · match ps with
    | [p] => exact .one (.inr (hr p (by simp)))
    | [p, q] =>
      obtain ⟨u, rfl⟩ := len3 (hr p (by simp))
      obtain ⟨v, rfl⟩ := len3 (hr q (by simp))
      exact .two3 u v
    | [p, q, r] =>
      obtain ⟨u, rfl⟩ := len3 (hr p (by simp))
      obtain ⟨v, rfl⟩ := len3 (hr q (by simp))
      obtain ⟨w, rfl⟩ := len3 (hr r (by simp))
      exact .three ⟨u, v, w⟩
    | _ :: _ :: _ :: _ :: _ => simp at hl
theorem gl_one (P : List (List Int) → Bool) (n : Nat) (v : List Int) (l : List (List Int)) : gl P n [v] l = if (decide (l.length < n) && P (l ++ [v])) = true then l ++ [v] else l := by
  simp only [gl]
theorem gl_take (P : List (List Int) → Bool) (n : Nat) {ps : List (List Int)} {i : Nat} {v : List Int} (h : ps[i]? = some v) :
    gl P n (ps.take (i + 1)) [] = if (decide ((gl P n (ps.take i) []).length < n) && P (gl P n (ps.take i) [] ++ [v])) = true then gl P n (ps.take i) [] ++ [v] else gl P n (ps.take i) [] := by
  rw [take_snoc' h, gl_append, gl_one]
theorem gl_mem (P : List (List Int) → Bool) (n : Nat) : ∀ (ps l : List (List Int)) (v : List Int), v ∈ gl P n ps l → v ∈ ps ∨ v ∈ l
  | [], l, v, h => .inr h
  | x :: ps, l, v, h => by
    rw [gl] at h
    split at h
    · rcases gl_mem P n ps _ v h with g | g
      · exact .inl (by simp [g])
      · rcases List.mem_append.mp g with g | g
        · exact .inr g
        · exact .inl (by simp [List.mem_singleton.mp g])
    · rcases gl_mem P n ps _ v h with g | g
      · exact .inl (by simp [g])
      · exact .inr g
section
variable {P : Program} {w : World} {K : PySem.W.Frag} {mg : Str → Option Value} {base : Heap}
def spFirst (P : Program) (w : World) (K : PySem.W.Frag) (mg : Str → Option Value) (base : Heap) : Sp := fun vs H Q _ => ∃ (a f : Addr) (rs : List (List Int)) (n : Nat) (g : Int → Bool), vs = [.ref a, .ref f] ∧ Rows K H a rs ∧ Fit P w K mg base 1 g H f ∧
  (n = 2 ∨ n = 3) ∧ (∀ r ∈ rs, r.length = n) ∧ BdP lim rs ∧ ∀ H' p, Same H H' → H p = none → Rows K H' p (gl (fun l => g (contF l)) n rs []) → Q (.ref p) H'
theorem scFirst : FnScope ["rows", "fits", "chosen", "row"] ["rows", "fits"] (defScope sFirst) :=
  ⟨rfl, rfl, rfl, by decide +kernel, rfl, by decide +kernel, by decide +kernel⟩
theorem gl_len_le (P : List (List Int) → Bool) (n : Nat) : ∀ (ps l : List (List Int)), l.length ≤ n → (gl P n ps l).length ≤ n
  | [], l, h => h
  | x :: ps, l, h => by
    rw [gl]
    split
    · next hc =>
      refine gl_len_le P n ps _ ?_
      have := (Bool.and_eq_true_iff.mp hc).1
      have := of_decide_eq_true this
      simp; omega
    · exact gl_len_le P n ps l h
theorem ok_first {f : Addr} {fd : FuncData} (F : Fun K "first_fitting" "first_fitting" sFirst f fd) (ml : mg "len" = none) (C : Callee P w K mg base 4 "content" ["rows"] (spContent K)) : FnOk P w K mg base CX0 5 f fd ["rows", "fits"] (spFirst P w K mg base) := by
  refine F.ok scFirst (fun vs H Q E h => ?_) (fun cdv A outer s H vs Q E hr h => ?_)
  · obtain ⟨a, f', rs, n, g, rfl, _⟩ := h
    rfl
  · obtain ⟨a, f', rs, n, g, rfl, ⟨as, has, hal, hap⟩, fit, hn, hlen, hB, k⟩ := h
    refine ⟨_, pss_cons (ps_set (i := 2) scFirst.nd rfl (.inl rfl) (pe_lst pa_nil))
      (pss_cons (ps_for PassesOwn.never rfl (pi_list (pv 0)) (pg_name (i := 3) scFirst.nd rfl (.inl rfl))
        (pss_one (ps_if (PW.pt (pw_and (pt_cmpR op_lt (pe_callB call_len_seq (by rfl) ml PySem.boot_len (pa_cons (pv 2) pa_nil)) (pe_callB call_len_seq (by rfl) ml PySem.boot_len (pa_cons (pv 3) pa_nil)) (nomark _))
            (pw_and1 (pt_val (pe_fit (k := 1) (i := 1) (g := g) hr (by decide) rfl (.inl rfl) (pa_cons (pe_def C hr rfl (pa_cons (pe_op op_cat (pv 2) (pe_lst (pa_cons (pv 3) pa_nil))) pa_nil)) pa_nil))))))
          (pss_one (ps_expr (pe_bm PySem.F.plainAttrs_list PySem.F.slot_list_append PySem.F.type_list_append mt_append (pv 2) (pa_cons (pv 3) pa_nil)))) pss_nil)))
      (pss_one (ps_ret (pv 2)))), ?_⟩
    refine ⟨by show 0 ≤ sizeLine; decide, fun l hl => ?_⟩
    have s0 : Same H (upd H l (.lst [])) := keep_same.new hl
    generalize hPd : (fun l => g (contF l) : List (List Int) → Bool) = Pd at k
    refine ⟨_, rfl, a, rfl, ⟨_, s0.seq has⟩, for_it (walk_list (xs := as.map V.ref)) (fun i σ H' => Same H H' ∧ ∃ (v3 : Option V) (cs : List Addr), σ = [some (.ref a), some (.ref f'), some (.ref l), v3] ∧ H' l = some (.lst (cs.map V.ref)) ∧
        cs.length = (gl Pd n (rs.take i) []).length ∧ ∀ (j : Nat) (b : Addr) (p : List Int), cs[j]? = some b → (gl Pd n (rs.take i) [])[j]? = some p → SqL K H b (p.map V.int))
      ⟨s0, none, [], rfl, upd_same, rfl, fun j b p e => by simp at e⟩ (fun i σ H' _ ⟨r, _⟩ => r.seq has) ?_ ?_⟩
    · rintro i x σ H1 H' hi ⟨r, v3, cs, rfl, hL, hcl, hcs⟩ ⟨rfl, hx⟩
      obtain ⟨ai, hai, rfl⟩ := map_get hx
      have hi' : i < rs.length := by rw [← hal]; simpa using hi
      obtain ⟨ri, hri⟩ : ∃ ri, rs[i]? = some ri := ⟨_, List.getElem?_eq_getElem hi'⟩
      have hb := hap i ai ri hai hri
      have hln := hlen ri (List.mem_of_getElem? hri)
      have step := gl_take Pd n hri
      have gle := gl_len_le Pd n (rs.take i) [] (by simp)
      have gmem : ∀ v ∈ gl Pd n (rs.take i) [], v ∈ rs := fun v hv => by
        rcases gl_mem Pd n _ _ v hv with g | g
        · exact List.mem_of_mem_take g
        · simp at g
      generalize hch : gl Pd n (rs.take i) [] = ch at *
      have stay : ∀ {H2 : Hp}, Same H H2 → H2 l = some (.lst (cs.map V.ref)) → (decide (ch.length < n) && Pd (ch ++ [ri])) = false → Same H H2 ∧ ∃ (v3 : Option V) (cs : List Addr), [some (.ref a), some (.ref f'), some (.ref l), some (V.ref ai)] = [some (.ref a), some (.ref f'), some (.ref l), v3] ∧ H2 l = some (.lst (cs.map V.ref)) ∧
          cs.length = (gl Pd n (rs.take (i + 1)) []).length ∧ ∀ (j : Nat) (b : Addr) (p : List Int), cs[j]? = some b → (gl Pd n (rs.take (i + 1)) [])[j]? = some p → SqL K H b (p.map V.int) := fun r2 h2 hc => by
        rw [step, hc]
        simp only [Bool.false_eq_true, if_false]
        exact ⟨r2, _, cs, rfl, h2, hcl, hcs⟩
      refine ⟨_, rfl, l, _, rfl, .inl (SqL.of hL), _, rfl, ai, _, rfl, .inl (r.seq hb), _, _, rfl, rfl, _, rfl, ?_⟩
      refine bIf (fun h1 => ?_) (fun h1 => ?_)
      · have lt := of_decide_eq_true h1
        simp only [List.length_map] at lt
        have hlt : ch.length < n := by omega
        refine ⟨f', rfl, fit.same r, _, rfl, _, rfl, by show 1 ≤ sizeLine; decide, fun z hz => ?_⟩
        have s2 := keep_same.new (o := .lst [V.ref ai]) hz
        refine ⟨l, z, _, _, rfl, rfl, s2 _ _ hL, upd_same, by rw [sizeLine_eq]; simp; omega, fun p hp => ?_⟩
        have s3 := keep_same.trans s2 (keep_same.new (o := .lst (cs.map V.ref ++ [V.ref ai])) hp)
        have hRows : Rows K (upd (upd H' z (.lst [V.ref ai])) p (.lst (cs.map V.ref ++ [V.ref ai]))) p (ch ++ [ri]) := by
          refine ⟨cs ++ [ai], SqL.of (by rw [upd_same]; simp), by simp [hcl], fun j b q e1 e2 => ?_⟩
          rcases get_snoc rfl e1 with g1 | ⟨g1, g2⟩
          · have hj : j < cs.length := (List.getElem?_eq_some_iff.mp g1).1
            rw [List.getElem?_append_left (by omega)] at e2
            exact s3.seq (r.seq (hcs j b q g1 e2))
          · rw [g1, hcl, List.getElem?_append_right (by omega)] at e2
            simp at e2
            rw [g2, ← e2]
            exact s3.seq (r.seq hb)
        refine ⟨p, ch ++ [ri], contF (ch ++ [ri]), rfl, hRows, few_of hn (by simp) (by simp; omega) (fun q hq => ?_) , fun q hq => ?_, fun H4 r4 => ?_⟩
        · rcases List.mem_append.mp hq with g | g
          · exact hlen q (gmem q g)
          · rw [List.mem_singleton.mp g]; exact hln
        · rcases List.mem_append.mp hq with g | g
          · exact hB q (gmem q g)
          · rw [List.mem_singleton.mp g]; exact hB ri (List.mem_of_getElem? hri)
        · have s5 := keep_same.trans s3 r4
          have s6 := keep_same.trans r s5
          have hL4 := s5 _ _ hL
          refine ⟨fit.same s6, _, rfl, _, rfl, ?_⟩
          refine bIf (fun h2 => ?_) (fun h2 => ?_)
          · have hp2 : Pd (ch ++ [ri]) = true := by rw [← hPd]; exact h2
            have hc : (decide (ch.length < n) && Pd (ch ++ [ri])) = true := by rw [hp2]; simp [hlt]
            refine ⟨_, rfl, .inl ⟨rfl, _, SqL.of hL4⟩, _, rfl, l, _, _, rfl, rfl, hL4, by rw [sizeLine_eq]; simp; omega, ?_⟩
            refine ⟨keep_same.put s6 hl (.inr ⟨_, hL4⟩), _, cs ++ [ai], rfl, by rw [upd_same]; simp, ?_, ?_⟩
            · rw [step, hc]; simp [hcl]
            · rw [step, hc]
              simp only [if_true]
              intro j b q e1 e2
              rcases get_snoc rfl e1 with g1 | ⟨g1, g2⟩
              · have hj : j < cs.length := (List.getElem?_eq_some_iff.mp g1).1
                rw [List.getElem?_append_left (by omega)] at e2
                exact hcs j b q g1 e2
              · rw [g1, hcl, List.getElem?_append_right (by omega)] at e2
                simp at e2
                rw [g2, ← e2]
                exact hb
          · refine stay s6 hL4 ?_
            have : Pd (ch ++ [ri]) = false := by rw [← hPd]; exact h2
            rw [this]; simp
      · have ge := of_decide_eq_false h1
        simp only [List.length_map] at ge
        refine stay r hL ?_
        have : decide (ch.length < n) = false := by simp; omega
        rw [this]; rfl
    · rintro σ H' ⟨r, v3, cs, rfl, hL, hcl, hcs⟩
      rw [List.length_map, hal, List.take_length] at hcl hcs
      exact ⟨_, rfl, k H' l r hl ⟨cs, SqL.of hL, hcl, fun j b p e1 e2 => r.seq (hcs j b p e1 e2)⟩⟩
end
end Np
end
section
set_option maxRecDepth 100000
set_option maxHeartbeats 2000000
namespace Np
open PySem PySem.Spec PyProof.Rows L2 LamX NdefX
/-! ### different_lengths, reduced_steps -/
abbrev sDL : Stmt := top 24
abbrev sRS : Stmt := top 25
def asgE : Stmt → Expr
  | .Assign [_] e _ => e
  | _ => .Name "x" ⟨0, 0, 0, 0⟩
/-- the lambda that a call has as its second -/
def argLam : Expr → Option (Arguments × Expr × Scope)
  | .Call _ [_, .Lambda p b s _] [] _ => some (p, b, s)
  | _ => none
def noLam : Arguments × Expr × Scope := (⟨[], [], none, [], [], none, []⟩, .Name "x" ⟨0, 0, 0, 0⟩, ⟨.function, [], false, false, []⟩)
def lamDL : Arguments × Expr × Scope := (argLam (asgE ((defBody sDL).getD 1 (.Pass ⟨0, 0, 0, 0⟩)))).getD noLam
def lamRS : Arguments × Expr × Scope := (argLam (asgE ((defBody sRS).getD 2 (.Pass ⟨0, 0, 0, 0⟩)))).getD noLam
def gNe (n : Int) : Bool := n != 0
def gOne (n : Int) : Bool := n == 1
section
variable {P : Program} {w : World} {K : PySem.W.Frag} {mg : Str → Option Value} {base : Heap}
theorem nsDL : NScope ["divisor"] ["divisor"] [] lamDL.2.2 := nscope_by (by decide +kernel)
theorem nsRS : NScope ["divisor"] ["divisor"] [] lamRS.2.2 := nscope_by (by decide +kernel)
theorem lokDL (q : Str) (cl : List (Str × Addr)) (f c' : Addr) : LOk P w K mg base 1 f ⟨"<lambda>", q, lamDL.1, [], lamDL.2.2, cl, c'⟩ lamDL.2.1 ["divisor"] [] (fun _ => spFit gNe) := by
  refine lok_of (N := ["divisor"]) nsDL (fun pm ctv us hl => match us, hl with | [_], _ => rfl) (fun ws vs H Q E h => ?_) (fun A outer s H vs ws Q E hr hl h => ?_)
  · obtain ⟨n, rfl, _⟩ := h
    rfl
  · refine ⟨_, (pe_cmpR op_ne (pv 0) pe_int (nomark _) : PE (ncx CX0 P w K mg base ["divisor"] ⟨"<lambda>", q, lamDL.1, [], lamDL.2.2, cl, c'⟩ f A outer s H E) lamDL.2.1 _), ?_⟩
    obtain ⟨n, rfl, k⟩ := h
    refine ⟨_, rfl, rfl, ?_⟩
    have e : gNe n = !decide (V.int n = V.int 0) := by
      unfold gNe
      by_cases h : n = 0
      · subst h; rfl
      · have h2 : V.int n ≠ V.int 0 := fun z => h (by injection z)
        simp [h, h2]
    rw [e] at k
    exact k
theorem lokRS (q : Str) (cl : List (Str × Addr)) (f c' : Addr) : LOk P w K mg base 1 f ⟨"<lambda>", q, lamRS.1, [], lamRS.2.2, cl, c'⟩ lamRS.2.1 ["divisor"] [] (fun _ => spFit gOne) := by
  refine lok_of (N := ["divisor"]) nsRS (fun pm ctv us hl => match us, hl with | [_], _ => rfl) (fun ws vs H Q E h => ?_) (fun A outer s H vs ws Q E hr hl h => ?_)
  · obtain ⟨n, rfl, _⟩ := h
    rfl
  · refine ⟨_, (pe_cmpR op_eq (pv 0) pe_int (nomark _) : PE (ncx CX0 P w K mg base ["divisor"] ⟨"<lambda>", q, lamRS.1, [], lamRS.2.2, cl, c'⟩ f A outer s H E) lamRS.2.1 _), ?_⟩
    obtain ⟨n, rfl, k⟩ := h
    refine ⟨_, rfl, rfl, ?_⟩
    have e : gOne n = decide (V.int n = V.int 1) := by
      unfold gOne
      by_cases h : n = 1
      · subst h; rfl
      · have h2 : V.int n ≠ V.int 1 := fun z => h (by injection z)
        simp [h, h2]
    rw [e] at k
    exact k
def MinP (ps : List (List Int)) (ns : List Int) : Prop := ∃ L ts, UpTo ps L ts ∧ (∀ p ∈ ps, dotL p p ≤ L) ∧ ns = (gl (fun l => gNe (contF l)) ps.length ts []).map fun t => dotL (togL ps t) (togL ps t)
def spDL (K : PySem.W.Frag) (T : List (Addr × Str)) : Sp := fun vs H Q _ => ∃ (a : Addr) (ps : List (List Int)), vs = [.ref a] ∧ Rows K H a ps ∧ StOk ps ∧ Tabs T H ∧
  ∀ H' p ns, KpT T H H' → H p = none → H' p = some (.lst (ns.map V.int)) → MinP ps ns → Q (.ref p) H'
abbrev nDL : List Str := ["steps", "rows", "chosen", "times"]
theorem scDL : FnScope nDL ["steps"] (defScope sDL) :=
  ⟨rfl, rfl, rfl, by decide +kernel, rfl, by decide +kernel, by decide +kernel⟩
theorem ok_dl {T : List (Addr × Str)} {f c Pt : Addr} {fd : FuncData} (F : Fun K "different_lengths" "different_lengths" sDL f fd) (hcd : fd.code = .ref c) (TB : TabB base mg c Pt)
    (hT : (Pt, (Str.ofString "different_lengths.<locals>." ++ Str.ofString "<lambda>" : Str)) ∈ T) (hu : ∀ p ∈ T, p.1 = Pt → p.2 = (Str.ofString "different_lengths.<locals>." ++ Str.ofString "<lambda>" : Str))
    (Tu : Callee P w K mg base 7 "times_up_to" ["steps", "limit"] (spTU K T)) (G : Callee P w K mg base 1 "together" ["steps", "times"] (spTogether K)) (Le : Callee P w K mg base 2 "length" ["point"] (spLength K))
    (Ll : Callee P w K mg base 3 "longest_length" ["steps"] (spLongest K)) (Ff : Callee P w K mg base 5 "first_fitting" ["rows", "fits"] (spFirst P w K mg base)) : FnOk P w K mg base CX0 8 f fd ["steps"] (spDL K T) := by
  refine fun_okC F hcd scDL (fun vs H Q E h => ?_) fun A outer s H vs Q E hr h => ?_
  · obtain ⟨a, ps, rfl, _⟩ := h
    rfl
  · have frX : ∀ y ∈ lamDL.2.2.names, y.2 = .free → (defScope sDL).names.lookup y.1 = some .cell ∨ (defScope sDL).names.lookup y.1 = some .free := by
      have : lamSB2 (defScope sDL) lamDL.2.2 = true := by decide +kernel
      exact lamS2 this
    refine ⟨_, pss_cons (ps_set (i := 1) scDL.nd rfl (.inl rfl) (pe_def Tu hr rfl (pa_cons (pv 0) (pa_cons (pe_def Ll (hr.mono (by decide)) rfl (pa_cons (pv 0) pa_nil)) pa_nil))))
      (pss_cons (ps_set (i := 2) scDL.nd rfl (.inl rfl) (pe_def Ff (hr.mono (by decide)) rfl (pa_cons (pv 1) (pa_cons (pe_lam (scope := lamDL.2.2) TB rfl hT hu frX) pa_nil))))
      (pss_one (ps_ret (pe_lc (own := [("times", 3)]) (g := gName 3) rfl scDL.nd (pi_list (pv 2))
          (blkOk_by (N := nDL) (sc := defScope sDL) (by decide +kernel))
          (fun _ _ _ _ _ => by exact pg_name (i := 3) scDL.nd rfl (.inl rfl)) (fun _ _ _ _ _ => pts_nil)
          (fun _ _ _ _ _ => by exact pe_def Le (hr.mono (by decide)) rfl (pa_cons (pe_def G (hr.mono (by decide)) rfl (pa_cons (pv 0) (pa_cons (pv 3) pa_nil))) pa_nil)))))), ?_⟩
    obtain ⟨a, ps, rfl, hR, ok, tabs, k⟩ := h
    have hd := ok.sh.dm
    have hB := ok.bd
    obtain ⟨n1, n2, n3, n4⟩ := nrm_shape hd
    have hne : ps ≠ [] := fun z => by rw [z] at n4; simp at n4
    refine ⟨_, rfl, _, rfl, a, ps, rfl, hR, hne, by omega, fun p hp => ⟨by rw [n3 p hp]; omega, Bd.mono (by decide) (hB p hp)⟩, fun H1 L r1 hL hmax => ?_⟩
    obtain ⟨p0, hp0, hpL⟩ := List.mem_map.mp hL
    have hL0 : 0 ≤ L := by rw [← hpL]; exact (dotL_nonneg p0).1
    have hL1 : L ≤ 243 := by rw [← hpL]; exact ok.le p0 hp0
    refine ⟨a, ps, L, rfl, Rows.keep keep_same r1 hR, ok.sh, hB, ok.det, hL0, by omega, tabs.ext r1, fun H2 pt ts k2 hpt hRt up => ?_⟩
    have k02 := (keep_tabs T).trans (same_tabs r1) k2
    refine ⟨_, rfl, k02.tabs tabs, fun f' c' H3 k3 hf' hlam hcode => ?_⟩
    have k03 := (keep_tabs T).trans k02 k3
    have gmem : ∀ t ∈ gl (fun l => gNe (contF l)) ps.length ts [], t ∈ ts := fun t ht => by
      rcases gl_mem _ ps.length ts [] t ht with g | g
      · exact g
      · simp at g
    refine ⟨pt, f', ts, ps.length, gNe, rfl, (RowsH.keep (keep_tabs T) k3 hRt).rows, ⟨_, _, ["divisor"], hlam, hcode, rfl, lokDL _ _ _ _⟩, n4, up.len, fun t ht => Bd.mono (by decide) (up.bd t ht), fun H4 pc r4 hpc hRc => ?_⟩
    have k04 := (keep_tabs T).trans k03 (same_tabs r4)
    obtain ⟨cs, hcs, hcl, hcp⟩ := hRc
    have cle : (gl (fun l => gNe (contF l)) ps.length ts []).length ≤ ps.length := gl_len_le _ _ _ _ (by simp)
    refine ⟨_, rfl, pc, rfl, ⟨_, hcs⟩, lc_ints keep_same (walk_list (xs := cs.map V.ref)) ((gl (fun l => gNe (contF l)) ps.length ts []).map fun t => dotL (togL ps t) (togL ps t)) (by simp [hcl]) (fun H' r => r.seq hcs) (by rw [sizeLine_eq]; simp; omega) ?_ ?_⟩
    · rintro i x z H0 H' Qf hz r ⟨rfl, hx⟩ q
      obtain ⟨t, ht, rfl⟩ := map_get hz
      obtain ⟨bi, hbi, rfl⟩ := map_get hx
      have tm := gmem t (List.mem_of_getElem? ht)
      refine ⟨rfl, _, rfl, _, rfl, a, bi, ps, t, ps.length, rfl, Rows.keep keep_same r (Rows.keep (keep_tabs T) k04 hR), r.seq (hcp i bi t hbi ht), hne, (up.len t tm).symm, by omega, by omega, n3, Bd.mono (by decide) (up.bd t tm), fun H5 p5 r5 hp5 e5 => ?_⟩
      exact ⟨p5, _, rfl, SqL.of e5, by rw [tog_len n3 hne]; omega, Bd.mono (by decide) (tog_bd (M := 48) (by decide) (by decide) hB (up.bd t tm) (by omega)), fun H6 r6 => q H6 (keep_same.trans r5 r6)⟩
    · intro D5 H5 r5 hD5 e5
      exact k H5 D5 _ ((keep_tabs T).trans k04 (same_tabs r5)) ((keep_tabs T).free k04 hD5) e5 ⟨L, ts, up, hmax, rfl⟩
def RedP (ps rs : List (List Int)) : Prop := ∃ qs L ts, Cur ps qs ∧ ShL qs ∧ UpTo qs L ts ∧ (∀ q ∈ qs, dotL q q ≤ L) ∧ rs = (gl (fun l => gOne (contF l)) qs.length ts []).map (togL qs)
def spRS (K : PySem.W.Frag) (T : List (Addr × Str)) : Sp := fun vs H Q _ => ∃ (a : Addr) (ps : List (List Int)), vs = [.ref a] ∧ RowsH H a ps ∧ Dm ps ∧ detL ps ≠ 0 ∧ (∀ p ∈ ps, dotL p p ≤ 243) ∧ Tabs T H ∧
  ∀ H' p rs, KpT T H H' → H p = none → RowsH H' p rs → (∀ as : List Addr, H' p = some (.lst (as.map V.ref)) → ∀ b ∈ as, H b = none) → RedP ps rs → Q (.ref p) H'
abbrev nRS : List Str := ["steps", "short", "rows", "chosen", "times"]
theorem scRS : FnScope nRS ["steps"] (defScope sRS) :=
  ⟨rfl, rfl, rfl, by decide +kernel, rfl, by decide +kernel, by decide +kernel⟩
theorem ok_rs {T : List (Addr × Str)} {f c Pt : Addr} {fd : FuncData} (F : Fun K "reduced_steps" "reduced_steps" sRS f fd) (hcd : fd.code = .ref c) (TB : TabB base mg c Pt)
    (hT : (Pt, (Str.ofString "reduced_steps.<locals>." ++ Str.ofString "<lambda>" : Str)) ∈ T) (hu : ∀ p ∈ T, p.1 = Pt → p.2 = (Str.ofString "reduced_steps.<locals>." ++ Str.ofString "<lambda>" : Str))
    (Sh : Callee P w K mg base 6 "shortened" ["steps"] (spSh K T))
    (Tu : Callee P w K mg base 7 "times_up_to" ["steps", "limit"] (spTU K T)) (G : Callee P w K mg base 1 "together" ["steps", "times"] (spTogether K))
    (Ll : Callee P w K mg base 3 "longest_length" ["steps"] (spLongest K)) (Ff : Callee P w K mg base 5 "first_fitting" ["rows", "fits"] (spFirst P w K mg base)) : FnOk P w K mg base CX0 8 f fd ["steps"] (spRS K T) := by
  refine fun_okC F hcd scRS (fun vs H Q E h => ?_) fun A outer s H vs Q E hr h => ?_
  · obtain ⟨a, ps, rfl, _⟩ := h
    rfl
  · have frX : ∀ y ∈ lamRS.2.2.names, y.2 = .free → (defScope sRS).names.lookup y.1 = some .cell ∨ (defScope sRS).names.lookup y.1 = some .free := by
      have : lamSB2 (defScope sRS) lamRS.2.2 = true := by decide +kernel
      exact lamS2 this
    refine ⟨_, pss_cons (ps_set (i := 1) scRS.nd rfl (.inr rfl) (pe_def Sh (hr.mono (by decide)) rfl (pa_cons (pv 0) pa_nil)))
      (pss_cons (ps_set (i := 2) scRS.nd rfl (.inl rfl) (pe_def Tu hr rfl (pa_cons (pv 1) (pa_cons (pe_def Ll (hr.mono (by decide)) rfl (pa_cons (pv 1) pa_nil)) pa_nil))))
      (pss_cons (ps_set (i := 3) scRS.nd rfl (.inl rfl) (pe_def Ff (hr.mono (by decide)) rfl (pa_cons (pv 2) (pa_cons (pe_lam (scope := lamRS.2.2) TB rfl hT hu frX) pa_nil))))
      (pss_one (ps_ret (pe_lc (own := [("times", 4)]) (g := gName 4) rfl scRS.nd (pi_list (pv 3))
          (blkOk_by (N := nRS) (sc := defScope sRS) (by decide +kernel))
          (fun _ _ _ _ _ => by exact pg_name (i := 4) scRS.nd rfl (.inl rfl)) (fun _ _ _ _ _ => pts_nil)
          (fun _ _ _ _ _ => by exact pe_def G (hr.mono (by decide)) rfl (pa_cons (pv 1) (pa_cons (pv 4) pa_nil)))))))), ?_⟩
    obtain ⟨a0, ps0, rfl, hR0, hd0, det0, le0, tabs, k⟩ := h
    refine ⟨_, rfl, a0, ps0, rfl, hR0, hd0, det0, le0, tabs, fun H0 a ps k0 ha hRH cur sh => ?_⟩
    have hR : Rows K H0 a ps := hRH.rows
    have ok : StOk ps := ⟨sh, cur.same.det det0, cur.le⟩
    have hd := ok.sh.dm
    have hB := ok.bd
    obtain ⟨n1, n2, n3, n4⟩ := nrm_shape hd
    have hne : ps ≠ [] := fun z => by rw [z] at n4; simp at n4
    refine ⟨_, rfl, _, rfl, a, ps, rfl, hR, hne, by omega, fun p hp => ⟨by rw [n3 p hp]; omega, Bd.mono (by decide) (hB p hp)⟩, fun H1 L r1 hL hmax => ?_⟩
    obtain ⟨p0, hp0, hpL⟩ := List.mem_map.mp hL
    have hL0 : 0 ≤ L := by rw [← hpL]; exact (dotL_nonneg p0).1
    have hL1 : L ≤ 243 := by rw [← hpL]; exact ok.le p0 hp0
    refine ⟨a, ps, L, rfl, Rows.keep keep_same r1 hR, ok.sh, hB, ok.det, hL0, by omega, (k0.tabs tabs).ext r1, fun H2 pt ts k2 hpt hRt up => ?_⟩
    have k02 := (keep_tabs T).trans (same_tabs r1) k2
    refine ⟨_, rfl, k02.tabs (k0.tabs tabs), fun f' c' H3 k3 hf' hlam hcode => ?_⟩
    have k03 := (keep_tabs T).trans k02 k3
    have gmem : ∀ t ∈ gl (fun l => gOne (contF l)) ps.length ts [], t ∈ ts := fun t ht => by
      rcases gl_mem _ ps.length ts [] t ht with g | g
      · exact g
      · simp at g
    refine ⟨pt, f', ts, ps.length, gOne, rfl, (RowsH.keep (keep_tabs T) k3 hRt).rows, ⟨_, _, ["divisor"], hlam, hcode, rfl, lokRS _ _ _ _⟩, n4, up.len, fun t ht => Bd.mono (by decide) (up.bd t ht), fun H4 pc r4 hpc hRc => ?_⟩
    have k04 := (keep_tabs T).trans k03 (same_tabs r4)
    obtain ⟨cs, hcs, hcl, hcp⟩ := hRc
    have cle : (gl (fun l => gOne (contF l)) ps.length ts []).length ≤ ps.length := gl_len_le _ _ _ _ (by simp)
    refine ⟨_, rfl, pc, rfl, ⟨_, hcs⟩, lc_rowsN keep_same (walk_list (xs := cs.map V.ref)) ((gl (fun l => gOne (contF l)) ps.length ts []).map (togL ps)) (by simp [hcl]) (fun H' r => r.seq hcs) (by rw [sizeLine_eq]; simp; omega) ?_ ?_⟩
    · rintro i x z H0 H' Qf hz r ⟨rfl, hx⟩ q
      obtain ⟨t, ht, rfl⟩ := map_get hz
      obtain ⟨bi, hbi, rfl⟩ := map_get hx
      have tm := gmem t (List.mem_of_getElem? ht)
      exact ⟨rfl, _, rfl, _, rfl, a, bi, ps, t, ps.length, rfl, Rows.keep keep_same r (Rows.keep (keep_tabs T) k04 hR), r.seq (hcp i bi t hbi ht), hne, (up.len t tm).symm, by omega, by omega, n3, Bd.mono (by decide) (up.bd t tm), fun H5 p5 r5 hp5 e5 => q p5 H5 r5 hp5 e5⟩
    · intro D5 H5 r5 hD5 e5 hnew
      exact k H5 D5 _ ((keep_tabs T).trans k0 ((keep_tabs T).trans k04 (same_tabs r5))) ((keep_tabs T).free k0 ((keep_tabs T).free k04 hD5)) e5 (fun as ea b hb => (keep_tabs T).free k0 ((keep_tabs T).free k04 (hnew as ea b hb))) ⟨ps, L, ts, cur, sh, up, hmax, rfl⟩
end
end Np
end
section
set_option maxRecDepth 100000
set_option maxHeartbeats 2000000
namespace Np
open PySem PySem.Spec PyProof.Rows L2 LamX NdefX
/-! ### sorted(xs, key=a def) -/
section
variable {X : Cx}
def rSortD (K : PySem.W.Frag) (sp : Sp) : List V → Hp → VK → Prop := fun vs H Q =>
  ∃ (a0 : Addr) (xs : List V) (bs : List (List Int)) (k : List Int → List Int) (m : Nat) (Rl : V → List Int → Prop), vs = [.ref a0] ∧ SqL K H a0 xs ∧ PySem.W.EachIs Rl xs bs ∧ (∀ y ∈ bs, (k y).length = m) ∧
    (∀ (i : Nat) (x : V) (y : List Int) (H' : Hp) (Q' : VK), xs[i]? = some x → bs[i]? = some y → Same H H' →
      (∀ H2 p, Same H' H2 → H' p = none → H2 p = some (.lst ((k y).map V.int)) → Q' (.ref p) H2) → sp [x] H' Q' E0) ∧
    (∀ (H' : Hp) (p : Addr) (zs : List V), Same H H' → H p = none → H' p = some (.lst zs) → PySem.W.EachIs Rl zs (bs.mergeSort (PySem.W.dataLe false fun y => listD (k y))) → Q (.ref p) H')
theorem pe_sortD {x : Str} {ps : List Str} {sp : Sp} {k : Nat} {e : Expr} {ta : TA} {p px pos kpos : Pos} {f : Addr} {fd : FuncData} (G : FnOk X.prog X.w X.K X.mg X.base CX0 k f fd ps sp) (m : X.mg x = some (.ref f)) (b : Binds X.K fd ps []) (hr : Room (k + 2) X.A) (hgx : Gl X x)
    (hg : Gl X "sorted") (hm : X.mg "sorted" = none) (ha : PA X [e] ta)
    (hdx : (x == ("__debug__" : Str)) = false := by decide)
    (h1 : backTo pos (starEach [e] X.env) = (false, eval e X.env) :: backTo pos (starEach [] X.env) := by rfl) (h2 : (backTo pos (starEach [e] X.env)).any (·.1) = false := by rfl) :
    PE X (.Call (.Name "sorted" p) [e] [⟨some "key", .Name x px, kpos⟩] pos) (fun σ H Q => ta σ H fun vs H1 => tCons (tC (.ref f)) tNil σ H1 fun zs H2 => zs = [.ref f] ∧ rSortD X.K sp vs H2 Q) := by
  have hl : PE X (.Name x px) (tC (.ref f)) := pe_glob hgx m rfl hdx
  refine pe_callKs (X := X) (id := "sorted") (ks := [Str.ofString "key"]) (r := fun _ vs zs H Q => zs = [.ref f] ∧ rSortD X.K sp vs H Q) (p := p) (pos := pos) (kws := [⟨some "key", .Name x px, kpos⟩]) ?_ hg hm (by decide +kernel) ha (pk_cons hl pk_nil) (by decide) (by decide) h1 h2
  · intro pins s σ H vs zs us ws Q I rv rz h
    obtain ⟨rfl, a0, xs, bs, kk, mm, Rl, rfl, hs, ea, hm', turn, fin⟩ := h
    obtain rfl := Vals.ref1 rv
    obtain rfl := Vals.ref1 rz
    refine sorted_lists keep_same (m := mm) (sp := fun vs H' Q => sp vs H' Q E0) I hs ea hm' (by have := hr.un; omega) ?_ turn fin
    intro s' H' us vs Q' I' r rv' q
    refine G.run _ _ s' H' ⟨us, []⟩ us vs Q' E0 (Room.in1 (Room.in1 hr)) I'.env0.in1.in1 ?_ rv' q
    have hl := G.len _ _ _ _ q
    have := b s' us I'.kIn (by rw [List.append_nil, ← rv'.length]; exact hl)
    rw [List.append_nil] at this
    exact this
end
/-! ### point_by_rounding -/
abbrev sPR : Stmt := top 27
def roundL (ps : List (List Int)) (told : List Int) (q : Int) : List Int := (nrmL ps).map fun n => (2 * dotL n told + q * detL ps).fdiv (2 * (q * detL ps))
theorem round_rem {w p : Int} (hp : p ≠ 0) : 4 * ((w - p * (2 * w + p).fdiv (2 * p)) * (w - p * (2 * w + p).fdiv (2 * p))) ≤ p * p := by
  have h := fdiv_rem (2 * w + p) (p := 2 * p) (by omega)
  generalize (2 * w + p).fdiv (2 * p) = k at *
  have e : 2 * p * k = 2 * (p * k) := by rw [Int.mul_assoc]
  rw [e] at h
  generalize hx : w - p * k = x at *
  have e2 : 2 * w + p - 2 * (p * k) = 2 * x + p := by omega
  rw [e2] at h
  have h3 : (2 * x) * (2 * x) ≤ p * p := by
    rcases h with ⟨g, a, b⟩ | ⟨g, a, b⟩
    · exact sq_le_of (by omega) (by omega)
    · have := sq_le_of (a := 2 * x) (m := -p) (by omega) (by omega)
      have e : -p * -p = p * p := by rw [Int.neg_mul_neg]
      omega
  have e4 : (2 * x) * (2 * x) = 4 * (x * x) := by grind
  omega
theorem three_sq (x y z : Int) : (x + y + z) * (x + y + z) ≤ 3 * (x * x + y * y + z * z) := by
  have h1 := sq_nonneg (x - y); have h2 := sq_nonneg (x - z); have h3 := sq_nonneg (y - z)
  grind
theorem two_sq (x y : Int) : (x + y) * (x + y) ≤ 3 * (x * x + y * y) := by
  have h1 := sq_nonneg (x - y); have h2 := sq_nonneg x; have h3 := sq_nonneg y
  grind
theorem comb_le3 (m : B3) (e : V3) : V3.nrm (m.pt e) ≤ 3 * (e.x * e.x * V3.nrm m.a + e.y * e.y * V3.nrm m.b + e.z * e.z * V3.nrm m.c) := by
  have h1 := three_sq (e.x * m.a.x) (e.y * m.b.x) (e.z * m.c.x)
  have h2 := three_sq (e.x * m.a.y) (e.y * m.b.y) (e.z * m.c.y)
  have h3 := three_sq (e.x * m.a.z) (e.y * m.b.z) (e.z * m.c.z)
  simp only [V3.nrm, V3.dot, B3.pt]
  grind
theorem comb_le2 (m : B2) (e : V2) : V2.nrm (m.pt e) ≤ 3 * (e.x * e.x * V2.nrm m.a + e.y * e.y * V2.nrm m.b) := by
  have h1 := two_sq (e.x * m.a.x) (e.y * m.b.x)
  have h2 := two_sq (e.x * m.a.y) (e.y * m.b.y)
  simp only [V2.nrm, V2.dot, B2.pt]
  grind
/-- the determinant times what is left is made of the steps by what the products leave -/
theorem left_comb3 (m : B3) (t : V3) (q : Int) (k : V3) : V3.smul m.det (df3 q t (m.pt k)) = m.pt ⟨V3.dot (V3.cross m.b m.c) t - q * m.det * k.x, V3.dot (V3.cross m.c m.a) t - q * m.det * k.y, V3.dot (V3.cross m.a m.b) t - q * m.det * k.z⟩ := by
  apply V3.ext' <;> simp only [V3.smul, df3, V3.add, B3.pt, V3.dot, V3.cross, B3.det] <;> grind
theorem left_comb2 (m : B2) (t : V2) (q : Int) (k : V2) : V2.smul m.det (df2 q t (m.pt k)) = m.pt ⟨V2.dot ⟨m.b.y, -m.b.x⟩ t - q * m.det * k.x, V2.dot ⟨-m.a.y, m.a.x⟩ t - q * m.det * k.y⟩ := by
  apply V2.ext' <;> simp only [V2.smul, df2, V2.add, B2.pt, V2.dot, V2.crs, B2.det] <;> grind
theorem nrm_smul3 (g : Int) (k : V3) : V3.nrm (V3.smul g k) = g * g * V3.nrm k := B3.nrm_smul g k
theorem nrm_smul2 (g : Int) (k : V2) : V2.nrm (V2.smul g k) = g * g * V2.nrm k := B2.nrm_smul g k
theorem part_le {x A p : Int} (h : 4 * (x * x) ≤ p * p) (hA0 : 0 ≤ A) (hA : A ≤ 243) : 4 * (x * x * A) ≤ p * p * 243 := by
  have h1 : 4 * (x * x) * A ≤ p * p * A := Int.mul_le_mul_of_nonneg_right h hA0
  have h2 : p * p * A ≤ p * p * 243 := Int.mul_le_mul_of_nonneg_left hA (sq_nonneg p)
  grind
theorem far_le {D F q S : Int} (hD : D ≠ 0) (h : D * D * F ≤ S) (hS : 4 * S ≤ 3 * (729 * (q * D * (q * D)))) : F ≤ 576 * (q * q) := by
  have hp := sq_pos hD
  have e : q * D * (q * D) = D * D * (q * q) := by grind
  rw [e] at hS
  have h0 := sq_nonneg q
  have h1 : D * D * (4 * F) ≤ D * D * (2187 * (q * q)) := by grind
  have := le_of_mul_le hp h1
  omega
theorem round_far {ps : List (List Int)} (ok : StOk ps) {told : List Int} (hl : told.length = ps.length) {q : Int} (hq : 1 ≤ q) : farL told q (togL ps (roundL ps told q)) ≤ 576 * (q * q) := by
  have hdet := ok.det
  have hle := ok.le
  rcases ok.sh.dm with ⟨m, rfl⟩ | ⟨m, rfl⟩
  · obtain ⟨t, rfl⟩ := len2 (v := told) hl
    rw [detL2] at hdet
    have hp : q * m.det ≠ 0 := fun e => by rcases Int.mul_eq_zero.mp e with e | e; omega; exact hdet e
    have er : roundL (b2 m) (l2 t) q = l2 ⟨(2 * V2.dot ⟨m.b.y, -m.b.x⟩ t + q * m.det).fdiv (2 * (q * m.det)), (2 * V2.dot ⟨-m.a.y, m.a.x⟩ t + q * m.det).fdiv (2 * (q * m.det))⟩ := by
      unfold roundL
      rw [nrmL2', detL2, List.map_cons, List.map_cons, List.map_nil, dotL2, dotL2]; rfl
    rw [er, tog2, farL, left2, dotL2]
    generalize hk : (V2.mk ((2 * V2.dot ⟨m.b.y, -m.b.x⟩ t + q * m.det).fdiv (2 * (q * m.det))) ((2 * V2.dot ⟨-m.a.y, m.a.x⟩ t + q * m.det).fdiv (2 * (q * m.det)))) = k
    have r1 := round_rem (w := V2.dot ⟨m.b.y, -m.b.x⟩ t) hp
    have r2 := round_rem (w := V2.dot ⟨-m.a.y, m.a.x⟩ t) hp
    have kx : k.x = (2 * V2.dot ⟨m.b.y, -m.b.x⟩ t + q * m.det).fdiv (2 * (q * m.det)) := by rw [← hk]
    have ky : k.y = (2 * V2.dot ⟨-m.a.y, m.a.x⟩ t + q * m.det).fdiv (2 * (q * m.det)) := by rw [← hk]
    rw [← kx] at r1
    rw [← ky] at r2
    have c := comb_le2 m ⟨V2.dot ⟨m.b.y, -m.b.x⟩ t - q * m.det * k.x, V2.dot ⟨-m.a.y, m.a.x⟩ t - q * m.det * k.y⟩
    rw [← left_comb2, nrm_smul2] at c
    have hA := hle (l2 m.a) (by simp [b2])
    have hB := hle (l2 m.b) (by simp [b2])
    rw [dotL2] at hA hB
    have p1 := part_le r1 (V2.nrm_nonneg m.a) hA
    have p2 := part_le r2 (V2.nrm_nonneg m.b) hB
    refine far_le hdet c ?_
    have := sq_nonneg (q * m.det)
    simp only at *
    omega
  · obtain ⟨t, rfl⟩ := len3 (v := told) hl
    rw [detL3] at hdet
    have hp : q * m.det ≠ 0 := fun e => by rcases Int.mul_eq_zero.mp e with e | e; omega; exact hdet e
    have er : roundL (b3 m) (l3 t) q = l3 ⟨(2 * V3.dot (V3.cross m.b m.c) t + q * m.det).fdiv (2 * (q * m.det)), (2 * V3.dot (V3.cross m.c m.a) t + q * m.det).fdiv (2 * (q * m.det)), (2 * V3.dot (V3.cross m.a m.b) t + q * m.det).fdiv (2 * (q * m.det))⟩ := by
      unfold roundL
      rw [nrmL3, detL3, List.map_cons, List.map_cons, List.map_cons, List.map_nil, crossL, crossL, crossL, dotL3, dotL3, dotL3]; rfl
    rw [er, tog3, farL, left3, dotL3]
    generalize hk : (V3.mk ((2 * V3.dot (V3.cross m.b m.c) t + q * m.det).fdiv (2 * (q * m.det))) ((2 * V3.dot (V3.cross m.c m.a) t + q * m.det).fdiv (2 * (q * m.det))) ((2 * V3.dot (V3.cross m.a m.b) t + q * m.det).fdiv (2 * (q * m.det)))) = k
    have r1 := round_rem (w := V3.dot (V3.cross m.b m.c) t) hp
    have r2 := round_rem (w := V3.dot (V3.cross m.c m.a) t) hp
    have r3 := round_rem (w := V3.dot (V3.cross m.a m.b) t) hp
    have kx : k.x = (2 * V3.dot (V3.cross m.b m.c) t + q * m.det).fdiv (2 * (q * m.det)) := by rw [← hk]
    have ky : k.y = (2 * V3.dot (V3.cross m.c m.a) t + q * m.det).fdiv (2 * (q * m.det)) := by rw [← hk]
    have kz : k.z = (2 * V3.dot (V3.cross m.a m.b) t + q * m.det).fdiv (2 * (q * m.det)) := by rw [← hk]
    rw [← kx] at r1
    rw [← ky] at r2
    rw [← kz] at r3
    have c := comb_le3 m ⟨V3.dot (V3.cross m.b m.c) t - q * m.det * k.x, V3.dot (V3.cross m.c m.a) t - q * m.det * k.y, V3.dot (V3.cross m.a m.b) t - q * m.det * k.z⟩
    rw [← left_comb3, nrm_smul3] at c
    have hA := hle (l3 m.a) (by simp [b3])
    have hB := hle (l3 m.b) (by simp [b3])
    have hC := hle (l3 m.c) (by simp [b3])
    rw [dotL3] at hA hB hC
    have p1 := part_le r1 (V3.nrm_nonneg m.a) hA
    have p2 := part_le r2 (V3.nrm_nonneg m.b) hB
    have p3 := part_le r3 (V3.nrm_nonneg m.c) hC
    refine far_le hdet c ?_
    simp only at *
    omega
theorem fdiv_le {w p : Int} (hp : p ≠ 0) {W : Int} (hw : -W ≤ w ∧ w ≤ W) : -(W + 1) ≤ w.fdiv p ∧ w.fdiv p ≤ W + 1 := by
  have h := fdiv_rem w hp
  generalize w.fdiv p = k at *
  have hW : W * 1 ≤ W * p.natAbs := Int.mul_le_mul_of_nonneg_left (by omega) (by omega)
  refine abs_mul_le hp ?_ ?_
  · rw [Int.add_mul]; omega
  · rw [Int.add_mul]; omega
/-- what is asked of a place -/
structure PlOk (ps : List (List Int)) (told : List Int) (q : Int) : Prop where
  st : StOk ps
  len : told.length = ps.length
  tb : Bd 100 told
  q1 : 1 ≤ q
  q2 : q ≤ 10
theorem round_bd {ps : List (List Int)} {told : List Int} {q : Int} (ok : PlOk ps told q) : Bd 1000000 (roundL ps told q) := by
  have hd := ok.st.sh.dm
  have hB := ok.st.bd
  have dq := q_det ok.q1 ok.q2 (det_small hd hB)
  have q1 := ok.q1
  have hp : q * detL ps ≠ 0 := fun e => by rcases Int.mul_eq_zero.mp e with e | e; omega; exact ok.st.det e
  intro x hx
  obtain ⟨n, hn, rfl⟩ := List.mem_map.mp hx
  have hsm := nrm_small hd hB n hn
  have := dot_bd hsm.1 hsm.2 ok.tb
  have := fdiv_le (w := 2 * dotL n told + q * detL ps) (p := 2 * (q * detL ps)) (by omega) (W := 960000) (by omega)
  omega
section
variable {P : Program} {w : World} {K : PySem.W.Frag} {mg : Str → Option Value} {base : Heap}
def spPR (K : PySem.W.Frag) : Sp := fun vs H Q _ => ∃ (a b : Addr) (ps : List (List Int)) (told : List Int) (q : Int), vs = [.ref a, .ref b, .int q] ∧ Rows K H a ps ∧ SqL K H b (told.map V.int) ∧ PlOk ps told q ∧
  ∀ H' p, Same H H' → H p = none → H' p = some (.lst ((togL ps (roundL ps told q)).map V.int)) → Q (.ref p) H'
abbrev nPR : List Str := ["steps", "told", "q", "part", "times", "normal"]
theorem scPR : FnScope nPR ["steps", "told", "q"] (defScope sPR) :=
  ⟨rfl, rfl, rfl, by decide +kernel, rfl, by decide +kernel, by decide +kernel⟩
theorem ok_pr {f : Addr} {fd : FuncData} (F : Fun K "point_by_rounding" "point_by_rounding" sPR f fd) (De : Callee P w K mg base 3 "determinant" ["steps"] (spDet K)) (Do : Callee P w K mg base 1 "dot" ["one", "other"] (spDot K))
    (No : Callee P w K mg base 2 "normals" ["steps"] (spNormals K)) (G : Callee P w K mg base 1 "together" ["steps", "times"] (spTogether K)) : FnOk P w K mg base CX0 4 f fd ["steps", "told", "q"] (spPR K) := by
  refine F.ok scPR (fun vs H Q E h => ?_) (fun cdv A outer s H vs Q E hr h => ?_)
  · obtain ⟨a, b, ps, told, q, rfl, _⟩ := h
    rfl
  · refine ⟨_, pss_cons (ps_set (i := 3) scPR.nd rfl (.inr rfl) (pe_op op_mul (pv 2) (pe_def De hr rfl (pa_cons (pv 0) pa_nil))))
      (pss_cons (ps_setLc (i := 4) (own := [("normal", 5)]) (g := gName 5) (by rfl) scPR.nd rfl rfl (sw_true rfl rfl rfl (by decide +kernel))
        (pi_list (pe_def No (hr.mono (by decide)) rfl (pa_cons (pv 0) pa_nil)))
        (blkOk_by (N := nPR) (sc := defScope sPR) (by decide +kernel))
        (fun _ _ _ _ _ => by exact pg_name (i := 5) scPR.nd rfl (.inl rfl)) (fun _ _ _ _ _ => pts_nil)
        (fun _ _ _ _ _ => by exact pe_op op_fdivN (pe_op op_add (pe_op op_mul pe_int (pe_def Do (hr.mono (by decide)) rfl (pa_cons (pv 5) (pa_cons (pv 1) pa_nil)))) (pv 3)) (pe_op op_mul pe_int (pv 3))))
      (pss_one (ps_ret (pe_def G (hr.mono (by decide)) rfl (pa_cons (pv 0) (pa_cons (pv 4) pa_nil)))))), ?_⟩
    obtain ⟨a, b, ps, told, q, rfl, hR, hb, ok, k⟩ := h
    have hd := ok.st.sh.dm
    have hB := ok.st.bd
    have hBl : BdP lim ps := fun p hp => Bd.mono (by decide) (hB p hp)
    obtain ⟨n1, n2, n3, n4⟩ := nrm_shape hd
    have hne : ps ≠ [] := fun z => by rw [z] at n4; simp at n4
    have dq := q_det ok.q1 ok.q2 (det_small hd hB)
    have q1 := ok.q1
    have q2 := ok.q2
    have hp0 : q * detL ps ≠ 0 := fun e => by rcases Int.mul_eq_zero.mp e with e | e; omega; exact ok.st.det e
    refine ⟨_, rfl, _, rfl, a, ps, rfl, hR, hd, hBl, fun H1 r1 => ⟨_, _, rfl, rfl, .inl (by omega), ?_⟩⟩
    refine ⟨_, rfl, a, ps, rfl, Rows.keep keep_same r1 hR, hd, hBl, fun H2 pn r2 hpn hnR => ?_⟩
    have s2 := keep_same.trans r1 r2
    obtain ⟨ns, hns, hnl, hnp⟩ := hnR
    refine ⟨pn, rfl, ⟨_, hns⟩, lc_ints keep_same (walk_list (xs := ns.map V.ref)) (roundL ps told q) (by simp [roundL, hnl]) (fun H' r => r.seq hns) (by rw [sizeLine_eq]; simp; omega) ?_ ?_⟩
    · rintro i x z H0 H' Qf hz r ⟨rfl, hx⟩ qf
      obtain ⟨n, hn, rfl⟩ := map_get hz
      obtain ⟨ni, hni, rfl⟩ := map_get hx
      have hnm := List.mem_of_getElem? hn
      have hsm := nrm_small hd hB n hnm
      refine ⟨rfl, _, rfl, _, rfl, ni, b, n, told, rfl, r.seq (hnp i ni n hni hn), r.seq (s2.seq hb), by rw [n2 n hnm, ok.len], by omega, big_of _ (by decide) hsm.2, fun H4 r4 => ?_⟩
      exact ⟨_, _, rfl, rfl, .inl (by omega), _, rfl, _, _, rfl, rfl, _, rfl, _, _, rfl, rfl, .inl (by omega), _, _, rfl, rfl, ⟨by omega, by omega⟩, qf H4 r4⟩
    · intro D H3 r3 hD e3
      have s3 := keep_same.trans s2 r3
      refine ⟨_, rfl, _, rfl, a, D, ps, roundL ps told q, ps.length, rfl, Rows.keep keep_same s3 hR, SqL.of e3, hne, by simp [roundL, n1], by omega, by omega, n3, Bd.mono (by decide) (round_bd ok), fun H4 p4 r4 hp4 e4 => ?_⟩
      exact k H4 p4 (keep_same.trans s3 r4) (keep_same.free s3 hp4) e4
end
end Np
end
section
set_option maxRecDepth 100000
set_option maxHeartbeats 2000000
namespace Np
open PySem PySem.Spec PyProof.Rows L2 LamX NdefX
/-! ### nearest_points -/
abbrev sNP : Stmt := top 28
def Nst (ps : List (List Int)) (told : List Int) (q : Int) (v : List Int) : Prop := Led ps v ∧ ∀ u, Led ps u → farL told q v ≤ farL told q u
structure NearP (ps : List (List Int)) (told : List Int) (q : Int) (vs : List (List Int)) : Prop where
  told : Told (Nst ps told q) vs
  cnt : vs.length ≤ 1000000
  ne : vs ≠ []
theorem nearP_of {ps : List (List Int)} {told : List Int} {q L least : Int} (hd : Dm ps) (h0 : detL ps ≠ 0) {ts : List (List Int)} (nt : NearT ps told q L ts) {rd : List Int} (hrl : rd.length = ps.length) (hrL : farL told q (togL ps rd) = L)
    (hm : least ∈ (ts.map (togL ps)).map (farL told q)) (hle : ∀ y ∈ (ts.map (togL ps)).map (farL told q), least ≤ y) :
    NearP ps told q (((ts.map (togL ps)).filter fun u => decide (V.int (farL told q u) = V.int least)).mergeSort (PySem.W.dataLe false fun y => listD (orderL y))) := by
  obtain ⟨n1, n2, n3, n4⟩ := nrm_shape hd
  have hne : ps ≠ [] := fun z => by rw [z] at n4; simp at n4
  have hin : ∀ t, t ∈ ts → togL ps t ∈ ts.map (togL ps) := fun t ht => List.mem_map.mpr ⟨t, ht, rfl⟩
  have hfar : ∀ u ∈ ts.map (togL ps), least ≤ farL told q u := fun u hu => hle _ (List.mem_map.mpr ⟨u, hu, rfl⟩)
  have hrd : rd ∈ ts := (nt.mem rd).mpr ⟨hrl, by rw [hrL]; exact Int.le_refl _⟩
  have hlL : least ≤ L := by rw [← hrL]; exact hfar _ (hin rd hrd)
  have hall : ∀ u, Led ps u → least ≤ farL told q u := fun u ⟨t, ht, e⟩ => by
    rcases Int.lt_or_le L (farL told q u) with g | g
    · omega
    · rw [e] at g ⊢
      exact hfar _ (hin t ((nt.mem t).mpr ⟨ht, g⟩))
  obtain ⟨b0, hb0, eb0⟩ := List.mem_map.mp hm
  have led : ∀ u ∈ ts.map (togL ps), Led ps u := fun u hu => by
    obtain ⟨t, ht, rfl⟩ := List.mem_map.mp hu
    exact ⟨t, nt.len t ht, rfl⟩
  have dec : ∀ u, decide (V.int (farL told q u) = V.int least) = true ↔ farL told q u = least := fun u => by
    rw [decide_eq_true_eq]
    constructor
    · intro h; injection h
    · intro h; rw [h]
  have nd : (ts.map (togL ps)).Nodup := nodup_map_on (fun a ha b hb e => tog_inj hd h0 (nt.len a ha) (nt.len b hb) e) nt.nd
  have T := sorted_told (Pr := Nst ps told q) (n := ps.length) (fun y : List Int => y) (bs := (ts.map (togL ps)).filter fun u => decide (V.int (farL told q u) = V.int least)) (List.Nodup.sublist (List.filter_sublist) nd) (fun a _ b _ e => e)
    (fun b hb => by
      obtain ⟨t, ht, rfl⟩ := List.mem_map.mp (List.mem_filter.mp hb).1
      exact tog_len n3 hne) (fun v => by
      constructor
      · rintro ⟨b, hb, rfl⟩
        have hb' := List.mem_filter.mp hb
        refine ⟨led b hb'.1, fun u hu => ?_⟩
        rw [(dec b).mp hb'.2]; exact hall u hu
      · rintro ⟨⟨t, ht, rfl⟩, hv⟩
        have h1 : farL told q (togL ps t) ≤ L := by
          have := hv (togL ps rd) ⟨rd, hrl, rfl⟩
          omega
        have h2 := hin t ((nt.mem t).mpr ⟨ht, h1⟩)
        refine ⟨togL ps t, List.mem_filter.mpr ⟨h2, (dec _).mpr ?_⟩, rfl⟩
        have h3 := hv b0 (led b0 hb0)
        have h4 := hfar _ h2
        omega)
  rw [List.map_id'] at T
  have pm := List.mergeSort_perm ((ts.map (togL ps)).filter fun u => decide (V.int (farL told q u) = V.int least)) (PySem.W.dataLe false fun y => listD (orderL y))
  refine ⟨T, ?_, fun e => ?_⟩
  · rw [pm.length_eq]
    refine Nat.le_trans (List.length_filter_le _ _) ?_
    rw [List.length_map]; exact nt.cnt
  · have : b0 ∈ ((ts.map (togL ps)).filter fun u => decide (V.int (farL told q u) = V.int least)).mergeSort (PySem.W.dataLe false fun y => listD (orderL y)) := pm.mem_iff.mpr (List.mem_filter.mpr ⟨hb0, (dec _).mpr eb0⟩)
    rw [e] at this; cases this
def spNP (K : PySem.W.Frag) : Sp := fun vs H Q _ => ∃ (a b : Addr) (ps : List (List Int)) (told : List Int) (q : Int), vs = [.ref a, .ref b, .int q] ∧ Rows K H a ps ∧ SqL K H b (told.map V.int) ∧ PlOk ps told q ∧
  ∀ H' p us, Same H H' → H p = none → RowsH H' p us → NearP ps told q us → Q (.ref p) H'
section
variable {P : Program} {w : World} {K : PySem.W.Frag} {mg : Str → Option Value} {base : Heap}
abbrev nNP : List Str := ["steps", "told", "q", "limit", "points", "least", "times", "point"]
theorem scNP : FnScope nNP ["steps", "told", "q"] (defScope sNP) :=
  ⟨rfl, rfl, rfl, by decide +kernel, rfl, by decide +kernel, by decide +kernel⟩
theorem ok_np {f : Addr} {fd : FuncData} (F : Fun K "nearest_points" "nearest_points" sNP f fd) (Le : Callee P w K mg base 2 "length" ["point"] (spLength K)) (Lo : Callee P w K mg base 1 "left_over" ["told", "q", "point"] (spLeft K))
    (Pr : Callee P w K mg base 4 "point_by_rounding" ["steps", "told", "q"] (spPR K)) (Tn : Callee P w K mg base 4 "times_near" ["steps", "told", "q", "limit"] (spTN K)) (G : Callee P w K mg base 1 "together" ["steps", "times"] (spTogether K))
    (O : Callee P w K mg base 3 "order" ["point"] (spOrder K)) (mm : mg "min" = none) (ms : mg "sorted" = none) : FnOk P w K mg base CX0 6 f fd ["steps", "told", "q"] (spNP K) := by
  obtain ⟨fo, fdo, Go, mo, kpo, bo⟩ := O.ex
  refine F.ok scNP (fun vs H Q E h => ?_) (fun cdv A outer s H vs Q E hr h => ?_)
  · obtain ⟨a, b, ps, told, q, rfl, _⟩ := h
    rfl
  · refine ⟨_, pss_cons (ps_set (i := 3) scNP.nd rfl (.inl rfl) (pe_def Le (hr.mono (by decide)) rfl (pa_cons (pe_def Lo (hr.mono (by decide)) rfl (pa_cons (pv 1) (pa_cons (pv 2) (pa_cons (pe_def Pr (hr.mono (by decide)) rfl (pa_cons (pv 0) (pa_cons (pv 1) (pa_cons (pv 2) pa_nil)))) pa_nil)))) pa_nil)))
      (pss_cons (ps_setLc (i := 4) (own := [("times", 6)]) (g := gName 6) (by rfl) scNP.nd rfl rfl (sw_true rfl rfl rfl (by decide +kernel))
        (pi_list (pe_def Tn (hr.mono (by decide)) rfl (pa_cons (pv 0) (pa_cons (pv 1) (pa_cons (pv 2) (pa_cons (pv 3) pa_nil))))))
        (blkOk_by (N := nNP) (sc := defScope sNP) (by decide +kernel))
        (fun _ _ _ _ _ => by exact pg_name (i := 6) scNP.nd rfl (.inl rfl)) (fun _ _ _ _ _ => pts_nil)
        (fun _ _ _ _ _ => by exact pe_def G (hr.mono (by decide)) rfl (pa_cons (pv 0) (pa_cons (pv 6) pa_nil))))
      (pss_cons (ps_set (i := 5) scNP.nd rfl (.inr rfl) (pe_callB (cr_min rfl) (by rfl) mm (by decide +kernel) (pa_cons (pe_lc (own := [("point", 7)]) (g := gName 7) rfl scNP.nd (pi_list (pv 4))
          (blkOk_by (N := nNP) (sc := defScope sNP) (by decide +kernel))
          (fun _ _ _ _ _ => by exact pg_name (i := 7) scNP.nd rfl (.inl rfl)) (fun _ _ _ _ _ => pts_nil)
          (fun _ _ _ _ _ => by exact pe_def Le (hr.mono (by decide)) rfl (pa_cons (pe_def Lo (hr.mono (by decide)) rfl (pa_cons (pv 1) (pa_cons (pv 2) (pa_cons (pv 7) pa_nil)))) pa_nil))) pa_nil)))
      (pss_one (ps_ret (pe_sortD Go mo bo hr rfl (by rfl) ms (pa_cons (pe_lc (own := [("point", 7)]) (g := gName 7) rfl scNP.nd (pi_list (pv 4))
          (blkOk_by (N := nNP) (sc := defScope sNP) (by decide +kernel))
          (fun _ _ _ _ _ => by exact pg_name (i := 7) scNP.nd rfl (.inl rfl))
          (fun _ _ _ _ _ => by exact pts_one (pt_cmpR op_eq (pe_def Le (hr.mono (by decide)) rfl (pa_cons (pe_def Lo (hr.mono (by decide)) rfl (pa_cons (pv 1) (pa_cons (pv 2) (pa_cons (pv 7) pa_nil)))) pa_nil)) (pv 5) (nomark _)))
          (fun _ _ _ _ _ => by exact pv 7)) pa_nil)))))), ?_⟩
    obtain ⟨a, b, ps, told, q, rfl, hR, hb, ok, k⟩ := h
    have hd := ok.st.sh.dm
    have hB := ok.st.bd
    obtain ⟨n1, n2, n3, n4⟩ := nrm_shape hd
    have hne : ps ≠ [] := fun z => by rw [z] at n4; simp at n4
    have q1 := ok.q1
    have q2 := ok.q2
    have hlen := ok.len
    have qb : -big ≤ q ∧ q ≤ big := by unfold big; omega
    have rl : (roundL ps told q).length = ps.length := by simp [roundL, n1]
    have lft : ∀ v : List Int, Bd 60000000 v → (leftL told q v).length ≤ 1000 ∧ Bd big (leftL told q v) := fun v hv => by
      have ll := left_len (xs := told) (ys := v) (q := q)
      refine ⟨by omega, Bd.mono (by decide) (left_bd (q := q) (by decide) ok.tb (by omega) hv)⟩
    have rb := tog_bd (M := 1000000) (by decide) (by decide) hB (round_bd ok) (by omega)
    have rbl := lft _ rb
    refine ⟨_, rfl, _, rfl, _, rfl, _, rfl, _, rfl, a, b, ps, told, q, rfl, hR, hb, ok, fun H1 p1 r1 hp1 e1 => ?_⟩
    refine ⟨b, p1, told, _, q, rfl, r1.seq hb, SqL.of e1, by omega, qb, fun H2 p2 r2 hp2 e2 => ?_⟩
    refine ⟨p2, _, rfl, SqL.of e2, rbl.1, rbl.2, fun H3 r3 => ?_⟩
    have s3 := keep_same.trans r1 (keep_same.trans r2 r3)
    generalize hL : dotL (leftL told q (togL ps (roundL ps told q))) (leftL told q (togL ps (roundL ps told q))) = L
    have hL' : farL told q (togL ps (roundL ps told q)) = L := hL
    have hL0 : 0 ≤ L := by rw [← hL]; exact (dotL_nonneg _).1
    have hL1 : L ≤ 576 * (q * q) := by rw [← hL']; exact round_far ok.st ok.len q1
    have tn : TnOk ps told q L := ⟨ok.st.sh, ok.st.det, hB, ok.len, ok.tb, q1, q2, hL0, hL1⟩
    refine ⟨_, rfl, _, rfl, _, rfl, _, rfl, a, b, ps, told, q, L, rfl, Rows.keep keep_same s3 hR, s3.seq hb, tn, fun H4 p4 ts r4 hp4 hR4 nt => ?_⟩
    have s4 := keep_same.trans s3 r4
    obtain ⟨bs, hbs, hbl, hbp⟩ := id hR4
    have ncnt := nt.cnt
    refine ⟨p4, rfl, ⟨_, SqL.of hbs⟩, lc_rows keep_same (walk_list (xs := bs.map V.ref)) (ts.map (togL ps)) (by simp [hbl]) (fun H' r => SqL.of (r _ _ hbs)) (by rw [sizeLine_eq]; simp; omega) ?_ ?_⟩
    · rintro i x z H0 H' Qf hz r ⟨rfl, hx⟩ qf
      obtain ⟨t, ht, rfl⟩ := map_get hz
      obtain ⟨bi, hbi, rfl⟩ := map_get hx
      have tm := List.mem_of_getElem? ht
      exact ⟨rfl, _, rfl, _, rfl, a, bi, ps, t, ps.length, rfl, Rows.keep keep_same r (Rows.keep keep_same s4 hR), SqL.of (r _ _ (hbp i bi t hbi ht)), hne, (nt.len t tm).symm, by omega, by omega, n3, Bd.mono (by decide) (nt.bd t tm), fun H5 p5 r5 hp5 e5 => qf p5 H5 r5 hp5 e5⟩
    · intro D5 H5 r5 hD5 hR5
      have s5 := keep_same.trans s4 r5
      obtain ⟨cs, hcs, hcl, hcp⟩ := id hR5
      have pin : ∀ u ∈ ts.map (togL ps), u.length = ps.length ∧ Bd 60000000 u := fun u hu => by
        obtain ⟨t, ht, rfl⟩ := List.mem_map.mp hu
        exact ⟨tog_len n3 hne, tog_bd (M := 300000) (by decide) (by decide) hB (nt.bd t ht) (by omega)⟩
      refine ⟨_, rfl, D5, rfl, ⟨_, SqL.of hcs⟩, lc_ints keep_same (walk_list (xs := cs.map V.ref)) ((ts.map (togL ps)).map (farL told q)) (by simp only [List.length_map] at hcl ⊢; exact hcl.symm) (fun H' r => SqL.of (r _ _ hcs)) (by rw [sizeLine_eq]; simp at hcl ⊢; omega) ?_ ?_⟩
      · rintro i x z H0 H' Qf hz r ⟨rfl, hx⟩ qf
        obtain ⟨u, hu, rfl⟩ := map_get hz
        obtain ⟨bi, hbi, rfl⟩ := map_get hx
        have uin := pin u (List.mem_of_getElem? hu)
        have ul := lft u uin.2
        refine ⟨rfl, _, rfl, _, rfl, _, rfl, b, bi, told, u, q, rfl, r.seq (s5.seq hb), SqL.of (r _ _ (hcp i bi u hbi hu)), by omega, qb, fun H6 p6 r6 hp6 e6 => ?_⟩
        exact ⟨p6, _, rfl, SqL.of e6, ul.1, ul.2, fun H7 r7 => qf H7 (keep_same.trans r6 r7)⟩
      · intro D6 H6 r6 hD6 e6
        have s6 := keep_same.trans s5 r6
        have rdin : roundL ps told q ∈ ts := (nt.mem _).mpr ⟨rl, by rw [hL']; exact Int.le_refl _⟩
        refine ⟨D6, _, rfl, SqL.of e6, ?_, fun least hm hle => ?_⟩
        · have : 0 < ts.length := by
            cases e : ts with
            | nil => rw [e] at rdin; cases rdin
            | cons _ _ => simp
          simpa using this
        · have npr := nearP_of hd ok.st.det nt rl hL' hm hle
          refine ⟨_, rfl, D5, rfl, ⟨_, SqL.of (r6 _ _ hcs)⟩, lc_filt keep_same (fun u => decide (V.int (farL told q u) = V.int least)) (SqL.of (r6 _ _ hcs)) hcl (fun i b p e1 e2 => r6 _ _ (hcp i b p e1 e2)) (by rw [sizeLine_eq]; simp; omega) ?_ ?_⟩
          · intro i bi u H0 Qe Qn hbi hui r qe qn
            have uin := pin u (List.mem_of_getElem? hui)
            have ul := lft u uin.2
            refine ⟨rfl, _, rfl, _, rfl, _, rfl, b, bi, told, u, q, rfl, r.seq (s6.seq hb), SqL.of (r _ _ (r6 _ _ (hcp i bi u hbi hui))), by omega, qb, fun H7 p7 r7 hp7 e7 => ?_⟩
            refine ⟨p7, _, rfl, SqL.of e7, ul.1, ul.2, fun H8 r8 => ?_⟩
            refine ⟨_, rfl, rfl, _, rfl, ?_⟩
            refine bIf (fun hh => ?_) (fun hh => ?_)
            · exact ⟨_, rfl, qe H8 (keep_same.trans r7 r8) hh⟩
            · exact qn H8 (keep_same.trans r7 r8) hh
          · intro D7 H7 r7 hD7 hR7
            have s7 := keep_same.trans s6 r7
            obtain ⟨ds, hds, hdl, hdp⟩ := hR7
            have fin : ∀ u ∈ ((ts.map (togL ps)).filter fun u => decide (V.int (farL told q u) = V.int least)), u.length = ps.length ∧ Bd 60000000 u := fun u hu => pin u (List.mem_filter.mp hu).1
            refine ⟨rfl, D7, ds.map V.ref, (ts.map (togL ps)).filter fun u => decide (V.int (farL told q u) = V.int least), orderL, ps.length + 1, fun x y => ∃ b, x = .ref b ∧ H7 b = some (.lst (y.map V.int)) ∧ b ≠ D7, rfl, SqL.of hds, ?_, ?_, ?_, ?_⟩
            · refine each_of_get (by rw [List.length_map]; exact hdl) (fun j x y e1 e2 => ?_)
              obtain ⟨b, hb, rfl⟩ := map_get e1
              have h1 := hdp j b y hb e2
              refine ⟨b, rfl, h1, num_ne_rows h1 hds (fun z => ?_)⟩
              rw [z] at hb; simp at hb
            · intro y hy
              unfold orderL
              rw [List.length_cons, List.length_map, (fin y hy).1]
            · intro j x y H9 Q' e1 e2 r9 qf
              obtain ⟨b, hb, rfl⟩ := map_get e1
              have yin := fin y (List.mem_of_getElem? e2)
              exact ⟨b, y, rfl, SqL.of (r9 _ _ (hdp j b y hb e2)), by omega, Bd.mono (by decide) yin.2, fun H10 p10 r10 hp10 e10 => qf H10 p10 r10 hp10 e10⟩
            · intro H9 p zs r9 hp ez each
              obtain ⟨as, rfl, hal, hap⟩ := rows_of_each each
              exact k H9 p _ (keep_same.trans s7 r9) (keep_same.free s7 hp) ⟨as, ez, hal, fun j b y e1 e2 => r9 _ _ (hap j b y e1 e2).1⟩ npr
end
end Np
end
section
set_option maxRecDepth 100000
set_option maxHeartbeats 2000000
namespace Np
open PySem PySem.Spec PyProof.Rows L2 LamX NdefX
/-! ### the walls, class by class -/
def Bits (n : Nat) (t : List Int) : Prop := t.length = n ∧ ∀ x ∈ t, x = 0 ∨ x = 1
def WallIn (ps : List (List Int)) (t v : List Int) : Prop := Sq67.forward v = true ∧ ∃ us, Told (Nst ps (togL ps t) 2) us ∧ us.length = 2 ∧ v ∈ us.map (leftL (togL ps t) 2)
theorem farL3 (t : V3) (q : Int) (v : V3) : farL (l3 t) q (l3 v) = V3.nrm (df3 q t v) := by rw [farL, left3, dotL3]; rfl
theorem farL2 (t : V2) (q : Int) (v : V2) : farL (l2 t) q (l2 v) = V2.nrm (df2 q t v) := by rw [farL, left2, dotL2]; rfl
theorem nst3 (m : B3) (t : V3) (q : Nat) (v : List Int) : Nst (b3 m) (l3 t) q v ↔ S3 m v ∧ ∀ u, S3 m u → Sq67.far q (l3 t) v ≤ Sq67.far q (l3 t) u := by
  unfold Nst
  constructor
  · rintro ⟨h1, h2⟩
    refine ⟨(led3 m v).mp h1, fun u hu => ?_⟩
    have := h2 u ((led3 m u).mpr hu)
    obtain ⟨k, rfl⟩ := (led3 m v).mp h1
    obtain ⟨e, rfl⟩ := hu
    rw [farL3, farL3] at this
    rw [far3, far3]; exact this
  · rintro ⟨h1, h2⟩
    refine ⟨(led3 m v).mpr h1, fun u hu => ?_⟩
    have hu' := (led3 m u).mp hu
    have := h2 u hu'
    obtain ⟨k, rfl⟩ := h1
    obtain ⟨e, rfl⟩ := hu'
    rw [far3, far3] at this
    rw [farL3, farL3]; exact this
theorem nst2 (m : B2) (t : V2) (q : Nat) (v : List Int) : Nst (b2 m) (l2 t) q v ↔ S2 m v ∧ ∀ u, S2 m u → Sq67.far q (l2 t) v ≤ Sq67.far q (l2 t) u := by
  unfold Nst
  constructor
  · rintro ⟨h1, h2⟩
    refine ⟨(led2 m v).mp h1, fun u hu => ?_⟩
    have := h2 u ((led2 m u).mpr hu)
    obtain ⟨k, rfl⟩ := (led2 m v).mp h1
    obtain ⟨e, rfl⟩ := hu
    rw [farL2, farL2] at this
    rw [far2, far2]; exact this
  · rintro ⟨h1, h2⟩
    refine ⟨(led2 m v).mpr h1, fun u hu => ?_⟩
    have hu' := (led2 m u).mp hu
    have := h2 u hu'
    obtain ⟨k, rfl⟩ := h1
    obtain ⟨e, rfl⟩ := hu'
    rw [far2, far2] at this
    rw [farL2, farL2]; exact this
theorem df_sub3 (m : B3) (k e : V3) : df3 2 (m.pt k) (m.pt e) = m.pt (sub2of3 k e) := by
  apply V3.ext' <;> simp only [df3, V3.add, V3.smul, B3.pt, sub2of3] <;> grind
theorem df_sub2 (m : B2) (k e : V2) : df2 2 (m.pt k) (m.pt e) = m.pt (sub2of2 k e) := by
  apply V2.ext' <;> simp only [df2, V2.add, V2.smul, B2.pt, sub2of2] <;> grind
theorem nst_pt3 {m : B3} {k e : V3} : Nst (b3 m) (l3 (m.pt k)) 2 (l3 (m.pt e)) ↔ ∀ d, V3.nrm (m.pt (sub2of3 k e)) ≤ V3.nrm (m.pt (sub2of3 k d)) := by
  unfold Nst
  constructor
  · rintro ⟨_, h⟩ d
    have := h (l3 (m.pt d)) ((led3 m _).mpr ⟨d, rfl⟩)
    rw [farL3, farL3, df_sub3, df_sub3] at this; exact this
  · intro h
    refine ⟨(led3 m _).mpr ⟨e, rfl⟩, fun u hu => ?_⟩
    obtain ⟨d, rfl⟩ := (led3 m u).mp hu
    rw [farL3, farL3, df_sub3, df_sub3]; exact h d
theorem nst_pt2 {m : B2} {k e : V2} : Nst (b2 m) (l2 (m.pt k)) 2 (l2 (m.pt e)) ↔ ∀ d, V2.nrm (m.pt (sub2of2 k e)) ≤ V2.nrm (m.pt (sub2of2 k d)) := by
  unfold Nst
  constructor
  · rintro ⟨_, h⟩ d
    have := h (l2 (m.pt d)) ((led2 m _).mpr ⟨d, rfl⟩)
    rw [farL2, farL2, df_sub2, df_sub2] at this; exact this
  · intro h
    refine ⟨(led2 m _).mpr ⟨e, rfl⟩, fun u hu => ?_⟩
    obtain ⟨d, rfl⟩ := (led2 m u).mp hu
    rw [farL2, farL2, df_sub2, df_sub2]; exact h d
/-- lists told by who is in, two of them -/
theorem two_of {Pr : List Int → Prop} {us : List (List Int)} (h : Told Pr us) (h2 : us.length = 2) {a b c : List Int} (ha : Pr a) (hb : Pr b) (hab : a ≠ b) (hc : Pr c) : c = a ∨ c = b := by
  obtain ⟨x, y, rfl⟩ := get2 h2
  have ma := (h.2 a).mpr ha
  have mb := (h.2 b).mpr hb
  have mc := (h.2 c).mpr hc
  simp only [List.mem_cons, List.not_mem_nil, or_false] at ma mb mc
  rcases ma with rfl | rfl <;> rcases mb with rfl | rfl <;> rcases mc with rfl | rfl <;> simp_all
theorem told_nodup {Pr : List Int → Prop} {us : List (List Int)} (h : Told Pr us) : us.Nodup :=
  List.nodup_iff_pairwise_ne.mpr (h.1.imp (fun {a b} hab e => by
    rw [e] at hab
    have := before_irrefl b
    unfold Bef at hab
    rw [this] at hab; cases hab))
theorem len_two {Pr : List Int → Prop} {us : List (List Int)} (h : Told Pr us) {a b : List Int} (ha : Pr a) (hb : Pr b) (hab : a ≠ b) (hall : ∀ c, Pr c → c = a ∨ c = b) : us.length = 2 := by
  have nd := told_nodup h
  have ma := (h.2 a).mpr ha
  have mb := (h.2 b).mpr hb
  have hin : ∀ c ∈ us, c = a ∨ c = b := fun c hc => hall c ((h.2 c).mp hc)
  match us, nd, ma, mb, hin with
  | [], _, ma, _, _ => cases ma
  | [x], _, ma, mb, _ =>
    exact absurd ((List.mem_singleton.mp ma).trans (List.mem_singleton.mp mb).symm) hab
  | [x, y], _, _, _, _ => rfl
  | x :: y :: z :: l, nd, _, _, hin =>
    exfalso
    have hx := hin x (by simp)
    have hy := hin y (by simp)
    have hz := hin z (by simp)
    simp only [List.nodup_cons, List.mem_cons, not_or] at nd
    rcases hx with rfl | rfl <;> rcases hy with rfl | rfl <;> rcases hz with rfl | rfl <;> simp_all
theorem neg_ne3 {m : B3} (hm : m.det ≠ 0) {k : V3} (hf : Sq67.forward (l3 (m.pt k)) = true) : neg3 k ≠ k := fun e => by
  have h0 := fwd3_ne hf
  apply h0
  have h1 : k = V3.zero := by
    have a := congrArg V3.x e; have b := congrArg V3.y e; have c := congrArg V3.z e
    simp only [neg3, V3.smul] at a b c
    apply V3.ext' <;> simp only [V3.zero] <;> omega
  rw [h1]
  apply V3.ext' <;> simp [B3.pt, V3.zero]
theorem neg_ne2 {m : B2} (hm : m.det ≠ 0) {k : V2} (hf : Sq67.forward (l2 (m.pt k)) = true) : neg2 k ≠ k := fun e => by
  have h0 := fwd2_ne hf
  apply h0
  have h1 : k = V2.zero := by
    have a := congrArg V2.x e; have b := congrArg V2.y e
    simp only [neg2, V2.smul] at a b
    apply V2.ext' <;> simp only [V2.zero] <;> omega
  rw [h1]
  apply V2.ext' <;> simp [B2.pt, V2.zero]
def sb3 (k e : V3) : V3 := ⟨k.x - e.x, k.y - e.y, k.z - e.z⟩
def sb2 (k e : V2) : V2 := ⟨k.x - e.x, k.y - e.y⟩
theorem opp3 (k e : V3) : sub2of3 k (sb3 k e) = neg3 (sub2of3 k e) := by
  apply V3.ext' <;> simp only [sub2of3, sb3, neg3, V3.smul] <;> omega
theorem opp2 (k e : V2) : sub2of2 k (sb2 k e) = neg2 (sub2of2 k e) := by
  apply V2.ext' <;> simp only [sub2of2, sb2, neg2, V2.smul] <;> omega
theorem sub_inj3 {k e d : V3} (h : sub2of3 k e = sub2of3 k d) : e = d := by
  have a := congrArg V3.x h; have b := congrArg V3.y h; have c := congrArg V3.z h
  simp only [sub2of3] at a b c
  apply V3.ext' <;> omega
theorem sub_inj2 {k e d : V2} (h : sub2of2 k e = sub2of2 k d) : e = d := by
  have a := congrArg V2.x h; have b := congrArg V2.y h
  simp only [sub2of2] at a b
  apply V2.ext' <;> omega
theorem shift3 (k e d : V3) : sub2of3 (sub2of3 k e) (sb3 d e) = sub2of3 k d := by
  apply V3.ext' <;> simp only [sub2of3, sb3] <;> omega
theorem shift2 (k e d : V2) : sub2of2 (sub2of2 k e) (sb2 d e) = sub2of2 k d := by
  apply V2.ext' <;> simp only [sub2of2, sb2] <;> omega
theorem lone_iff3 {m : B3} (hm : m.det ≠ 0) (k : V3) : Lone (S3 m) (l3 (m.pt k)) ↔ ∀ e, sub2of3 k e = k ∨ sub2of3 k e = neg3 k ∨ V3.nrm (m.pt k) < V3.nrm (m.pt (sub2of3 k e)) := by
  have h1 := lone3_iff hm (P := fun _ => True) k
  rw [Lone.congr (T := fun v => ∃ e, True ∧ v = l3 (m.pt e)) (fun v => ⟨fun ⟨e, h⟩ => ⟨e, trivial, h⟩, fun ⟨e, _, h⟩ => ⟨e, h⟩⟩), h1]
  exact ⟨fun h e => h e trivial, fun h e _ => h e⟩
theorem lone_iff2 {m : B2} (hm : m.det ≠ 0) (k : V2) : Lone (S2 m) (l2 (m.pt k)) ↔ ∀ e, sub2of2 k e = k ∨ sub2of2 k e = neg2 k ∨ V2.nrm (m.pt k) < V2.nrm (m.pt (sub2of2 k e)) := by
  have h1 := lone2_iff hm (P := fun _ => True) k
  rw [Lone.congr (T := fun v => ∃ e, True ∧ v = l2 (m.pt e)) (fun v => ⟨fun ⟨e, h⟩ => ⟨e, trivial, h⟩, fun ⟨e, _, h⟩ => ⟨e, h⟩⟩), h1]
  exact ⟨fun h e => h e trivial, fun h e _ => h e⟩
theorem left_pt3 (m : B3) (k e : V3) : leftL (l3 (m.pt k)) 2 (l3 (m.pt e)) = l3 (m.pt (sub2of3 k e)) := by rw [left3, df_sub3]
theorem left_pt2 (m : B2) (k e : V2) : leftL (l2 (m.pt k)) 2 (l2 (m.pt e)) = l2 (m.pt (sub2of2 k e)) := by rw [left2, df_sub2]
/-- a wall of a class is just that of a told list -/
theorem wallIn3 {m : B3} (hm : m.det ≠ 0) (k : V3) (v : List Int) : WallIn (b3 m) (l3 k) v ↔ ∃ e, v = l3 (m.pt (sub2of3 k e)) ∧ Sq67.forward v = true ∧ Lone (S3 m) v := by
  unfold WallIn
  rw [tog3]
  constructor
  · rintro ⟨hf, us, ht, h2, hv⟩
    obtain ⟨u, hu, rfl⟩ := List.mem_map.mp hv
    have hn := (ht.2 u).mp hu
    obtain ⟨e, rfl⟩ := (led3 m u).mp hn.1
    rw [left_pt3] at hf ⊢
    refine ⟨e, rfl, hf, (lone_iff3 hm _).mpr fun d => ?_⟩
    have mn := nst_pt3.mp hn
    have nn := neg_ne3 hm hf
    have hopp : Nst (b3 m) (l3 (m.pt k)) 2 (l3 (m.pt (sb3 k e))) := nst_pt3.mpr fun x => by
      rw [opp3, nrm_neg3]; exact mn x
    have hne : l3 (m.pt e) ≠ l3 (m.pt (sb3 k e)) := fun h => by
      have := B3.pt_inj hm (l3_inj h)
      apply nn
      rw [← opp3, ← this]
    have es : sub2of3 (sub2of3 k e) d = sub2of3 k ⟨e.x + d.x, e.y + d.y, e.z + d.z⟩ := by
      apply V3.ext' <;> simp only [sub2of3] <;> omega
    rw [es]
    have ge := mn ⟨e.x + d.x, e.y + d.y, e.z + d.z⟩
    rcases Int.lt_or_le (V3.nrm (m.pt (sub2of3 k e))) (V3.nrm (m.pt (sub2of3 k ⟨e.x + d.x, e.y + d.y, e.z + d.z⟩))) with g | g
    · exact .inr (.inr g)
    · have hc : Nst (b3 m) (l3 (m.pt k)) 2 (l3 (m.pt ⟨e.x + d.x, e.y + d.y, e.z + d.z⟩)) := nst_pt3.mpr fun x => Int.le_trans g (mn x)
      rcases two_of ht h2 hn hopp hne hc with h | h
      · left; rw [B3.pt_inj hm (l3_inj h)]
      · right; left; rw [B3.pt_inj hm (l3_inj h), opp3]
  · rintro ⟨e, rfl, hf, hl⟩
    have lo := (lone_iff3 hm _).mp hl
    have nn := neg_ne3 hm hf
    have mn : ∀ d, V3.nrm (m.pt (sub2of3 k e)) ≤ V3.nrm (m.pt (sub2of3 k d)) := fun d => by
      have := lo (sb3 d e)
      rw [shift3] at this
      rcases this with h | h | h
      · rw [h]; exact Int.le_refl _
      · rw [h, nrm_neg3]; exact Int.le_refl _
      · omega
    have hn : Nst (b3 m) (l3 (m.pt k)) 2 (l3 (m.pt e)) := nst_pt3.mpr mn
    have hopp : Nst (b3 m) (l3 (m.pt k)) 2 (l3 (m.pt (sb3 k e))) := nst_pt3.mpr fun x => by
      rw [opp3, nrm_neg3]; exact mn x
    have hne : l3 (m.pt e) ≠ l3 (m.pt (sb3 k e)) := fun h => by
      have := B3.pt_inj hm (l3_inj h)
      apply nn
      rw [← opp3, ← this]
    have ht : Told (Nst (b3 m) (l3 (m.pt k)) 2) (Sq67.nearest (b3 m) 2 (l3 (m.pt k))) := (nearest3 hm (q := 2) (by decide) (m.pt k)).congr fun v => (nst3 m (m.pt k) 2 v).symm
    refine ⟨hf, _, ht, len_two ht hn hopp hne (fun c hc => ?_), List.mem_map.mpr ⟨l3 (m.pt e), (ht.2 _).mpr hn, left_pt3 m k e⟩⟩
    obtain ⟨d, rfl⟩ := (led3 m c).mp hc.1
    have hd := nst_pt3.mp hc e
    have := lo (sb3 d e)
    rw [shift3] at this
    rcases this with h | h | h
    · left; rw [sub_inj3 h]
    · right; rw [← opp3] at h; rw [sub_inj3 h]
    · omega
theorem wallIn2 {m : B2} (hm : m.det ≠ 0) (k : V2) (v : List Int) : WallIn (b2 m) (l2 k) v ↔ ∃ e, v = l2 (m.pt (sub2of2 k e)) ∧ Sq67.forward v = true ∧ Lone (S2 m) v := by
  unfold WallIn
  rw [tog2]
  constructor
  · rintro ⟨hf, us, ht, h2, hv⟩
    obtain ⟨u, hu, rfl⟩ := List.mem_map.mp hv
    have hn := (ht.2 u).mp hu
    obtain ⟨e, rfl⟩ := (led2 m u).mp hn.1
    rw [left_pt2] at hf ⊢
    refine ⟨e, rfl, hf, (lone_iff2 hm _).mpr fun d => ?_⟩
    have mn := nst_pt2.mp hn
    have nn := neg_ne2 hm hf
    have hopp : Nst (b2 m) (l2 (m.pt k)) 2 (l2 (m.pt (sb2 k e))) := nst_pt2.mpr fun x => by
      rw [opp2, nrm_neg2]; exact mn x
    have hne : l2 (m.pt e) ≠ l2 (m.pt (sb2 k e)) := fun h => by
      have := B2.pt_inj hm (l2_inj h)
      apply nn
      rw [← opp2, ← this]
    have es : sub2of2 (sub2of2 k e) d = sub2of2 k ⟨e.x + d.x, e.y + d.y⟩ := by
      apply V2.ext' <;> simp only [sub2of2] <;> omega
    rw [es]
    have ge := mn ⟨e.x + d.x, e.y + d.y⟩
    rcases Int.lt_or_le (V2.nrm (m.pt (sub2of2 k e))) (V2.nrm (m.pt (sub2of2 k ⟨e.x + d.x, e.y + d.y⟩))) with g | g
    · exact .inr (.inr g)
    · have hc : Nst (b2 m) (l2 (m.pt k)) 2 (l2 (m.pt ⟨e.x + d.x, e.y + d.y⟩)) := nst_pt2.mpr fun x => Int.le_trans g (mn x)
      rcases two_of ht h2 hn hopp hne hc with h | h
      · left; rw [B2.pt_inj hm (l2_inj h)]
      · right; left; rw [B2.pt_inj hm (l2_inj h), opp2]
  · rintro ⟨e, rfl, hf, hl⟩
    have lo := (lone_iff2 hm _).mp hl
    have nn := neg_ne2 hm hf
    have mn : ∀ d, V2.nrm (m.pt (sub2of2 k e)) ≤ V2.nrm (m.pt (sub2of2 k d)) := fun d => by
      have := lo (sb2 d e)
      rw [shift2] at this
      rcases this with h | h | h
      · rw [h]; exact Int.le_refl _
      · rw [h, nrm_neg2]; exact Int.le_refl _
      · omega
    have hn : Nst (b2 m) (l2 (m.pt k)) 2 (l2 (m.pt e)) := nst_pt2.mpr mn
    have hopp : Nst (b2 m) (l2 (m.pt k)) 2 (l2 (m.pt (sb2 k e))) := nst_pt2.mpr fun x => by
      rw [opp2, nrm_neg2]; exact mn x
    have hne : l2 (m.pt e) ≠ l2 (m.pt (sb2 k e)) := fun h => by
      have := B2.pt_inj hm (l2_inj h)
      apply nn
      rw [← opp2, ← this]
    have ht : Told (Nst (b2 m) (l2 (m.pt k)) 2) (Sq67.nearest (b2 m) 2 (l2 (m.pt k))) := (nearest2 hm (q := 2) (by decide) (m.pt k)).congr fun v => (nst2 m (m.pt k) 2 v).symm
    refine ⟨hf, _, ht, len_two ht hn hopp hne (fun c hc => ?_), List.mem_map.mpr ⟨l2 (m.pt e), (ht.2 _).mpr hn, left_pt2 m k e⟩⟩
    obtain ⟨d, rfl⟩ := (led2 m c).mp hc.1
    have hd := nst_pt2.mp hc e
    have := lo (sb2 d e)
    rw [shift2] at this
    rcases this with h | h | h
    · left; rw [sub_inj2 h]
    · right; rw [← opp2] at h; rw [sub_inj2 h]
    · omega
theorem parity (x : Int) : ∃ b e : Int, (b = 0 ∨ b = 1) ∧ b - 2 * e = x := ⟨x % 2, -(x / 2), by omega, by omega⟩
/-- all classes together -/
theorem wall_iff3 {m : B3} (hm : m.det ≠ 0) (v : List Int) : (∃ t, Bits 3 t ∧ WallIn (b3 m) t v) ↔ Wall3 m v := by
  constructor
  · rintro ⟨t, ⟨hl, _⟩, hw⟩
    obtain ⟨k, rfl⟩ := len3 hl
    obtain ⟨e, rfl, hf, hlo⟩ := (wallIn3 hm k v).mp hw
    exact ⟨⟨_, rfl⟩, hf, hlo⟩
  · rintro ⟨⟨c, rfl⟩, hf, hlo⟩
    obtain ⟨bx, ex, h1, h2⟩ := parity c.x
    obtain ⟨by_, ey, h3, h4⟩ := parity c.y
    obtain ⟨bz, ez, h5, h6⟩ := parity c.z
    refine ⟨l3 ⟨bx, by_, bz⟩, ⟨rfl, fun x hx => ?_⟩, (wallIn3 hm _ _).mpr ⟨⟨ex, ey, ez⟩, ?_, hf, hlo⟩⟩
    · simp only [l3, List.mem_cons, List.not_mem_nil, or_false] at hx
      rcases hx with rfl | rfl | rfl <;> assumption
    · congr 2
      apply V3.ext' <;> simp only [sub2of3] <;> omega
theorem wall_iff2 {m : B2} (hm : m.det ≠ 0) (v : List Int) : (∃ t, Bits 2 t ∧ WallIn (b2 m) t v) ↔ Wall2 m v := by
  constructor
  · rintro ⟨t, ⟨hl, _⟩, hw⟩
    obtain ⟨k, rfl⟩ := len2 hl
    obtain ⟨e, rfl, hf, hlo⟩ := (wallIn2 hm k v).mp hw
    exact ⟨⟨_, rfl⟩, hf, hlo⟩
  · rintro ⟨⟨c, rfl⟩, hf, hlo⟩
    obtain ⟨bx, ex, h1, h2⟩ := parity c.x
    obtain ⟨by_, ey, h3, h4⟩ := parity c.y
    refine ⟨l2 ⟨bx, by_⟩, ⟨rfl, fun x hx => ?_⟩, (wallIn2 hm _ _).mpr ⟨⟨ex, ey⟩, ?_, hf, hlo⟩⟩
    · simp only [l2, List.mem_cons, List.not_mem_nil, or_false] at hx
      rcases hx with rfl | rfl <;> assumption
    · congr 2
      apply V2.ext' <;> simp only [sub2of2] <;> omega
/-- no wall is of two classes -/
theorem wall_class {ps : List (List Int)} (hd : Dm ps) (h0 : detL ps ≠ 0) {s t v : List Int} (hs : Bits ps.length s) (ht : Bits ps.length t) (h1 : WallIn ps s v) (h2 : WallIn ps t v) : s = t := by
  rcases hd with ⟨m, rfl⟩ | ⟨m, rfl⟩
  · rw [detL2] at h0
    obtain ⟨k, rfl⟩ := len2 (v := s) hs.1
    obtain ⟨l, rfl⟩ := len2 (v := t) ht.1
    obtain ⟨e, e1, _⟩ := (wallIn2 h0 k v).mp h1
    obtain ⟨d, e2, _⟩ := (wallIn2 h0 l v).mp h2
    have := B2.pt_inj h0 (l2_inj (e1.symm.trans e2))
    have a := congrArg V2.x this; have b := congrArg V2.y this
    simp only [sub2of2] at a b
    have k1 := hs.2 k.x (by simp [l2]); have k2 := hs.2 k.y (by simp [l2])
    have l1 := ht.2 l.x (by simp [l2]); have l2' := ht.2 l.y (by simp [l2])
    congr 1
    apply V2.ext' <;> omega
  · rw [detL3] at h0
    obtain ⟨k, rfl⟩ := len3 (v := s) hs.1
    obtain ⟨l, rfl⟩ := len3 (v := t) ht.1
    obtain ⟨e, e1, _⟩ := (wallIn3 h0 k v).mp h1
    obtain ⟨d, e2, _⟩ := (wallIn3 h0 l v).mp h2
    have := B3.pt_inj h0 (l3_inj (e1.symm.trans e2))
    have a := congrArg V3.x this; have b := congrArg V3.y this; have c := congrArg V3.z this
    simp only [sub2of3] at a b c
    have k1 := hs.2 k.x (by simp [l3]); have k2 := hs.2 k.y (by simp [l3]); have k3 := hs.2 k.z (by simp [l3])
    have l1 := ht.2 l.x (by simp [l3]); have l2' := ht.2 l.y (by simp [l3]); have l3' := ht.2 l.z (by simp [l3])
    congr 1
    apply V3.ext' <;> omega
end Np
end
section
set_option maxRecDepth 100000
set_option maxHeartbeats 2000000
namespace Np
open PySem PySem.Spec PyProof.Rows L2 LamX NdefX
/-! ### shortest_beside, wall_points -/
abbrev sSB : Stmt := top 29
abbrev sWP : Stmt := top 30
def spSB (K : PySem.W.Frag) : Sp := fun vs H Q _ => ∃ (a b : Addr) (ps : List (List Int)) (st : List Int), vs = [.ref a, .ref b] ∧ Rows K H a ps ∧ SqL K H b (st.map V.int) ∧ PlOk ps st 2 ∧
  ∀ H' p us, Same H H' → H p = none → RowsH H' p (us.map (leftL st 2)) → NearP ps st 2 us → Q (.ref p) H'
theorem start_bd {ps : List (List Int)} {t : List Int} (hB : BdP 20 ps) (hl : ps.length ≤ 3) (ht : ∀ x ∈ t, x = 0 ∨ x = 1) : Bd 100 (togL ps t) := by
  have h0 : Bd 0 (List.replicate (ps.headD []).length 0) := fun x hx => by
    have := (List.mem_replicate.mp hx).2
    omega
  have := fold_bd (N := 1) (B := 20) (by decide) (ps.zip t) 0 _ h0 (fun q hq => ⟨hB _ (List.of_mem_zip hq).1, by have := ht _ (List.of_mem_zip hq).2; omega⟩)
  refine Bd.mono ?_ this
  have : (ps.zip t).length ≤ 3 := by rw [List.length_zip]; omega
  have : ((ps.zip t).length : Int) * (1 * 20) ≤ 3 * (1 * 20) := Int.mul_le_mul_of_nonneg_right (by omega) (by omega)
  omega
section
variable {P : Program} {w : World} {K : PySem.W.Frag} {mg : Str → Option Value} {base : Heap}
abbrev nSB : List Str := ["steps", "start", "point"]
theorem scSB : FnScope nSB ["steps", "start"] (defScope sSB) :=
  ⟨rfl, rfl, rfl, by decide +kernel, rfl, by decide +kernel, by decide +kernel⟩
theorem near_len {ps : List (List Int)} {told : List Int} {q : Int} {us : List (List Int)} (hd : Dm ps) (np : NearP ps told q us) : ∀ u ∈ us, u.length = ps.length := fun u hu => by
  obtain ⟨n1, n2, n3, n4⟩ := nrm_shape hd
  have hne : ps ≠ [] := fun z => by rw [z] at n4; simp at n4
  obtain ⟨t, _, rfl⟩ := ((np.told.2 u).mp hu).1
  exact tog_len n3 hne
theorem ok_sb {f : Addr} {fd : FuncData} (F : Fun K "shortest_beside" "shortest_beside" sSB f fd) (Np' : Callee P w K mg base 6 "nearest_points" ["steps", "told", "q"] (spNP K)) (Lo : Callee P w K mg base 1 "left_over" ["told", "q", "point"] (spLeft K)) :
    FnOk P w K mg base CX0 7 f fd ["steps", "start"] (spSB K) := by
  refine F.ok scSB (fun vs H Q E h => ?_) (fun cdv A outer s H vs Q E hr h => ?_)
  · obtain ⟨a, b, ps, st, rfl, _⟩ := h
    rfl
  · refine ⟨_, pss_one (ps_ret (pe_lc (own := [("point", 2)]) (g := gName 2) rfl scSB.nd (pi_list (pe_def Np' hr rfl (pa_cons (pv 0) (pa_cons (pv 1) (pa_cons pe_int pa_nil)))))
          (blkOk_by (N := nSB) (sc := defScope sSB) (by decide +kernel))
          (fun _ _ _ _ _ => by exact pg_name (i := 2) scSB.nd rfl (.inl rfl)) (fun _ _ _ _ _ => pts_nil)
          (fun _ _ _ _ _ => by exact pe_def Lo (hr.mono (by decide)) rfl (pa_cons (pv 1) (pa_cons pe_int (pa_cons (pv 2) pa_nil)))))), ?_⟩
    obtain ⟨a, b, ps, st, rfl, hR, hb, ok, k⟩ := h
    refine ⟨_, rfl, _, rfl, a, b, ps, st, 2, rfl, hR, hb, ok, fun H1 p1 us r1 hp1 hR1 np => ?_⟩
    obtain ⟨bs, hbs, hbl, hbp⟩ := id hR1
    have cnt := np.cnt
    have n4 := (dm_len ok.st.sh.dm).2
    have hlen := ok.len
    refine ⟨p1, rfl, ⟨_, SqL.of hbs⟩, lc_rows keep_same (walk_list (xs := bs.map V.ref)) (us.map (leftL st 2)) (by simp [hbl]) (fun H' r => SqL.of (r _ _ hbs)) (by rw [sizeLine_eq]; simp; omega) ?_ ?_⟩
    · rintro i x z H0 H' Qf hz r ⟨rfl, hx⟩ qf
      obtain ⟨u, hu, rfl⟩ := map_get hz
      obtain ⟨bi, hbi, rfl⟩ := map_get hx
      exact ⟨rfl, _, rfl, _, rfl, b, bi, st, u, 2, rfl, r.seq (r1.seq hb), SqL.of (r _ _ (hbp i bi u hbi hu)), by omega, by unfold big; omega, fun H5 p5 r5 hp5 e5 => qf p5 H5 r5 hp5 e5⟩
    · intro D2 H2 r2 hD2 hR2
      exact k H2 D2 us (keep_same.trans r1 r2) (keep_same.free r1 hD2) hR2 np
def WallsP (ps us : List (List Int)) : Prop := Told (fun v => ∃ t, Bits ps.length t ∧ WallIn ps t v) us ∧ us.length ≤ 1000
def spWP (K : PySem.W.Frag) : Sp := fun vs H Q _ => ∃ (a : Addr) (ps : List (List Int)), vs = [.ref a] ∧ Rows K H a ps ∧ StOk ps ∧
  ∀ H' p us, Same H H' → H p = none → RowsH H' p us → WallsP ps us → Q (.ref p) H'
abbrev nWP : List Str := ["steps", "found", "times", "shortest", "step", "point"]
theorem scWP : FnScope nWP ["steps"] (defScope sWP) :=
  ⟨rfl, rfl, rfl, by decide +kernel, rfl, by decide +kernel, by decide +kernel⟩
theorem bits_mem {n : Nat} (hn : n = 2 ∨ n = 3) (t : List Int) : t ∈ boxL (List.replicate n [0, 1]) ↔ Bits n t := by
  unfold Bits
  rcases hn with rfl | rfl
  · show t ∈ boxL [[0, 1], [0, 1]] ↔ _
    rw [mem_box2]
    constructor
    · rintro ⟨x, hx, y, hy, rfl⟩
      refine ⟨rfl, fun z hz => ?_⟩
      simp only [List.mem_cons, List.not_mem_nil, or_false] at hx hy hz
      rcases hz with rfl | rfl <;> assumption
    · rintro ⟨hl, hs⟩
      obtain ⟨k, rfl⟩ := len2 hl
      exact ⟨k.x, by have := hs k.x (by simp [l2]); simpa using this, k.y, by have := hs k.y (by simp [l2]); simpa using this, rfl⟩
  · show t ∈ boxL [[0, 1], [0, 1], [0, 1]] ↔ _
    rw [mem_box3]
    constructor
    · rintro ⟨x, hx, y, hy, u, hu, rfl⟩
      refine ⟨rfl, fun z hz => ?_⟩
      simp only [List.mem_cons, List.not_mem_nil, or_false] at hx hy hu hz
      rcases hz with rfl | rfl | rfl <;> assumption
    · rintro ⟨hl, hs⟩
      obtain ⟨k, rfl⟩ := len3 hl
      exact ⟨k.x, by have := hs k.x (by simp [l3]); simpa using this, k.y, by have := hs k.y (by simp [l3]); simpa using this, k.z, by have := hs k.z (by simp [l3]); simpa using this, rfl⟩
/-- what is found so far -/
structure Fnd (ps : List (List Int)) (ts : List (List Int)) (i : Nat) (fs : List (List Int)) : Prop where
  nd : fs.Nodup
  cnt : fs.length ≤ 2 * i
  len : ∀ v ∈ fs, v.length = ps.length ∧ Bd 100000000 v
  mem : ∀ v, v ∈ fs ↔ ∃ j t, j < i ∧ ts[j]? = some t ∧ WallIn ps t v
theorem left_inj {st u v : List Int} (hu : u.length = st.length) (hv : v.length = st.length) (h : leftL st 2 u = leftL st 2 v) : u = v := by
  induction st generalizing u v with
  | nil => rw [List.length_eq_zero_iff.mp hu, List.length_eq_zero_iff.mp hv]
  | cons s st ih =>
    cases u with
    | nil => simp at hu
    | cons a u => cases v with
      | nil => simp at hv
      | cons b v =>
        simp only [leftL, List.zip_cons_cons, List.map_cons, List.cons.injEq] at h
        rw [show a = b by omega, ih (by simpa using hu) (by simpa using hv) h.2]
theorem num_ne {H : Hp} {b l : Addr} {q : List Int} {as : List Addr} (hb : H b = some (.lst (q.map V.int))) (hl : H l = some (.lst (as.map V.ref))) (h0 : q ≠ []) : b ≠ l := fun e => by
  rw [e, hl] at hb
  have h1 : as.map V.ref = q.map V.int := by injection hb with hb; injection hb
  cases q with
  | nil => exact h0 rfl
  | cons a as' => cases as with
    | nil => simp at h1
    | cons x q => simp at h1
/-- one class more -/
theorem fnd_step {ps ts fs us : List (List Int)} {i : Nat} {t : List Int} (hd : Dm ps) (h0 : detL ps ≠ 0) (hB : BdP 20 ps) (hts : ts.Nodup) (hbits : ∀ t ∈ ts, Bits ps.length t) (h : Fnd ps ts i fs) (ht : ts[i]? = some t) (np : NearP ps (togL ps t) 2 us) (hub : ∀ u ∈ us, Bd 10000000 (leftL (togL ps t) 2 u)) :
    (us.length = 2 → Fnd ps ts (i + 1) (fs ++ (us.map (leftL (togL ps t) 2)).filter Sq67.forward)) ∧ (us.length ≠ 2 → Fnd ps ts (i + 1) fs) := by
  obtain ⟨n1, n2, n3, n4⟩ := nrm_shape hd
  have hne : ps ≠ [] := fun z => by rw [z] at n4; simp at n4
  have tb := hbits t (List.mem_of_getElem? ht)
  have win : ∀ v, us.length = 2 → (WallIn ps t v ↔ v ∈ (us.map (leftL (togL ps t) 2)).filter Sq67.forward) := fun v h2 => by
    rw [List.mem_filter]
    constructor
    · rintro ⟨hf, us', ht', _, hv⟩
      rw [ht'.unique np.told] at hv
      exact ⟨hv, hf⟩
    · rintro ⟨hv, hf⟩
      exact ⟨hf, us, np.told, h2, hv⟩
  have wno : ∀ v, us.length ≠ 2 → ¬ WallIn ps t v := fun v h2 ⟨_, us', ht', h2', _⟩ => h2 (by rw [← ht'.unique np.told]; exact h2')
  have split : ∀ v, (∃ j t', j < i + 1 ∧ ts[j]? = some t' ∧ WallIn ps t' v) ↔ (v ∈ fs ∨ WallIn ps t v) := fun v => by
    constructor
    · rintro ⟨j, t', hj, hjt, hw⟩
      by_cases hji : j = i
      · rw [hji, ht] at hjt; cases hjt; exact .inr hw
      · exact .inl ((h.mem v).mpr ⟨j, t', by omega, hjt, hw⟩)
    · rintro (hv | hw)
      · obtain ⟨j, t', hj, hjt, hw⟩ := (h.mem v).mp hv
        exact ⟨j, t', by omega, hjt, hw⟩
      · exact ⟨i, t, by omega, ht, hw⟩
  have ul := near_len hd np
  have stl : (togL ps t).length = ps.length := tog_len n3 hne
  refine ⟨fun h2 => ⟨?_, ?_, ?_, ?_⟩, fun h2 => ⟨h.nd, by have := h.cnt; omega, h.len, fun v => ?_⟩⟩
  · rw [List.nodup_append]
    refine ⟨h.nd, List.Nodup.sublist (List.filter_sublist) (nodup_map_on (fun a ha b hb e => left_inj (by rw [ul a ha, stl]) (by rw [ul b hb, stl]) e) (told_nodup np.told)), fun a ha b hb e => ?_⟩
    subst e
    obtain ⟨j, t', hj, hjt, hw⟩ := (h.mem a).mp ha
    have := wall_class hd h0 (hbits t' (List.mem_of_getElem? hjt)) tb hw ((win a h2).mpr hb)
    subst this
    have hjl := (List.getElem?_eq_some_iff.mp hjt).1
    have hil := (List.getElem?_eq_some_iff.mp ht).1
    have : j = i := (List.getElem_inj hts).mp (by rw [(List.getElem?_eq_some_iff.mp hjt).2, (List.getElem?_eq_some_iff.mp ht).2])
    omega
  · rw [List.length_append]
    have := List.length_filter_le Sq67.forward (us.map (leftL (togL ps t) 2))
    rw [List.length_map] at this
    have := h.cnt
    omega
  · intro v hv
    rcases List.mem_append.mp hv with g | g
    · exact h.len v g
    · obtain ⟨u, hu, rfl⟩ := List.mem_map.mp (List.mem_filter.mp g).1
      refine ⟨?_, Bd.mono (by decide) (hub u hu)⟩
      simp only [leftL, List.length_map, List.length_zip, stl, ul u hu]
      omega
  · intro v
    rw [List.mem_append, split v, win v h2]
  · rw [split v]
    constructor
    · exact .inl
    · rintro (g | g)
      · exact g
      · exact absurd g (wno v h2)
theorem led_bd {ps : List (List Int)} {st : List Int} {us : List (List Int)} (ok : PlOk ps st 2) (np : NearP ps st 2 us) : ∀ u ∈ us, Bd 10000000 (leftL st 2 u) := fun u hu => by
  obtain ⟨n1, n2, n3, n4⟩ := nrm_shape ok.st.sh.dm
  have hn := (np.told.2 u).mp hu
  have rl : (roundL ps st 2).length = ps.length := by simp [roundL, n1]
  have h1 := hn.2 (togL ps (roundL ps st 2)) ⟨_, rl, rfl⟩
  have h2 := round_far ok.st ok.len (q := 2) (by decide)
  have h3 : farL st 2 u ≤ 2304 := by omega
  intro x hx
  have := (dotL_nonneg (leftL st 2 u)).2 x hx
  have h4 : x * x ≤ 48 * 48 := by unfold farL at h3; omega
  have := abs_le_of_sq (m := 48) (by decide) h4
  omega
theorem ok_wp {f : Addr} {fd : FuncData} (F : Fun K "wall_points" "wall_points" sWP f fd) (Bo : Callee P w K mg base 1 "box" ["choices"] (spBox K)) (G : Callee P w K mg base 1 "together" ["steps", "times"] (spTogether K)) (Sb : Callee P w K mg base 7 "shortest_beside" ["steps", "start"] (spSB K))
    (Fo : Callee P w K mg base 1 "is_forward" ["point"] (spForward K)) (O : Callee P w K mg base 3 "order" ["point"] (spOrder K)) (ml : mg "len" = none) (ms : mg "sorted" = none) : FnOk P w K mg base CX0 8 f fd ["steps"] (spWP K) := by
  obtain ⟨fo, fdo, Go, mo, kpo, bo⟩ := O.ex
  refine F.ok scWP (fun vs H Q E h => ?_) (fun cdv A outer s H vs Q E hr h => ?_)
  · obtain ⟨a, ps, rfl, _⟩ := h
    rfl
  · refine ⟨_, pss_cons (ps_set (i := 1) scWP.nd rfl (.inl rfl) (pe_lst pa_nil))
      (pss_cons (ps_for PassesOwn.never rfl (pi_list (pe_def Bo (hr.mono (by decide)) rfl (pa_cons (pe_lc (own := [("step", 4)]) (g := gName 4) rfl scWP.nd (pi_list (pv 0))
          (blkOk_by (N := nWP) (sc := defScope sWP) (by decide +kernel))
          (fun _ _ _ _ _ => by exact pg_name (i := 4) scWP.nd rfl (.inl rfl)) (fun _ _ _ _ _ => pts_nil)
          (fun _ _ _ _ _ => pe_lst (pa_cons pe_int (pa_cons pe_int pa_nil)))) pa_nil))) (pg_name (i := 2) scWP.nd rfl (.inl rfl))
        (pss_cons (ps_set (i := 3) scWP.nd rfl (.inl rfl) (pe_def Sb hr rfl (pa_cons (pv 0) (pa_cons (pe_def G (hr.mono (by decide)) rfl (pa_cons (pv 0) (pa_cons (pv 2) pa_nil))) pa_nil))))
        (pss_one (ps_if (pt_cmpR op_eq (pe_callB call_len_seq (by rfl) ml PySem.boot_len (pa_cons (pv 3) pa_nil)) pe_int (nomark _))
          (pss_one (ps_expr (pe_bm PySem.F.plainAttrs_list PySem.F.slot_list_extend PySem.F.type_list_extend mt_extend (pv 1) (pa_cons (pe_lc (own := [("point", 5)]) (g := gName 5) rfl scWP.nd (pi_list (pv 3))
            (blkOk_by (N := nWP) (sc := defScope sWP) (by decide +kernel))
            (fun _ _ _ _ _ => by exact pg_name (i := 5) scWP.nd rfl (.inl rfl))
            (fun _ _ _ _ _ => by exact pts_one (pt_val (pe_def Fo (hr.mono (by decide)) rfl (pa_cons (pv 5) pa_nil))))
            (fun _ _ _ _ _ => by exact pv 5)) pa_nil)))) pss_nil))))
      (pss_one (ps_ret (pe_sortD Go mo bo (hr.mono (by decide)) rfl (by rfl) ms (pa_cons (pv 1) pa_nil))))), ?_⟩
    obtain ⟨a, ps, rfl, hR, ok, k⟩ := h
    have hd := ok.sh.dm
    have hB := ok.bd
    obtain ⟨n1, n2, n3, n4⟩ := nrm_shape hd
    have hne : ps ≠ [] := fun z => by rw [z] at n4; simp at n4
    obtain ⟨as, has, hal, hap⟩ := id hR
    refine ⟨by show 0 ≤ sizeLine; decide, fun l hl => ?_⟩
    have s0 : Same H (upd H l (.lst [])) := keep_same.new hl
    have hl0 : upd H l (.lst []) l = some (.lst []) := upd_same
    generalize hH0 : upd H l (.lst []) = H0 at s0 hl0
    refine ⟨_, rfl, a, rfl, ⟨_, s0.seq has⟩, lc_rows keep_same (walk_list (xs := as.map V.ref)) (List.replicate ps.length [0, 1]) (by simp [hal]) (fun H' r => r.seq (s0.seq has)) (by rw [sizeLine_eq]; simp; omega) ?_ ?_⟩
    · rintro i v z H1 H' Qf hz r ⟨rfl, hx⟩ q
      have : z = [0, 1] := (List.mem_replicate.mp (List.mem_of_getElem? hz)).2
      subst this
      exact ⟨rfl, by show 2 ≤ sizeLine; decide, fun p hp => q p _ (keep_same.new hp) hp upd_same⟩
    · intro D1 H1 r1 hD1 hR1
      refine ⟨D1, _, rfl, hR1.rows, by simp; omega, fun i hi => ?_, fun H2 pb r2 hpb hRb => ?_⟩
      · exact box_small (fun zs hz => by rw [(List.mem_replicate.mp hz).2]; decide) (by simp; omega) i
      · have s12 := keep_same.trans r1 r2
        have s2 : Same H H2 := keep_same.trans s0 s12
        generalize hts : boxL (List.replicate ps.length [0, 1]) = ts at *
        have hbits : ∀ t ∈ ts, Bits ps.length t := fun t ht => (bits_mem n4 t).mp (by rw [hts]; exact ht)
        have htn : ts.Nodup := by rw [← hts]; exact box_nd _ [[]] (fun z hz => by rw [(List.mem_replicate.mp hz).2]; decide) (by simp)
        have tcnt : ts.length ≤ 8 := by
          rw [← hts]
          rcases n4 with e | e <;> rw [e] <;> decide
        obtain ⟨bs, hbs, hbl, hbp⟩ := hRb
        have hl2 : H2 l = some (.lst (([] : List Addr).map V.ref)) := s12 _ _ hl0
        have pbl : pb ≠ l := fun e => by
          rw [e] at hpb
          have := r1 _ _ hl0
          rw [this] at hpb; cases hpb
        have bne : ∀ (i : Nat) (b : Addr) (t : List Int), bs[i]? = some b → ts[i]? = some t → b ≠ l := fun i b t e1 e2 => num_ne (hbp i b t e1 e2) hl2 (fun z => by
          have := (hbits t (List.mem_of_getElem? e2)).1
          rw [z] at this; simp at this; omega)
        refine ⟨pb, rfl, ⟨_, SqL.of hbs⟩, for_it (walk_list (xs := bs.map V.ref)) (fun i σ H' => Same H H' ∧ LK l H2 H' ∧ ∃ (fs : List (List Int)) (v2 v3 v4 v5 : Option V), σ = [some (.ref a), some (.ref l), v2, v3, v4, v5] ∧ RowsH H' l fs ∧ Fnd ps ts i fs)
          ⟨s2, fun b xs _ e => e, [], none, none, none, none, rfl, ⟨[], hl2, rfl, fun i b p e => by simp at e⟩, ⟨by simp, by simp, fun v hv => by simp at hv, fun v => ⟨fun h => by simp at h, fun ⟨j, t, hj, _⟩ => by omega⟩⟩⟩
          (fun i σ H' _ ⟨_, lk, _⟩ => SqL.of (lk _ _ pbl hbs)) ?_ ?_⟩
        · rintro i x σ H3 H3' hi ⟨sH, lk, fs, v2, v3, v4, v5, rfl, hRf, fnd⟩ ⟨rfl, hx⟩
          obtain ⟨bi, hbi, rfl⟩ := map_get hx
          have hi' : i < ts.length := by rw [← hbl]; simpa using hi
          obtain ⟨t, ht⟩ : ∃ t, ts[i]? = some t := ⟨_, List.getElem?_eq_getElem hi'⟩
          have tb := hbits t (List.mem_of_getElem? ht)
          have hbt := lk _ _ (bne i bi t hbi ht) (hbp i bi t hbi ht)
          have stl : (togL ps t).length = ps.length := tog_len n3 hne
          have pok : PlOk ps (togL ps t) 2 := ⟨ok, stl, start_bd hB (by omega) tb.2, by decide, by decide⟩
          refine ⟨_, rfl, _, rfl, _, rfl, a, bi, ps, t, ps.length, rfl, Rows.keep keep_same sH hR, SqL.of hbt, hne, tb.1.symm, by omega, by omega, n3, fun x hx => by have := tb.2 x hx; unfold big; omega, fun H4 p4 r4 hp4 e4 => ?_⟩
          refine ⟨a, p4, ps, togL ps t, rfl, Rows.keep keep_same (keep_same.trans sH r4) hR, SqL.of e4, pok, fun H5 p5 us r5 hp5 hR5 np => ?_⟩
          have r45 := keep_same.trans r4 r5
          have sH5 := keep_same.trans sH r45
          have lk5 : LK l H2 H5 := fun b xs hb e => r45 _ _ (lk b xs hb e)
          have hRf5 := RowsH.keep keep_same r45 hRf
          obtain ⟨cs, hcs, hcl, hcp⟩ := id hR5
          have fs2 := fnd_step hd ok.det hB htn hbits fnd ht np (led_bd pok np)
          refine ⟨_, rfl, p5, _, rfl, .inl (SqL.of hcs), rfl, _, rfl, ?_⟩
          have hcl' : cs.length = us.length := by rw [hcl, List.length_map]
          refine bIf (fun hh => ?_) (fun hh => ?_)
          · have h2 : us.length = 2 := by
              have := of_decide_eq_true hh
              injection this with this
              simp only [List.length_map] at this
              omega
            obtain ⟨ds, hds, hdl, hdp⟩ := id hRf5
            refine ⟨_, rfl, .inl ⟨rfl, _, SqL.of hds⟩, _, rfl, p5, rfl, ⟨_, SqL.of hcs⟩, lc_filt keep_same Sq67.forward (SqL.of hcs) hcl hcp (by rw [sizeLine_eq]; simp; omega) ?_ ?_⟩
            · intro j bj u H' Qe Qn hbj huj r qe qn
              refine ⟨rfl, _, rfl, bj, u, rfl, SqL.of (r _ _ (hcp j bj u hbj huj)), _, rfl, ?_⟩
              refine bIf (fun hh => ?_) (fun hh => ?_)
              · exact ⟨_, rfl, qe H' (keep_same.refl _) hh⟩
              · exact qn H' (keep_same.refl _) hh
            · intro D6 H6 r6 hD6 hR6
              obtain ⟨gs, hgs, hgl, hgp⟩ := hR6
              have hds6 := r6 _ _ hds
              have cle : ((us.map (leftL (togL ps t) 2)).filter Sq67.forward).length ≤ 2 := by
                have := List.length_filter_le Sq67.forward (us.map (leftL (togL ps t) 2))
                rw [List.length_map, h2] at this; exact this
              have fc := fnd.cnt
              refine ⟨l, D6, _, _, rfl, rfl, hds6, hgs, by rw [sizeLine_eq]; simp only [List.length_map]; omega, ?_⟩
              refine ⟨keep_same.put (keep_same.trans sH5 r6) hl (.inr ⟨_, hds6⟩), fun b xs hb e => by rw [upd_ne hb]; exact r6 _ _ (lk5 b xs hb e), _, _, _, _, _, rfl, ⟨ds ++ gs, by rw [upd_same]; simp, by simp [hdl, hgl], ?_⟩, fs2.1 h2⟩
              intro j b v e1 e2
              have hv : v.length = ps.length := ((fs2.1 h2).len v (List.mem_of_getElem? e2)).1
              have hvne : v ≠ [] := fun z => by rw [z] at hv; simp at hv; omega
              have hb6 : H6 b = some (.lst (v.map V.int)) := by
                rcases Nat.lt_or_ge j ds.length with g | g
                · rw [List.getElem?_append_left g] at e1
                  rw [List.getElem?_append_left (by omega)] at e2
                  exact r6 _ _ (hdp j b v e1 e2)
                · rw [List.getElem?_append_right g] at e1
                  rw [List.getElem?_append_right (by omega)] at e2
                  rw [← hdl] at e2
                  exact hgp _ b v e1 e2
              rw [upd_ne (num_ne hb6 hds6 hvne)]
              exact hb6
          · have h2 : us.length ≠ 2 := fun h2 => by
              have := of_decide_eq_false hh
              apply this
              simp only [List.length_map]
              rw [hcl', h2]; rfl
            exact ⟨sH5, lk5, fs, _, _, _, _, rfl, hRf5, fs2.2 h2⟩
        · rintro σ H3 ⟨sH, lk, fs, v2, v3, v4, v5, rfl, hRf, fnd⟩
          have elen : (bs.map V.ref).length = ts.length := by rw [List.length_map, hbl]
          rw [elen] at fnd
          have fc := fnd.cnt
          obtain ⟨ds, hds, hdl, hdp⟩ := hRf
          have T := sorted_told (Pr := fun v => ∃ t, Bits ps.length t ∧ WallIn ps t v) (n := ps.length) (fun y : List Int => y) (bs := fs) fnd.nd (fun a _ b _ e => e) (fun b hb => (fnd.len b hb).1) (fun v => by
            constructor
            · rintro ⟨b, hb, rfl⟩
              obtain ⟨j, t, _, hjt, hw⟩ := (fnd.mem b).mp hb
              exact ⟨t, hbits t (List.mem_of_getElem? hjt), hw⟩
            · rintro ⟨t, htb, hw⟩
              have hm : t ∈ ts := by rw [← hts]; exact (bits_mem n4 t).mpr htb
              obtain ⟨j, hj⟩ := List.getElem?_of_mem hm
              exact ⟨v, (fnd.mem v).mpr ⟨j, t, (List.getElem?_eq_some_iff.mp hj).1, hj, hw⟩, rfl⟩)
          rw [List.map_id'] at T
          have pm := List.mergeSort_perm fs (PySem.W.dataLe false fun y => listD (orderL y))
          refine ⟨_, rfl, rfl, l, ds.map V.ref, fs, orderL, ps.length + 1, fun x y => ∃ b, x = .ref b ∧ H3 b = some (.lst (y.map V.int)) ∧ b ≠ l, rfl, SqL.of hds, ?_, ?_, ?_, ?_⟩
          · refine each_of_get (by rw [List.length_map]; exact hdl) (fun j x y e1 e2 => ?_)
            obtain ⟨b, hb, rfl⟩ := map_get e1
            have h1 := hdp j b y hb e2
            refine ⟨b, rfl, h1, num_ne_rows h1 hds (fun z => ?_)⟩
            rw [z] at hb; simp at hb
          · intro y hy
            unfold orderL
            rw [List.length_cons, List.length_map, (fnd.len y hy).1]
          · intro j x y H9 Q' e1 e2 r9 qf
            obtain ⟨b, hb, rfl⟩ := map_get e1
            have yin := fnd.len y (List.mem_of_getElem? e2)
            exact ⟨b, y, rfl, SqL.of (r9 _ _ (hdp j b y hb e2)), by omega, Bd.mono (by decide) yin.2, fun H10 p10 r10 hp10 e10 => qf H10 p10 r10 hp10 e10⟩
          · intro H9 p zs r9 hp ez each
            obtain ⟨as', rfl, hal', hap'⟩ := rows_of_each each
            exact k H9 p _ (keep_same.trans sH r9) (keep_same.free sH hp) ⟨as', ez, hal', fun j b y e1 e2 => r9 _ _ (hap' j b y e1 e2).1⟩ ⟨T, by rw [pm.length_eq]; omega⟩
end
end Np
end
section
set_option maxRecDepth 100000
set_option maxHeartbeats 2000000
namespace Np
open PySem PySem.Spec PyProof.Rows L2 LamX NdefX
/-! ### told_steps, refusal_of_steps -/
abbrev sTS : Stmt := top 40
abbrev sRfS : Stmt := top 41
theorem sl_listK {X : Cx} (K : PySem.W.Frag) (hK : X.K = K) : SlR X (rSlL K) := by
  subst hK
  exact sl_list
/-- the numbers from i on, n of them -/
theorem cut_at {zs : List V} {i n : Nat} (h : i + n ≤ zs.length) : cutV zs (some (i : Int)) (some ((i : Int) + n)) = (zs.drop i).take n := by
  unfold cutV
  have e1 : HT.sIx zs.length 0 (some (i : Int)) = i := by
    simp only [HT.sIx]; split <;> omega
  have e2 : HT.sIx zs.length zs.length (some ((i : Int) + n)) = i + n := by
    simp only [HT.sIx]; split <;> omega
  rw [e1, e2, Nat.add_sub_cancel_left]
theorem cut_past {zs : List V} {i n : Nat} : cutV zs (some (i : Int)) (some ((i : Int) + n)) = (zs.drop i).take n := by
  unfold cutV
  have e1 : HT.sIx zs.length 0 (some (i : Int)) = min i zs.length := by
    simp only [HT.sIx]; split <;> omega
  have e2 : HT.sIx zs.length zs.length (some ((i : Int) + n)) = min (i + n) zs.length := by
    simp only [HT.sIx]; split <;> omega
  rw [e1, e2]
  rcases Nat.le_total i zs.length with g | g
  · rw [Nat.min_eq_left g]
    apply List.ext_getElem?
    intro j
    rw [List.getElem?_take, List.getElem?_take, List.getElem?_drop]
    by_cases h1 : j < n
    · rw [if_pos h1]
      by_cases h2 : j < min (i + n) zs.length - i
      · rw [if_pos h2]
      · rw [if_neg h2, List.getElem?_eq_none (by omega)]
    · rw [if_neg h1, if_neg (by omega)]
  · rw [Nat.min_eq_right g, List.drop_length, List.drop_eq_nil_of_le g]; simp
def spTS (K : PySem.W.Frag) : Sp := fun vs H Q _ => ∃ (a b : Addr) (xs ys : List Int) (n : Nat), vs = [.ref a, .ref b, .int n] ∧ SqL K H a (xs.map V.int) ∧ SqL K H b (ys.map V.int) ∧ xs.length ≤ 100000 ∧ (n = 2 ∨ n = 3) ∧ (toldL xs ys).length = n * n ∧
  ∀ H' p, Same H H' → H p = none → RowsH H' p (Sq67.rowsOf n n (toldL xs ys)) → Q (.ref p) H'
theorem rowsOf_get {n : Nat} (hn : n = 2 ∨ n = 3) {v : List Int} (hl : v.length = n * n) : (Sq67.rowsOf n n v).length = n ∧ ∀ (i : Nat) (z : List Int), (Sq67.rowsOf n n v)[i]? = some z → z = (v.drop (i * n)).take n := by
  rcases hn with rfl | rfl
  · refine ⟨rfl, fun i z e => ?_⟩
    match i with
    | 0 => cases e; rfl
    | 1 => cases e; rfl
    | i + 2 => simp [Sq67.rowsOf] at e
  · refine ⟨rfl, fun i z e => ?_⟩
    match i with
    | 0 => cases e; rfl
    | 1 => cases e; rfl
    | 2 => cases e; rw [List.drop_drop]
    | i + 3 => simp [Sq67.rowsOf] at e
theorem rowsOf_dm {n : Nat} (hn : n = 2 ∨ n = 3) {v : List Int} (hl : v.length = n * n) : Dm (Sq67.rowsOf n n v) := by
  rcases hn with rfl | rfl
  · match v, hl with
    | [a, b, c, d], _ => exact .inl ⟨⟨⟨a, b⟩, ⟨c, d⟩⟩, rfl⟩
  · match v, hl with
    | [a1, a2, a3, b1, b2, b3, c1, c2, c3], _ => exact .inr ⟨⟨⟨a1, a2, a3⟩, ⟨b1, b2, b3⟩, ⟨c1, c2, c3⟩⟩, rfl⟩
theorem rowsOf_mem {n : Nat} (hn : n = 2 ∨ n = 3) {v : List Int} (hl : v.length = n * n) : ∀ p ∈ Sq67.rowsOf n n v, ∀ x ∈ p, x ∈ v := fun p hp x hx => by
  obtain ⟨i, hi⟩ := List.getElem?_of_mem hp
  have := (rowsOf_get hn hl).2 i p hi
  rw [this] at hx
  exact List.mem_of_mem_drop (List.mem_of_mem_take hx)
section
variable {P : Program} {w : World} {K : PySem.W.Frag} {mg : Str → Option Value} {base : Heap}
abbrev nTS : List Str := ["plus", "minus", "n", "numbers", "k"]
theorem scTS : FnScope nTS ["plus", "minus", "n"] (defScope sTS) :=
  ⟨rfl, rfl, rfl, by decide +kernel, rfl, by decide +kernel, by decide +kernel⟩
theorem ok_ts {f : Addr} {fd : FuncData} (F : Fun K "told_steps" "told_steps" sTS f fd) (D : Callee P w K mg base 1 "told_numbers" ["plus", "minus"] (spTold K)) (mr : mg "range" = none) : FnOk P w K mg base CX0 2 f fd ["plus", "minus", "n"] (spTS K) := by
  refine F.ok scTS (fun vs H Q E h => ?_) (fun cdv A outer s H vs Q E hr h => ?_)
  · obtain ⟨a, b, xs, ys, n, rfl, _⟩ := h
    rfl
  · refine ⟨_, pss_cons (ps_set (i := 3) scTS.nd rfl (.inr rfl) (pe_def D hr rfl (pa_cons (pv 0) (pa_cons (pv 1) pa_nil))))
      (pss_one (ps_ret (pe_lc (own := [("k", 4)]) (g := gName 4) rfl scTS.nd (pi_range1 (by rfl) mr (pa_cons (pv 2) pa_nil))
        (blkOk_by (N := nTS) (sc := defScope sTS) (by decide +kernel))
        (fun _ _ _ _ _ => by exact pg_name (i := 4) scTS.nd rfl (.inl rfl)) (fun _ _ _ _ _ => pts_nil)
        (fun _ _ _ _ _ => by exact pe_slice (sl_listK K rfl) (pv 3) (po_some (pe_op op_mul (pv 4) (pv 2))) (po_some (pe_op op_add (pe_op op_mul (pv 4) (pv 2)) (pv 2))))))), ?_⟩
    obtain ⟨a, b, xs, ys, n, rfl, ha, hb, hx, hn, hl, k⟩ := h
    obtain ⟨g1, g2⟩ := rowsOf_get hn hl
    refine ⟨_, rfl, _, rfl, a, b, xs, ys, rfl, ha, hb, hx, fun H1 p1 r1 hp1 e1 => ?_⟩
    refine ⟨_, rfl, (n : Int), rfl, by omega, by omega, lc_rows keep_same (walk_range (lo := 0) (n := (n : Int).toNat)) (Sq67.rowsOf n n (toldL xs ys)) (by rw [g1]; rfl) (fun _ _ => trivial) (by rw [sizeLine_eq]; omega) ?_ ?_⟩
    · rintro i x z H0 H' Qf hz r ⟨rfl, rfl⟩ q
      have hi : i < n := by rw [← g1]; exact (List.getElem?_eq_some_iff.mp hz).1
      have ez := g2 i z hz
      refine ⟨rfl, _, rfl, _, rfl, _, rfl, _, _, rfl, rfl, .inl (by omega), _, rfl, _, rfl, _, rfl, _, _, rfl, rfl, .inl (by omega), _, rfl, _, _, rfl, rfl, _, rfl, p1, _, rfl, SqL.of (r _ _ e1), fun p hp => ?_⟩
      refine q p _ (keep_same.new hp) hp ?_
      rw [upd_same, ez]
      have e : (0 + (i : Int)) * (n : Int) = ((i * n : Nat) : Int) := by rw [Int.natCast_mul, Int.zero_add]
      show some (HO.lst (cutV _ (some ((0 + (i : Int)) * (n : Int))) (some ((0 + (i : Int)) * (n : Int) + (n : Int))))) = _
      rw [e, cut_past, List.map_take, List.map_drop]
    · intro D2 H2 r2 hD2 hR2
      exact k H2 D2 (keep_same.trans r1 r2) (keep_same.free r1 hD2) hR2
/-! ### refusal_of_steps -/
def refStepsL (xs ys : List Int) (n : Nat) : Int := if refusalL xs ys ((n : Int) * n) 9 = 0 ∧ detL (Sq67.rowsOf n n (toldL xs ys)) = 0 then -4 else refusalL xs ys ((n : Int) * n) 9
theorem refusal_zero {xs ys : List Int} {c : Nat} {m : Int} (h : refusalL xs ys c m = 0) : xs.length = c ∧ ys.length = c ∧ (toldL xs ys).length = c ∧ Bd m (toldL xs ys) := by
  unfold refusalL at h
  split at h
  · omega
  · rename_i h1
    split at h
    · omega
    · rename_i h2
      have hx : xs.length = c := by omega
      have hy : ys.length = c := by omega
      refine ⟨hx, hy, by simp [toldL, hx, hy], fun x hx => ?_⟩
      rcases Int.lt_or_le m (if x < 0 then -x else x) with g | g
      · exact absurd (List.any_eq_true.mpr ⟨x, hx, by simpa using g⟩) h2
      · split at g <;> omega
theorem refusal_sq {xs ys : List Int} {n : Nat} (h : refusalL xs ys ((n : Int) * n) 9 = 0) : xs.length = n * n ∧ ys.length = n * n ∧ (toldL xs ys).length = n * n ∧ Bd 9 (toldL xs ys) := by
  rw [show ((n : Int) * n) = ((n * n : Nat) : Int) from (Int.natCast_mul n n).symm] at h
  exact refusal_zero h
def spRfS (K : PySem.W.Frag) : Sp := fun vs H Q _ => ∃ (a b : Addr) (xs ys : List Int) (n : Nat), vs = [.ref a, .ref b, .int n] ∧ SqL K H a (xs.map V.int) ∧ SqL K H b (ys.map V.int) ∧ xs.length ≤ 100000 ∧ ys.length ≤ 100000 ∧ (n = 2 ∨ n = 3) ∧
  ∀ H', Same H H' → Q (.int (refStepsL xs ys n)) H'
abbrev nRfS : List Str := ["plus", "minus", "n", "refusal"]
theorem scRfS : FnScope nRfS ["plus", "minus", "n"] (defScope sRfS) :=
  ⟨rfl, rfl, rfl, by decide +kernel, rfl, by decide +kernel, by decide +kernel⟩
theorem ok_rfs {f : Addr} {fd : FuncData} (F : Fun K "refusal_of_steps" "refusal_of_steps" sRfS f fd) (Rf : Callee P w K mg base 2 "refusal_of_told" ["plus", "minus", "count", "most"] (spRef K)) (De : Callee P w K mg base 3 "determinant" ["steps"] (spDet K))
    (Ts : Callee P w K mg base 2 "told_steps" ["plus", "minus", "n"] (spTS K)) (mM : ∃ t, mg "MOST_OF_STEP" = some (.int 9 t)) (mL : ∃ t, mg "LIES_WHERE_OTHERS_LEAD" = some (.int (-4) t)) : FnOk P w K mg base CX0 4 f fd ["plus", "minus", "n"] (spRfS K) := by
  obtain ⟨tM, mM⟩ := mM
  obtain ⟨tL, mL⟩ := mL
  refine F.ok scRfS (fun vs H Q E h => ?_) (fun cdv A outer s H vs Q E hr h => ?_)
  · obtain ⟨a, b, xs, ys, n, rfl, _⟩ := h
    rfl
  · refine ⟨_, pss_cons (ps_set (i := 3) scRfS.nd rfl (.inl rfl) (pe_def Rf (hr.mono (by decide)) rfl (pa_cons (pv 0) (pa_cons (pv 1) (pa_cons (pe_op op_mul (pv 2) (pv 2)) (pa_cons (pe_glob (v := .int 9) rfl mM ⟨_, rfl⟩) pa_nil))))))
      (pss_cons (ps_if (PW.pt (pw_and (pt_cmpR op_eq (pv 3) pe_int (nomark _)) (pw_and1 (pt_cmpR op_eq (pe_def De hr rfl (pa_cons (pe_def Ts (hr.mono (by decide)) rfl (pa_cons (pv 0) (pa_cons (pv 1) (pa_cons (pv 2) pa_nil)))) pa_nil)) pe_int (nomark _)))))
        (pss_one (ps_ret (pe_glob (v := .int (-4)) rfl mL ⟨_, rfl⟩))) pss_nil)
      (pss_one (ps_ret (pv 3)))), ?_⟩
    obtain ⟨a, b, xs, ys, n, rfl, ha, hb, hx, hy, hn, k⟩ := h
    refine ⟨_, rfl, _, rfl, _, rfl, _, rfl, _, _, rfl, rfl, .inl (by omega), a, b, xs, ys, _, 9, rfl, ha, hb, hx, hy, fun H1 r1 => ?_⟩
    refine ⟨_, rfl, rfl, _, rfl, ?_⟩
    refine bIf (fun h1 => ?_) (fun h1 => ?_)
    · have e : refusalL xs ys ((n : Int) * n) 9 = 0 := by
        have := of_decide_eq_true h1
        injection this
      obtain ⟨l1, l2, l3, bd⟩ := refusal_sq e
      have dm := rowsOf_dm hn l3
      refine ⟨_, rfl, _, rfl, _, rfl, a, b, xs, ys, n, rfl, r1.seq ha, r1.seq hb, hx, hn, l3, fun H2 p2 r2 hp2 hR2 => ?_⟩
      refine ⟨p2, _, rfl, hR2.rows, dm, fun p hp x hx => ?_, fun H3 r3 => ?_⟩
      · have := bd x (rowsOf_mem hn l3 p hp x hx)
        unfold lim; omega
      · have kk := k H3 (keep_same.trans r1 (keep_same.trans r2 r3))
        unfold refStepsL at kk
        refine ⟨rfl, _, rfl, ?_⟩
        refine bIf (fun h2 => ?_) (fun h2 => ?_)
        · have e2 : detL (Sq67.rowsOf n n (toldL xs ys)) = 0 := by
            have := of_decide_eq_true h2
            injection this
          rw [if_pos ⟨e, e2⟩] at kk
          exact kk
        · have e2 : detL (Sq67.rowsOf n n (toldL xs ys)) ≠ 0 := fun z => by
            have := of_decide_eq_false h2
            exact this (by rw [z])
          rw [if_neg (fun z => e2 z.2)] at kk
          exact ⟨_, rfl, kk⟩
    · have e : refusalL xs ys ((n : Int) * n) 9 ≠ 0 := fun z => by
        have := of_decide_eq_false h1
        exact this (by rw [z])
      refine iteF ?_
      have kk := k H1 r1
      unfold refStepsL at kk
      rw [if_neg (fun z => e z.1)] at kk
      exact ⟨_, rfl, kk⟩
end
end Np
end
section
set_option maxRecDepth 100000
set_option maxHeartbeats 2000000
/-! What the program's lists are, by the specification's own words. -/
namespace Np
open PySem PySem.Spec PyProof.Rows L2 LamX NdefX
/-- a row of steps -/
inductive HOk : List (List Int) → Prop
  | two (m : B2) (h0 : m.det ≠ 0) (hl : ∀ p ∈ b2 m, dotL p p ≤ 243) : HOk (b2 m)
  | three (m : B3) (h0 : m.det ≠ 0) (hl : ∀ p ∈ b3 m, dotL p p ≤ 243) : HOk (b3 m)
theorem mink_le3 {m r : B3} (hm : m.det ≠ 0) (h : Same3 m r) (k : Mink3 r) (hl : ∀ p ∈ b3 m, dotL p p ≤ 243) : ∀ p ∈ b3 r, dotL p p ≤ 243 := by
  have ha := hl (l3 m.a) (by simp [b3])
  have hb := hl (l3 m.b) (by simp [b3])
  have hc := hl (l3 m.c) (by simp [b3])
  rw [dotL3] at ha hb hc
  obtain ⟨U, V, h1, _, _, _, hU⟩ := h.inv hm
  have ea : m.a = r.pt U.a := by have := h1 ⟨1, 0, 0⟩; rwa [(pts3 m).1, (pts3 U).1] at this
  have eb : m.b = r.pt U.b := by have := h1 ⟨0, 1, 0⟩; rwa [(pts3 m).2.1, (pts3 U).2.1] at this
  have ec : m.c = r.pt U.c := by have := h1 ⟨0, 0, 1⟩; rwa [(pts3 m).2.2, (pts3 U).2.2] at this
  have hC : V3.nrm r.c ≤ 243 := by
    by_cases z1 : U.a.z ≠ 0
    · have := k.m3 U.a z1; rw [← ea] at this; exact Int.le_trans this ha
    · by_cases z2 : U.b.z ≠ 0
      · have := k.m3 U.b z2; rw [← eb] at this; exact Int.le_trans this hb
      · by_cases z3 : U.c.z ≠ 0
        · have := k.m3 U.c z3; rw [← ec] at this; exact Int.le_trans this hc
        · exfalso
          have y1 : U.a.z = 0 := by omega
          have y2 : U.b.z = 0 := by omega
          have y3 : U.c.z = 0 := by omega
          have : U.det = 0 := by simp only [B3.det, V3.dot, V3.cross, y1, y2, y3]; simp
          omega
  have hA := k.m1 ⟨0, 0, 1⟩ (fun e => absurd (congrArg V3.z e) (by decide))
  have hB := k.m2 ⟨0, 0, 1⟩ (.inr (by show (1 : Int) ≠ 0; decide))
  rw [(pts3 r).2.2] at hA hB
  intro p hp
  simp only [b3, List.mem_cons, List.not_mem_nil, or_false] at hp
  rcases hp with rfl | rfl | rfl
  · rw [dotL3]; exact Int.le_trans hA hC
  · rw [dotL3]; exact Int.le_trans hB hC
  · rw [dotL3]; exact hC
theorem mink_le2 {m r : B2} (hm : m.det ≠ 0) (h : Same2 m r) (k : Mink2 r) (hl : ∀ p ∈ b2 m, dotL p p ≤ 243) : ∀ p ∈ b2 r, dotL p p ≤ 243 := by
  have ha := hl (l2 m.a) (by simp [b2])
  have hb := hl (l2 m.b) (by simp [b2])
  rw [dotL2] at ha hb
  obtain ⟨U, V, h1, _, _, _, hU⟩ := h.inv hm
  have ea : m.a = r.pt U.a := by have := h1 ⟨1, 0⟩; rwa [(pts2 m).1, (pts2 U).1] at this
  have eb : m.b = r.pt U.b := by have := h1 ⟨0, 1⟩; rwa [(pts2 m).2, (pts2 U).2] at this
  have hB : V2.nrm r.b ≤ 243 := by
    by_cases z1 : U.a.y ≠ 0
    · have := k.m2 U.a z1; rw [← ea] at this; exact Int.le_trans this ha
    · by_cases z2 : U.b.y ≠ 0
      · have := k.m2 U.b z2; rw [← eb] at this; exact Int.le_trans this hb
      · exfalso
        have y1 : U.a.y = 0 := by omega
        have y2 : U.b.y = 0 := by omega
        have : U.det = 0 := by simp only [B2.det, V2.crs, y1, y2]; simp
        omega
  have hA := k.m1 ⟨0, 1⟩ (fun e => absurd (congrArg V2.y e) (by decide))
  rw [(pts2 r).2] at hA
  intro p hp
  simp only [b2, List.mem_cons, List.not_mem_nil, or_false] at hp
  rcases hp with rfl | rfl
  · rw [dotL2]; exact Int.le_trans hA hB
  · rw [dotL2]; exact hB
/-- the reduced steps are fit for all calls -/
theorem red_ok {h : List (List Int)} (ok : HOk h) : StOk (Sq67.reduced h) ∧ SameL h (Sq67.reduced h) ∧ (Sq67.reduced h).length = h.length := by
  cases ok with
  | two m h0 hl =>
    obtain ⟨r, e, hs, hk⟩ := reduced2 h0
    rw [e]
    exact ⟨⟨.inl ⟨r, rfl, hk.sh⟩, by rw [detL2]; exact hs.det_ne h0, mink_le2 h0 hs hk hl⟩, .inl ⟨m, r, rfl, rfl, hs⟩, rfl⟩
  | three m h0 hl =>
    obtain ⟨r, e, hs, hk⟩ := reduced3 h0
    rw [e]
    exact ⟨⟨.inr ⟨r, rfl, hk.sh⟩, by rw [detL3]; exact hs.det_ne h0, mink_le3 h0 hs hk hl⟩, .inr ⟨m, r, rfl, rfl, hs⟩, rfl⟩
/-! ### greedy by times -/
theorem gl_map (f : List Int → List Int) (Pd : List (List Int) → Bool) (n : Nat) : ∀ (ts l : List (List Int)), gl Pd n (ts.map f) (l.map f) = (gl (fun l => Pd (l.map f)) n ts l).map f
  | [], l => rfl
  | t :: ts, l => by
    rw [List.map_cons, gl, gl, List.length_map]
    have e : l.map f ++ [f t] = (l ++ [t]).map f := by simp
    rw [e]
    by_cases h : (decide (l.length < n) && Pd ((l ++ [t]).map f)) = true
    · rw [if_pos h, if_pos h]; exact gl_map f Pd n ts (l ++ [t])
    · rw [if_neg h, if_neg h]; exact gl_map f Pd n ts l
theorem gl_congr' (Pd Qd : List (List Int) → Bool) (S : List Int → Prop) (n : Nat) (hPQ : ∀ l, l ≠ [] → (∀ v ∈ l, S v) → l.length ≤ n → Pd l = Qd l) :
    ∀ ps l, (∀ v ∈ ps, S v) → (∀ v ∈ l, S v) → gl Pd n ps l = gl Qd n ps l
  | [], l, _, _ => rfl
  | v :: ps, l, hp, hl => by
    rw [gl, gl]
    have hp' : ∀ u ∈ ps, S u := fun u hu => hp u (by simp [hu])
    have hl' : ∀ u ∈ l ++ [v], S u := fun u hu => by
      rcases List.mem_append.mp hu with g | g
      · exact hl u g
      · rw [List.mem_singleton.mp g]; exact hp v (by simp)
    by_cases hlt : l.length < n
    · rw [hPQ (l ++ [v]) (by simp) hl' (by simp; omega)]
      by_cases h : (decide (l.length < n) && Qd (l ++ [v])) = true
      · rw [if_pos h, if_pos h]; exact gl_congr' Pd Qd S n hPQ ps _ hp' hl'
      · rw [if_neg h, if_neg h]; exact gl_congr' Pd Qd S n hPQ ps _ hp' hl
    · have e1 : (decide (l.length < n) && Pd (l ++ [v])) = false := by simp [hlt]
      have e2 : (decide (l.length < n) && Qd (l ++ [v])) = false := by simp [hlt]
      rw [e1, e2]
      exact gl_congr' Pd Qd S n hPQ ps _ hp' hl
theorem gcd_list3 (a b c : Int) : Sq67.gcdAll [a, b, c] = Nat.gcd (Nat.gcd a.natAbs b.natAbs) c.natAbs := by
  simp [Sq67.gcdAll]
theorem gcd_cross (a b : V3) : Sq67.gcdAll (crossL a b) = Sq67.gcdAll (Sq67.minors 3 [l3 a, l3 b]) := by
  rw [minors32, crossL]
  simp only [l3, V3.cross, gcd_list3]
  have e : (a.z * b.x - a.x * b.z).natAbs = (a.x * b.z - a.z * b.x).natAbs := by
    rw [← Int.natAbs_neg]; congr 1; omega
  rw [e]
  generalize (a.y * b.z - a.z * b.y).natAbs = p
  generalize (a.x * b.z - a.z * b.x).natAbs = q
  generalize (a.x * b.y - a.y * b.x).natAbs = r
  rw [Nat.gcd_comm (Nat.gcd p q) r, Nat.gcd_comm p q, ← Nat.gcd_assoc]
theorem gcd_single (x : Int) : Sq67.gcdAll [x] = x.natAbs := by simp [Sq67.gcdAll]
theorem det_swap (a b c : V3) : V3.dot a (V3.cross b c) = V3.dot (V3.cross a b) c := by simp only [V3.dot, V3.cross]; grind
theorem contF1 (p : List Int) : contF [p] = (Sq67.gcdAll p : Nat) := by
  unfold contF
  rfl
theorem contF22 (a b : V2) : contF [l2 a, l2 b] = ((V2.crs a b).natAbs : Nat) := rfl
theorem contF32 (a b : V3) : contF [l3 a, l3 b] = (Sq67.gcdAll (crossL a b) : Nat) := rfl
theorem contF33 (a b c : V3) : contF [l3 a, l3 b, l3 c] = ((V3.dot a (V3.cross b c)).natAbs : Nat) := rfl
theorem cont3 {l : List (List Int)} (h0 : l ≠ []) (hl : ∀ v ∈ l, v.length = 3) (hn : l.length ≤ 3) : contF l = (Sq67.gcdAll (Sq67.minors 3 l) : Nat) := by
  match l, h0, hl, hn with
  | [p], _, hl, _ => rw [contF1]; rfl
  | [p, q], _, hl, _ =>
    obtain ⟨a, rfl⟩ := len3 (hl p (by simp))
    obtain ⟨b, rfl⟩ := len3 (hl q (by simp))
    rw [contF32, gcd_cross]
  | [p, q, r], _, hl, _ =>
    obtain ⟨a, rfl⟩ := len3 (hl p (by simp))
    obtain ⟨b, rfl⟩ := len3 (hl q (by simp))
    obtain ⟨c, rfl⟩ := len3 (hl r (by simp))
    rw [contF33, minors33, gcd_single]
theorem cont2 {l : List (List Int)} (h0 : l ≠ []) (hl : ∀ v ∈ l, v.length = 2) (hn : l.length ≤ 2) : contF l = (Sq67.gcdAll (Sq67.minors 2 l) : Nat) := by
  match l, h0, hl, hn with
  | [p], _, hl, _ => rw [contF1]; rfl
  | [p, q], _, hl, _ =>
    obtain ⟨a, rfl⟩ := len2 (hl p (by simp))
    obtain ⟨b, rfl⟩ := len2 (hl q (by simp))
    rw [contF22, minors22, gcd_single]
theorem coeffs_tog3 {m : B3} (h0 : m.det ≠ 0) {l : List (List Int)} (hl : ∀ v ∈ l, v.length = 3) : (l.map (togL (b3 m))).map (Sq67.coefficients (b3 m)) = l := by
  rw [List.map_map]
  refine (List.map_congr_left fun v hv => ?_).trans (List.map_id l)
  obtain ⟨k, rfl⟩ := len3 (hl v hv)
  show Sq67.coefficients (b3 m) (togL (b3 m) (l3 k)) = l3 k
  rw [tog3, coeff3 m h0]
theorem coeffs_tog2 {m : B2} (h0 : m.det ≠ 0) {l : List (List Int)} (hl : ∀ v ∈ l, v.length = 2) : (l.map (togL (b2 m))).map (Sq67.coefficients (b2 m)) = l := by
  rw [List.map_map]
  refine (List.map_congr_left fun v hv => ?_).trans (List.map_id l)
  obtain ⟨k, rfl⟩ := len2 (hl v hv)
  show Sq67.coefficients (b2 m) (togL (b2 m) (l2 k)) = l2 k
  rw [tog2, coeff2 m h0]
theorem one_nat (n : Nat) : gOne ((n : Nat) : Int) = (n == 1) := by
  unfold gOne
  rw [Bool.eq_iff_iff]
  simp only [beq_iff_eq]
  omega
theorem ne_nat (n : Nat) : gNe ((n : Nat) : Int) = (n != 0) := by
  unfold gNe
  rw [Bool.eq_iff_iff]
  simp only [bne_iff_ne]
  omega
theorem told3 {m : B3} {L : Int} {ts : List (List Int)} (up : UpTo (b3 m) L ts) : Told (In3 m L) (ts.map (togL (b3 m))) := up.told.congr (fwdTo3 m L)
theorem told2 {m : B2} {L : Int} {ts : List (List Int)} (up : UpTo (b2 m) L ts) : Told (In2 m L) (ts.map (togL (b2 m))) := up.told.congr (fwdTo2 m L)
theorem inS3 {m : B3} {L : Int} {ps : List (List Int)} (h : Told (In3 m L) ps) : ∀ v ∈ ps, S3 m v := fun v hv => by
  obtain ⟨⟨k, e, _⟩, _⟩ := (h.2 v).mp hv
  exact ⟨k, e⟩
theorem inS2 {m : B2} {L : Int} {ps : List (List Int)} (h : Told (In2 m L) ps) : ∀ v ∈ ps, S2 m v := fun v hv => by
  obtain ⟨⟨k, e, _⟩, _⟩ := (h.2 v).mp hv
  exact ⟨k, e⟩
/-- **the reduced steps** -/
theorem redP_eq {h rs : List (List Int)} (ok : HOk h) (hr : RedP h rs) : rs = Sq67.reduced h := by
  obtain ⟨qs, L, ts, cur, _, up, hL, rfl⟩ := hr
  cases ok with
  | two m h0 hl =>
    obtain ⟨m', s, e1, rfl, hs⟩ | ⟨m', s, e1, _⟩ := cur.same
    · have em : m' = m := by
        have := e1
        simp only [b2, List.cons.injEq, and_true] at this
        exact (b2_mk (m := m) (l2_inj this.1) (l2_inj this.2)).symm
      subst em
      have hT := told2 up
      have hA := hL (l2 s.a) (by simp [b2])
      have hB := hL (l2 s.b) (by simp [b2])
      rw [dotL2] at hA hB
      have sdet := hs.det_ne h0
      rw [reduced_eq2 h0 hs hT hA hB, goes_gl2 sdet (inS2 hT)]
      have := gl_map (togL (b2 s)) (Sq67.goesOn (b2 s)) 2 ts []
      rw [List.map_nil] at this
      rw [this]
      congr 1
      refine gl_congr' _ _ (fun v => v.length = 2) 2 (fun l hl0 hll hln => ?_) ts [] up.len (fun v hv => by simp at hv)
      rw [cont2 hl0 hll hln, one_nat]
      unfold Sq67.goesOn
      rw [coeffs_tog2 sdet hll]; rfl
    · have := congrArg List.length e1; simp [b2, b3] at this
  | three m h0 hl =>
    obtain ⟨m', s, e1, _⟩ | ⟨m', s, e1, rfl, hs⟩ := cur.same
    · have := congrArg List.length e1; simp [b2, b3] at this
    · have em : m' = m := by
        have := e1
        simp only [b3, List.cons.injEq, and_true] at this
        exact (b3_mk (m := m) (l3_inj this.1) (l3_inj this.2.1) (l3_inj this.2.2)).symm
      subst em
      have hT := told3 up
      have hA := hL (l3 s.a) (by simp [b3])
      have hB := hL (l3 s.b) (by simp [b3])
      have hC := hL (l3 s.c) (by simp [b3])
      rw [dotL3] at hA hB hC
      have sdet := hs.det_ne h0
      rw [reduced_eq3 h0 hs hT hA hB hC, goes_gl3 sdet (inS3 hT)]
      have := gl_map (togL (b3 s)) (Sq67.goesOn (b3 s)) 3 ts []
      rw [List.map_nil] at this
      rw [this]
      congr 1
      refine gl_congr' _ _ (fun v => v.length = 3) 3 (fun l hl0 hll hln => ?_) ts [] up.len (fun v hv => by simp at hv)
      rw [cont3 hl0 hll hln, one_nat]
      unfold Sq67.goesOn
      rw [coeffs_tog3 sdet hll]; rfl
/-- **the shortest** -/
theorem shortP_eq {h us : List (List Int)} (ok : HOk h) (hs : ShortP (Sq67.reduced h) us) : us = Sq67.shortest h ∧ (∃ v l, us = v :: l ∧ (∀ u ∈ us, u.length = h.length)) ∧ us.length ≤ 1000000 := by
  obtain ⟨L, ns, v, l, hT, rfl, rfl, hc, _⟩ := hs
  obtain ⟨sok, same, hlen⟩ := red_ok ok
  have key : ∃ w r, (v :: l).filter (fun u => Sq67.norm u == Sq67.norm v) = w :: r := ⟨v, l.filter (fun u => Sq67.norm u == Sq67.norm v), by rw [List.filter_cons, if_pos (by simp)]⟩
  have hul : ∀ u ∈ (v :: l).filter (fun u => Sq67.norm u == Sq67.norm v), u.length = h.length := fun u hu => by
    have hm := (List.mem_filter.mp hu).1
    obtain ⟨⟨⟨t, _, rfl⟩, _⟩, _⟩ := (hT.2 u).mp hm
    obtain ⟨n1, n2, n3, n4⟩ := nrm_shape sok.sh.dm
    rw [← hlen]
    exact tog_len n3 (fun z => by rw [z] at n4; simp at n4)
  refine ⟨?_, ?_, Nat.le_trans (List.length_filter_le _ _) hc⟩
  · cases ok with
    | two m h0 hl =>
      obtain ⟨r, e, hsm, hk⟩ := reduced2 h0
      rw [e] at hT
      have hT' : Told (In2 m L) (v :: l) := (hT.congr (fwdTo2 r L)).congr fun u => (hsm.In L u).symm
      exact (shortest_eq hT' (near2 m h0) (near_ne2 h0 (near2 m h0) (longest2 m).1) rfl).symm
    | three m h0 hl =>
      obtain ⟨r, e, hsm, hk⟩ := reduced3 h0
      rw [e] at hT
      have hT' : Told (In3 m L) (v :: l) := (hT.congr (fwdTo3 r L)).congr fun u => (hsm.In L u).symm
      exact (shortest_eq hT' (near3 m h0) (near_ne3 h0 (near3 m h0) (longest3 m).1) rfl).symm
  · obtain ⟨w, r, e⟩ := key
    exact ⟨w, r, e, hul⟩
theorem gcd_zero : ∀ {l : List Int}, Sq67.gcdAll l = 0 ↔ ∀ x ∈ l, x = 0 := by
  have key : ∀ (l : List Int) (g : Nat), l.foldl (fun g x => Nat.gcd g x.natAbs) g = 0 ↔ g = 0 ∧ ∀ x ∈ l, x = 0 := by
    intro l
    induction l with
    | nil => intro g; simp
    | cons a l ih =>
      intro g
      rw [List.foldl_cons, ih, Nat.gcd_eq_zero_iff]
      simp only [Int.natAbs_eq_zero, List.mem_cons, forall_eq_or_imp]
      exact ⟨fun ⟨⟨a, b⟩, c⟩ => ⟨a, b, c⟩, fun ⟨a, b, c⟩ => ⟨⟨a, b⟩, c⟩⟩
  intro l
  have := key l 0
  unfold Sq67.gcdAll
  rw [this]; simp
theorem apart_gcd (n : Nat) (l : List (List Int)) : Sq67.apart n l = (Sq67.gcdAll (Sq67.minors n l) != 0) := by
  unfold Sq67.apart
  rw [Bool.eq_iff_iff]
  simp only [List.any_eq_true, bne_iff_ne]
  rw [Ne, gcd_zero]
  constructor
  · rintro ⟨x, hx, h⟩ hall; exact h (hall x hx)
  · intro h
    apply Classical.byContradiction
    intro hno
    apply h
    intro x hx
    apply Classical.byContradiction
    intro hx0
    exact hno ⟨x, hx, hx0⟩
theorem l3_zero {k : V3} : (∀ x ∈ l3 k, x = 0) ↔ k = V3.zero := by
  constructor
  · intro h
    exact V3.ext' (h k.x (by simp [l3])) (h k.y (by simp [l3])) (h k.z (by simp [l3]))
  · rintro rfl x hx
    simp only [l3, V3.zero, List.mem_cons, List.not_mem_nil, or_false] at hx
    omega
theorem l2_zero {k : V2} : (∀ x ∈ l2 k, x = 0) ↔ k = V2.zero := by
  constructor
  · intro h
    exact V2.ext' (h k.x (by simp [l2])) (h k.y (by simp [l2]))
  · rintro rfl x hx
    simp only [l2, V2.zero, List.mem_cons, List.not_mem_nil, or_false] at hx
    omega
theorem apart_cont3 {m : B3} (h0 : m.det ≠ 0) {l : List (List Int)} (hl0 : l ≠ []) (hl : ∀ v ∈ l, v.length = 3) (hn : l.length ≤ 3) : Sq67.apart 3 (l.map (togL (b3 m))) = gNe (contF l) := by
  rw [Bool.eq_iff_iff]
  match l, hl0, hl, hn with
  | [p], _, hl, _ =>
    obtain ⟨a, rfl⟩ := len3 (hl p (by simp))
    rw [contF1, ne_nat, List.map_cons, List.map_nil, tog3, apart31 m h0, bne_iff_ne, Ne, Ne, gcd_zero, l3_zero]
  | [p, q], _, hl, _ =>
    obtain ⟨a, rfl⟩ := len3 (hl p (by simp))
    obtain ⟨b, rfl⟩ := len3 (hl q (by simp))
    rw [contF32, ne_nat, List.map_cons, List.map_cons, List.map_nil, tog3, tog3, apart32 m h0, bne_iff_ne, Ne, Ne, gcd_zero, crossL, l3_zero]
  | [p, q, r], _, hl, _ =>
    obtain ⟨a, rfl⟩ := len3 (hl p (by simp))
    obtain ⟨b, rfl⟩ := len3 (hl q (by simp))
    obtain ⟨c, rfl⟩ := len3 (hl r (by simp))
    rw [contF33, ne_nat, List.map_cons, List.map_cons, List.map_cons, List.map_nil, tog3, tog3, tog3, apart33 m h0, bne_iff_ne, det_swap]
    simp only [Ne, Int.natAbs_eq_zero]
theorem apart_cont2 {m : B2} (h0 : m.det ≠ 0) {l : List (List Int)} (hl0 : l ≠ []) (hl : ∀ v ∈ l, v.length = 2) (hn : l.length ≤ 2) : Sq67.apart 2 (l.map (togL (b2 m))) = gNe (contF l) := by
  rw [Bool.eq_iff_iff]
  match l, hl0, hl, hn with
  | [p], _, hl, _ =>
    obtain ⟨a, rfl⟩ := len2 (hl p (by simp))
    rw [contF1, ne_nat, List.map_cons, List.map_nil, tog2, apart21 m h0, bne_iff_ne, Ne, Ne, gcd_zero, l2_zero]
  | [p, q], _, hl, _ =>
    obtain ⟨a, rfl⟩ := len2 (hl p (by simp))
    obtain ⟨b, rfl⟩ := len2 (hl q (by simp))
    rw [contF22, ne_nat, List.map_cons, List.map_cons, List.map_nil, tog2, tog2, apart22 m h0, bne_iff_ne]
    simp only [Ne, Int.natAbs_eq_zero]
/-- **how long in different ways** -/
theorem minP_eq {h : List (List Int)} {ns : List Int} (ok : HOk h) (hm : MinP (Sq67.reduced h) ns) : ns = Sq67.minima h ∧ ns.length = h.length := by
  obtain ⟨L, ts, up, hL, rfl⟩ := hm
  cases ok with
  | two m h0 hl =>
    obtain ⟨r, e, hs, hk⟩ := reduced2 h0
    rw [e] at up hL ⊢
    have hT := told2 up
    have hA := hL (l2 r.a) (by simp [b2])
    have hB := hL (l2 r.b) (by simp [b2])
    rw [dotL2] at hA hB
    have rdet := hs.det_ne h0
    have eq : (gl (Sq67.apart 2) 2 (ts.map (togL (b2 r))) []) = (gl (fun l => gNe (contF l)) 2 ts []).map (togL (b2 r)) := by
      have := gl_map (togL (b2 r)) (Sq67.apart 2) 2 ts []
      rw [List.map_nil] at this
      rw [this]
      congr 1
      exact gl_congr' _ _ (fun v => v.length = 2) 2 (fun l hl0 hll hln => apart_cont2 rdet hl0 hll hln) ts [] up.len (fun v hv => by simp at hv)
    have e2 : Sq67.minima (b2 m) = (gl (fun l => gNe (contF l)) 2 ts []).map fun t => dotL (togL (b2 r) t) (togL (b2 r) t) := by
      rw [minima_eq2 h0 hs hT hA hB, eq, List.map_map]; rfl
    refine ⟨e2.symm, ?_⟩
    have := apart_len2 rdet hT hA hB
    rw [apart_gl2 rdet (inS2 hT), eq, List.length_map] at this
    rw [List.length_map]; exact this
  | three m h0 hl =>
    obtain ⟨r, e, hs, hk⟩ := reduced3 h0
    rw [e] at up hL ⊢
    have hT := told3 up
    have hA := hL (l3 r.a) (by simp [b3])
    have hB := hL (l3 r.b) (by simp [b3])
    have hC := hL (l3 r.c) (by simp [b3])
    rw [dotL3] at hA hB hC
    have rdet := hs.det_ne h0
    have eq : (gl (Sq67.apart 3) 3 (ts.map (togL (b3 r))) []) = (gl (fun l => gNe (contF l)) 3 ts []).map (togL (b3 r)) := by
      have := gl_map (togL (b3 r)) (Sq67.apart 3) 3 ts []
      rw [List.map_nil] at this
      rw [this]
      congr 1
      exact gl_congr' _ _ (fun v => v.length = 3) 3 (fun l hl0 hll hln => apart_cont3 rdet hl0 hll hln) ts [] up.len (fun v hv => by simp at hv)
    have e2 : Sq67.minima (b3 m) = (gl (fun l => gNe (contF l)) 3 ts []).map fun t => dotL (togL (b3 r) t) (togL (b3 r) t) := by
      rw [minima_eq3 h0 hs hT hA hB hC, eq, List.map_map]; rfl
    refine ⟨e2.symm, ?_⟩
    have := apart_len3 rdet hT hA hB hC
    rw [apart_gl3 rdet (inS3 hT), eq, List.length_map] at this
    rw [List.length_map]; exact this
end Np
end
section
set_option maxRecDepth 100000
set_option maxHeartbeats 2000000
namespace Np
open PySem PySem.Spec PyProof.Rows L2 LamX NdefX
/-! ### has -/
theorem fmod_iff {a d : Int} : a.fmod d = 0 ↔ a % d = 0 :=
  ⟨fun h => Int.emod_eq_zero_of_dvd (Int.dvd_of_fmod_eq_zero h), fun h => Int.fmod_eq_zero_of_dvd (Int.dvd_of_emod_eq_zero h)⟩
theorem prod_shares3 (m : B3) (v : V3) : prodL (b3 m) (l3 v) = Sq67.shares (b3 m) (l3 v) := by
  rw [shares3]
  unfold prodL
  rw [nrmL3, List.map_cons, List.map_cons, List.map_cons, List.map_nil, crossL, crossL, crossL, dotL3, dotL3, dotL3]
  have c : ∀ u w : V3, V3.dot u w = V3.dot w u := fun u w => by simp only [V3.dot]; grind
  rw [c _ v, c _ v, c _ v]
theorem prod_shares2 (m : B2) (v : V2) : prodL (b2 m) (l2 v) = Sq67.shares (b2 m) (l2 v) := by
  rw [shares2]
  unfold prodL
  rw [nrmL2', List.map_cons, List.map_cons, List.map_nil, dotL2, dotL2]
  simp only [V2.dot, V2.crs]
  congr 1
  · grind
  · congr 1; grind
theorem detL_of3 (m : B3) : detL (b3 m) = Sq67.detOf (b3 m) := by rw [detL3, det3]
theorem detL_of2 (m : B2) : detL (b2 m) = Sq67.detOf (b2 m) := by rw [detL2, det2]
theorem taken_of {ps : List (List Int)} {v : List Int} (hp : prodL ps v = Sq67.shares ps v) (hd : detL ps = Sq67.detOf ps) : takenV ps v = if Sq67.has ps v = true then some (Sq67.coefficients ps v) else none := by
  unfold takenV Sq67.has Sq67.coefficients
  rw [hp, hd]
  by_cases h : ((Sq67.shares ps v).all fun k => k % Sq67.detOf ps == 0) = true
  · rw [if_pos h, if_neg]
    · congr 1
      apply List.map_congr_left
      intro x hx
      have := List.all_eq_true.mp h x hx
      simp only [beq_iff_eq] at this
      exact Int.fdiv_eq_ediv_of_dvd (Int.dvd_of_emod_eq_zero this)
    · intro hc
      obtain ⟨x, hx, hne⟩ := List.any_eq_true.mp hc
      have := List.all_eq_true.mp h x hx
      simp only [beq_iff_eq] at this
      simp only [decide_eq_true_eq] at hne
      exact hne (fmod_iff.mpr this)
  · rw [if_neg h, if_pos]
    apply Classical.byContradiction
    intro hno
    apply h
    rw [List.all_eq_true]
    intro x hx
    simp only [beq_iff_eq]
    rw [← fmod_iff]
    apply Classical.byContradiction
    intro hne
    exact hno (List.any_eq_true.mpr ⟨x, hx, by simpa using hne⟩)
theorem taken_eq {h : List (List Int)} (ok : HOk h) {v : List Int} (hv : v.length = h.length) : takenV (Sq67.reduced h) v = if Sq67.has h v = true then some (Sq67.coefficients (Sq67.reduced h) v) else none := by
  cases ok with
  | two m h0 hl =>
    obtain ⟨r, e, hs, hk⟩ := reduced2 h0
    obtain ⟨u, rfl⟩ := len2 (v := v) hv
    rw [e, taken_of (prod_shares2 r u) (detL_of2 r), has_same2 h0 hs]
  | three m h0 hl =>
    obtain ⟨r, e, hs, hk⟩ := reduced3 h0
    obtain ⟨u, rfl⟩ := len3 (v := v) hv
    rw [e, taken_of (prod_shares3 r u) (detL_of3 r), has_same3 h0 hs]
/-! ### same -/
theorem natAbs_one {a b : Int} (hb : b ≠ 0) (h : b.natAbs = (b * a).natAbs) : a = 1 ∨ a = -1 := by
  rw [Int.natAbs_mul] at h
  have h1 : b.natAbs * 1 = b.natAbs * a.natAbs := by omega
  have := Nat.eq_of_mul_eq_mul_left (by omega) h1
  omega
theorem lead_same3 {r s : B3} (hr : r.det ≠ 0) : ((∀ q ∈ b3 s, Sq67.has (b3 r) q = true) ∧ r.det.natAbs = s.det.natAbs) ↔ Same3 r s := by
  constructor
  · rintro ⟨h, hd⟩
    obtain ⟨ka, ea⟩ := (has3 r hr s.a).mp (h _ (by simp [b3]))
    obtain ⟨kb, eb⟩ := (has3 r hr s.b).mp (h _ (by simp [b3]))
    obtain ⟨kc, ec⟩ := (has3 r hr s.c).mp (h _ (by simp [b3]))
    have es : s = comp3 r ⟨ka, kb, kc⟩ := b3_mk ea eb ec
    have := comp3_det r ⟨ka, kb, kc⟩
    rw [← es] at this
    rw [this] at hd
    rw [es]
    exact same_comp3 r _ (natAbs_one hr hd)
  · intro h
    have sd := h.det_ne hr
    obtain ⟨U, V, h1, h2, _, _, hU⟩ := h.inv hr
    refine ⟨fun q hq => ?_, ?_⟩
    · have key : ∀ k, Sq67.has (b3 r) (l3 (s.pt k)) = true := fun k => (has3 r hr _).mpr ⟨V.pt k, h2 k⟩
      simp only [b3, List.mem_cons, List.not_mem_nil, or_false] at hq
      rcases hq with rfl | rfl | rfl
      · have := key ⟨1, 0, 0⟩; rwa [(pts3 s).1] at this
      · have := key ⟨0, 1, 0⟩; rwa [(pts3 s).2.1] at this
      · have := key ⟨0, 0, 1⟩; rwa [(pts3 s).2.2] at this
    · have er : r = comp3 s U := b3_ext fun k => by rw [comp3_pt]; exact h1 k
      have := comp3_det s U
      rw [← er] at this
      rw [this, Int.natAbs_mul]
      rcases hU with e | e <;> rw [e] <;> simp
theorem lead_same2 {r s : B2} (hr : r.det ≠ 0) : ((∀ q ∈ b2 s, Sq67.has (b2 r) q = true) ∧ r.det.natAbs = s.det.natAbs) ↔ Same2 r s := by
  constructor
  · rintro ⟨h, hd⟩
    obtain ⟨ka, ea⟩ := (has2 r hr s.a).mp (h _ (by simp [b2]))
    obtain ⟨kb, eb⟩ := (has2 r hr s.b).mp (h _ (by simp [b2]))
    have es : s = comp2 r ⟨ka, kb⟩ := b2_mk ea eb
    have := comp2_det r ⟨ka, kb⟩
    rw [← es] at this
    rw [this] at hd
    rw [es]
    exact same_comp2 r _ (natAbs_one hr hd)
  · intro h
    have sd := h.det_ne hr
    obtain ⟨U, V, h1, h2, _, _, hU⟩ := h.inv hr
    refine ⟨fun q hq => ?_, ?_⟩
    · have key : ∀ k, Sq67.has (b2 r) (l2 (s.pt k)) = true := fun k => (has2 r hr _).mpr ⟨V.pt k, h2 k⟩
      simp only [b2, List.mem_cons, List.not_mem_nil, or_false] at hq
      rcases hq with rfl | rfl
      · have := key ⟨1, 0⟩; rwa [(pts2 s).1] at this
      · have := key ⟨0, 1⟩; rwa [(pts2 s).2] at this
    · have er : r = comp2 s U := b2_ext fun k => by rw [comp2_pt]; exact h1 k
      have := comp2_det s U
      rw [← er] at this
      rw [this, Int.natAbs_mul]
      rcases hU with e | e <;> rw [e] <;> simp
theorem leadB_iff {ps qs : List (List Int)} (ht : ∀ q ∈ qs, takenV ps q = if Sq67.has ps q = true then some (Sq67.coefficients ps q) else none) : leadB ps qs = true ↔ (∀ q ∈ qs, Sq67.has ps q = true) ∧ (detL ps).natAbs = (detL qs).natAbs := by
  unfold leadB
  by_cases h : qs.any (fun q => (takenV ps q).isNone) = true
  · rw [if_pos h]
    obtain ⟨q, hq, hn⟩ := List.any_eq_true.mp h
    refine ⟨fun z => (by cases z), fun ⟨z, _⟩ => ?_⟩
    rw [ht q hq, if_pos (z q hq)] at hn
    cases hn
  · rw [if_neg h, decide_eq_true_eq]
    refine ⟨fun z => ⟨fun q hq => ?_, z⟩, fun z => z.2⟩
    apply Classical.byContradiction
    intro hno
    exact h (List.any_eq_true.mpr ⟨q, hq, by rw [ht q hq, if_neg hno]; rfl⟩)
theorem lead_eq {h qs : List (List Int)} (ok : HOk h) (hd : Dm qs) (hl : qs.length = h.length) (h0 : detL qs ≠ 0) : leadB (Sq67.reduced h) qs = (qs.all (Sq67.has h) && h.all (Sq67.has qs)) := by
  rw [Bool.eq_iff_iff]
  cases ok with
  | two m hm _ =>
    rcases hd with ⟨s, rfl⟩ | ⟨s, rfl⟩
    · obtain ⟨r, e, hs, hk⟩ := reduced2 hm
      have rd := hs.det_ne hm
      rw [detL2] at h0
      rw [e, same_iff2 hm h0, leadB_iff (fun q hq => by
        obtain ⟨u, rfl⟩ : ∃ u, q = l2 u := by
          simp only [b2, List.mem_cons, List.not_mem_nil, or_false] at hq
          rcases hq with rfl | rfl
          · exact ⟨_, rfl⟩
          · exact ⟨_, rfl⟩
        exact taken_of (prod_shares2 r u) (detL_of2 r)), detL2, detL2, lead_same2 rd]
      exact ⟨fun h => hs.trans h, fun h => hs.symm.trans h⟩
    · simp [b2, b3] at hl
  | three m hm _ =>
    rcases hd with ⟨s, rfl⟩ | ⟨s, rfl⟩
    · simp [b2, b3] at hl
    · obtain ⟨r, e, hs, hk⟩ := reduced3 hm
      have rd := hs.det_ne hm
      rw [detL3] at h0
      rw [e, same_iff3 hm h0, leadB_iff (fun q hq => by
        obtain ⟨u, rfl⟩ : ∃ u, q = l3 u := by
          simp only [b3, List.mem_cons, List.not_mem_nil, or_false] at hq
          rcases hq with rfl | rfl | rfl
          · exact ⟨_, rfl⟩
          · exact ⟨_, rfl⟩
          · exact ⟨_, rfl⟩
        exact taken_of (prod_shares3 r u) (detL_of3 r)), detL3, detL3, lead_same3 rd]
      exact ⟨fun h => hs.trans h, fun h => hs.symm.trans h⟩
/-! ### nearest, walls, judge -/
theorem near_eq {h us : List (List Int)} {t : List Int} {q : Nat} (ok : HOk h) (ht : t.length = h.length) (hq : 0 < q) (hT : Told (Nst (Sq67.reduced h) t q) us) : us = Sq67.nearest h q t := by
  cases ok with
  | two m hm _ =>
    obtain ⟨r, e, hs, hk⟩ := reduced2 hm
    obtain ⟨u, rfl⟩ := len2 (v := t) ht
    rw [e] at hT
    refine (hT.congr fun v => ?_).unique (nearest2 hm hq u)
    rw [nst2, ← hs.S v]
    exact ⟨fun ⟨a, b⟩ => ⟨a, fun w hw => b w ((hs.S w).mp hw)⟩, fun ⟨a, b⟩ => ⟨a, fun w hw => b w ((hs.S w).mpr hw)⟩⟩
  | three m hm _ =>
    obtain ⟨r, e, hs, hk⟩ := reduced3 hm
    obtain ⟨u, rfl⟩ := len3 (v := t) ht
    rw [e] at hT
    refine (hT.congr fun v => ?_).unique (nearest3 hm hq u)
    rw [nst3, ← hs.S v]
    exact ⟨fun ⟨a, b⟩ => ⟨a, fun w hw => b w ((hs.S w).mp hw)⟩, fun ⟨a, b⟩ => ⟨a, fun w hw => b w ((hs.S w).mpr hw)⟩⟩
theorem walls_of {h us : List (List Int)} (ok : HOk h) (hT : WallsP (Sq67.reduced h) us) : us = Sq67.walls h := by
  have hT := hT.1
  cases ok with
  | two m hm _ =>
    obtain ⟨r, e, hs, hk⟩ := reduced2 hm
    rw [e] at hT
    refine (hT.congr fun v => ?_).unique (walls2 hm)
    show (∃ t, Bits 2 t ∧ WallIn (b2 r) t v) ↔ _
    rw [wall_iff2 (hs.det_ne hm)]
    unfold Wall2
    rw [← hs.S v, Lone.congr (fun w => (hs.S w).symm) v]
  | three m hm _ =>
    obtain ⟨r, e, hs, hk⟩ := reduced3 hm
    rw [e] at hT
    refine (hT.congr fun v => ?_).unique (walls3 hm)
    show (∃ t, Bits 3 t ∧ WallIn (b3 r) t v) ↔ _
    rw [wall_iff3 (hs.det_ne hm)]
    unfold Wall3
    rw [← hs.S v, Lone.congr (fun w => (hs.S w).symm) v]
theorem dist3 (t u : V3) : V3.nrm (df3 2 t u) = V3.nrm t - 4 * (V3.dot t u - V3.nrm u) := by
  simp only [V3.nrm, V3.dot, df3, V3.add, V3.smul]; grind
theorem dist2 (t u : V2) : V2.nrm (df2 2 t u) = V2.nrm t - 4 * (V2.dot t u - V2.nrm u) := by
  simp only [V2.nrm, V2.dot, df2, V2.add, V2.smul]; grind
theorem judge_eq {h us : List (List Int)} {t : List Int} (ok : HOk h) (ht : t.length = h.length) (hT : Told (Nst (Sq67.reduced h) t 2) us) :
    (List.replicate h.length 0 ∈ us) ↔ ((Sq67.walls h).all fun w => decide (Sq67.dot t w ≤ Sq67.norm w) && decide (-(Sq67.dot t w) ≤ Sq67.norm w)) = true := by
  rw [hT.2]
  cases ok with
  | two m hm _ =>
    obtain ⟨r, e, hs, hk⟩ := reduced2 hm
    obtain ⟨u, rfl⟩ := len2 (v := t) ht
    rw [e, judge2 hm]
    show Nst (b2 r) (l2 u) 2 (l2 V2.zero) ↔ _
    have d0 : V2.nrm (df2 2 u V2.zero) = V2.nrm u := by rw [dist2]; simp only [V2.nrm, V2.dot, V2.zero]; grind
    constructor
    · rintro ⟨_, hn⟩ k
      have := hn (l2 (m.pt k)) ((led2 r _).mpr ((hs.S _).mp ⟨k, rfl⟩))
      rw [farL2, farL2, d0, dist2] at this
      omega
    · intro hn
      refine ⟨(led2 r _).mpr ⟨V2.zero, by congr 1; simp [B2.pt, V2.zero]⟩, fun w hw => ?_⟩
      obtain ⟨k, rfl⟩ := (hs.S _).mpr ((led2 r w).mp hw)
      have := hn k
      rw [farL2, farL2, d0, dist2]
      omega
  | three m hm _ =>
    obtain ⟨r, e, hs, hk⟩ := reduced3 hm
    obtain ⟨u, rfl⟩ := len3 (v := t) ht
    rw [e, judge3 hm]
    show Nst (b3 r) (l3 u) 2 (l3 V3.zero) ↔ _
    have d0 : V3.nrm (df3 2 u V3.zero) = V3.nrm u := by rw [dist3]; simp only [V3.nrm, V3.dot, V3.zero]; grind
    constructor
    · rintro ⟨_, hn⟩ k
      have := hn (l3 (m.pt k)) ((led3 r _).mpr ((hs.S _).mp ⟨k, rfl⟩))
      rw [farL3, farL3, d0, dist3] at this
      omega
    · intro hn
      refine ⟨(led3 r _).mpr ⟨V3.zero, by congr 1; simp [B3.pt, V3.zero]⟩, fun w hw => ?_⟩
      obtain ⟨k, rfl⟩ := (hs.S _).mpr ((led3 r w).mp hw)
      have := hn k
      rw [farL3, farL3, d0, dist3]
      omega
theorem far_of {t v : List Int} {q : Nat} {h : List (List Int)} (ok : HOk h) (ht : t.length = h.length) (hv : v.length = h.length) : farL t q v = Sq67.far q t v := by
  cases ok with
  | two m hm _ =>
    obtain ⟨a, rfl⟩ := len2 (v := t) ht
    obtain ⟨b, rfl⟩ := len2 (v := v) hv
    rw [farL2, far2]
  | three m hm _ =>
    obtain ⟨a, rfl⟩ := len3 (v := t) ht
    obtain ⟨b, rfl⟩ := len3 (v := v) hv
    rw [farL3, far3]
theorem fresh_ok : HOk Sq67.fresh := .two ⟨⟨1, 0⟩, ⟨0, 1⟩⟩ (by decide) (by decide)
theorem fresh_red : Sq67.reduced Sq67.fresh = [[1, 0], [0, 1]] := by decide +kernel
end Np
end
section
set_option maxRecDepth 100000
set_option maxHeartbeats 2000000
namespace Np
open PySem PySem.Spec PyProof.Rows L2 LamX NdefX
/-! ### what is told, and its refusals -/
def nats (xs : List Int) : List Nat := xs.map Int.toNat
def Nums (xs : List Int) : Prop := xs.length ≤ 1024 ∧ ∀ x ∈ xs, 0 ≤ x
theorem told_nats {xs ys : List Int} (hx : ∀ x ∈ xs, 0 ≤ x) (hy : ∀ y ∈ ys, 0 ≤ y) : ((nats xs).zip (nats ys)).map (fun x => (x.1 : Int) - x.2) = toldL xs ys := by
  induction xs generalizing ys with
  | nil => simp [nats, toldL]
  | cons x xs ih =>
    cases ys with
    | nil => simp [nats, toldL]
    | cons y ys =>
      have h1 := hx x (by simp)
      have h2 := hy y (by simp)
      have := ih (ys := ys) (fun z hz => hx z (by simp [hz])) (fun z hz => hy z (by simp [hz]))
      simp only [nats, toldL, List.map_cons, List.zip_cons_cons] at this ⊢
      rw [this]
      congr 1
      omega
theorem given_eq {xs ys : List Int} (hx : Nums xs) (hy : Nums ys) : Sq67.given (nats xs) (nats ys) = if xs.length ≠ ys.length then none else some (toldL xs ys) := by
  unfold Sq67.given
  rw [told_nats hx.2 hy.2]
  simp [nats]
theorem within_iff (k : Nat) (v : List Int) : Sq67.within k v = !(v.any fun x => decide ((k : Int) < if x < 0 then -x else x)) := by
  unfold Sq67.within
  rw [Bool.eq_iff_iff]
  simp only [List.all_eq_true, decide_eq_true_eq, Bool.not_eq_true', List.any_eq_false]
  constructor
  · intro h x hx
    have := h x hx
    split <;> omega
  · intro h x hx
    have := h x hx
    split at this <;> omega
theorem told_len {xs ys : List Int} : (toldL xs ys).length = min xs.length ys.length := by simp [toldL]
theorem point_eq {h : List (List Int)} {xs ys : List Int} (hx : Nums xs) (hy : Nums ys) (k : Nat) (f : List Int → Sq67.Out) :
    Sq67.House.point h k (nats xs) (nats ys) f = if refusalL xs ys h.length k ≠ 0 then (h, Sq67.says (refusalL xs ys h.length k)) else (h, f (toldL xs ys)) := by
  unfold Sq67.House.point
  rw [given_eq hx hy]
  by_cases h1 : (xs.length : Int) ≠ h.length ∨ (ys.length : Int) ≠ h.length
  · have e : refusalL xs ys h.length k = -3 := by unfold refusalL; rw [if_pos h1]
    rw [e, if_pos (show (-3 : Int) ≠ 0 by decide)]
    by_cases h2 : xs.length ≠ ys.length
    · rw [if_pos h2]
    · rw [if_neg h2]
      show (if (toldL xs ys).length ≠ h.length then _ else _) = _
      rw [if_pos (by rw [told_len]; omega)]
  · have h2 : ¬ xs.length ≠ ys.length := by omega
    rw [if_neg h2]
    show (if (toldL xs ys).length ≠ h.length then _ else _) = _
    rw [if_neg (by rw [told_len]; omega), within_iff]
    by_cases h3 : (toldL xs ys).any (fun x => decide ((k : Int) < if x < 0 then -x else x)) = true
    · have e : refusalL xs ys h.length k = -1 := by unfold refusalL; rw [if_neg h1, if_pos h3]
      rw [e, h3, if_pos (by decide), if_pos (by decide)]
    · have e : refusalL xs ys h.length k = 0 := by unfold refusalL; rw [if_neg h1, if_neg h3]
      have h4 : (toldL xs ys).any (fun x => decide ((k : Int) < if x < 0 then -x else x)) = false := by simpa using h3
      rw [e, h4, if_neg (by decide), if_neg (by decide)]
theorem detL_det {l : List (List Int)} (hd : Dm l) : detL l = Sq67.detOf l := by
  rcases hd with ⟨m, rfl⟩ | ⟨m, rfl⟩
  · exact detL_of2 m
  · exact detL_of3 m
theorem steps_eq {xs ys : List Int} (hx : Nums xs) (hy : Nums ys) {n : Nat} (hn : n = 2 ∨ n = 3) :
    Sq67.House.steps n (nats xs) (nats ys) = if refStepsL xs ys n ≠ 0 then .error (refStepsL xs ys n) else .ok (Sq67.rowsOf n n (toldL xs ys)) := by
  unfold Sq67.House.steps
  rw [if_neg (by omega), given_eq hx hy]
  have en : ((n : Int) * n) = ((n * n : Nat) : Int) := (Int.natCast_mul n n).symm
  by_cases h1 : (xs.length : Int) ≠ (n * n : Nat) ∨ (ys.length : Int) ≠ (n * n : Nat)
  · have e : refusalL xs ys ((n : Int) * n) 9 = -3 := by unfold refusalL; rw [en, if_pos h1]
    have e' : refStepsL xs ys n = -3 := by unfold refStepsL; rw [e, if_neg (by omega)]
    rw [e', if_pos (show (-3 : Int) ≠ 0 by decide)]
    by_cases h2 : xs.length ≠ ys.length
    · rw [if_pos h2]
    · rw [if_neg h2]
      show (if (toldL xs ys).length ≠ n * n then _ else _) = _
      rw [if_pos (by rw [told_len]; omega)]
  · have h2 : ¬ xs.length ≠ ys.length := by omega
    have hl : (toldL xs ys).length = n * n := by rw [told_len]; omega
    rw [if_neg h2]
    show (if (toldL xs ys).length ≠ n * n then _ else _) = _
    rw [if_neg (by omega), within_iff]
    by_cases h3 : (toldL xs ys).any (fun x => decide ((Sq67.LENGTH : Int) < if x < 0 then -x else x)) = true
    · have e : refusalL xs ys ((n : Int) * n) 9 = -1 := by unfold refusalL; rw [en, if_neg h1]; exact if_pos h3
      have e' : refStepsL xs ys n = -1 := by unfold refStepsL; rw [e, if_neg (by omega)]
      rw [e', h3, if_pos (by decide), if_pos (by decide)]
    · have e : refusalL xs ys ((n : Int) * n) 9 = 0 := by unfold refusalL; rw [en, if_neg h1]; exact if_neg h3
      have h4 : (toldL xs ys).any (fun x => decide ((Sq67.LENGTH : Int) < if x < 0 then -x else x)) = false := by simpa using h3
      rw [h4, if_neg (by decide)]
      have hd := detL_det (rowsOf_dm hn hl)
      show (if Sq67.detOf (Sq67.rowsOf n n (toldL xs ys)) = 0 then _ else _) = _
      rw [← hd]
      by_cases h5 : detL (Sq67.rowsOf n n (toldL xs ys)) = 0
      · have e' : refStepsL xs ys n = -4 := by unfold refStepsL; rw [if_pos ⟨e, h5⟩]
        rw [e', if_pos h5, if_pos (by decide)]
      · have e' : refStepsL xs ys n = 0 := by unfold refStepsL; rw [if_neg (fun z => h5 z.2), e]
        rw [e', if_neg h5, if_neg (by decide)]
theorem refSteps_zero {xs ys : List Int} {n : Nat} (hn : n = 2 ∨ n = 3) (h : refStepsL xs ys n = 0) : (toldL xs ys).length = n * n ∧ Bd 9 (toldL xs ys) ∧ detL (Sq67.rowsOf n n (toldL xs ys)) ≠ 0 := by
  unfold refStepsL at h
  split at h
  · omega
  · rename_i h1
    obtain ⟨_, _, h2, h3⟩ := refusal_sq h
    exact ⟨h2, h3, fun z => h1 ⟨h, z⟩⟩
theorem dot_nine {p : List Int} (hl : p.length ≤ 3) (hb : Bd 9 p) : dotL p p ≤ 243 := by
  have one : ∀ x ∈ p, x * x ≤ 81 := fun x hx => by
    have h := hb x hx
    exact sq_le_of (m := 9) h.1 h.2
  match p, hl with
  | [], _ => simp [dotL]
  | [a], _ => have := one a (by simp); simp [dotL]; omega
  | [a, b], _ => have := one a (by simp); have := one b (by simp); simp [dotL]; omega
  | [a, b, c], _ => have := one a (by simp); have := one b (by simp); have := one c (by simp); simp [dotL]; omega
/-- what begin keeps is a row of steps -/
theorem begun {xs ys : List Int} {n : Nat} (hn : n = 2 ∨ n = 3) (h : refStepsL xs ys n = 0) : HOk (Sq67.rowsOf n n (toldL xs ys)) ∧ Dm (Sq67.rowsOf n n (toldL xs ys)) ∧ detL (Sq67.rowsOf n n (toldL xs ys)) ≠ 0 ∧ (∀ p ∈ Sq67.rowsOf n n (toldL xs ys), dotL p p ≤ 243) ∧ BdP lim (Sq67.rowsOf n n (toldL xs ys)) ∧ (Sq67.rowsOf n n (toldL xs ys)).length = n := by
  obtain ⟨h1, h2, h3⟩ := refSteps_zero hn h
  have dm := rowsOf_dm hn h1
  have hb : ∀ p ∈ Sq67.rowsOf n n (toldL xs ys), Bd 9 p := fun p hp x hx => h2 x (rowsOf_mem hn h1 p hp x hx)
  obtain ⟨d1, d2⟩ := dm_len dm
  have hle : ∀ p ∈ Sq67.rowsOf n n (toldL xs ys), dotL p p ≤ 243 := fun p hp => dot_nine (by rw [d1 p hp]; omega) (hb p hp)
  refine ⟨?_, dm, h3, hle, fun p hp => Bd.mono (by decide) (hb p hp), (rowsOf_get hn h1).1⟩
  rcases dm with ⟨m, e⟩ | ⟨m, e⟩
  · rw [e] at hle h3 ⊢
    rw [detL2] at h3
    exact .two m h3 hle
  · rw [e] at hle h3 ⊢
    rw [detL3] at h3
    exact .three m h3 hle
theorem HOk.len {h : List (List Int)} (ok : HOk h) : h.length = 2 ∨ h.length = 3 := by
  cases ok with
  | two m _ _ => exact .inl rfl
  | three m _ _ => exact .inr rfl
/-- what is answered -/
def ansOf (h : List (List Int)) (c : Sq67.Call) : List Int := (Sq67.House.step h c).2.value :: (Sq67.House.step h c).2.out
end Np
end
section
set_option maxRecDepth 100000
set_option maxHeartbeats 2000000
namespace Np
open PySem PySem.Spec PyProof.Rows L2 LamX NdefX
/-! ### the object -/
abbrev sRow (j : Nat) : Stmt := inClass (top 43) j
/-- all but the object at o and the tables is kept -/
structure KpX (o : Addr) (T : List (Addr × Str)) (H H' : Hp) : Prop where
  ext : ∀ b u, b ≠ o → H b = some u → (∀ ps, u ≠ .tbl ps) → H' b = some u
  free : ∀ b, H' b = none → H b = none
  tabs : Tabs T H → Tabs T H'
theorem KpT.x {T : List (Addr × Str)} {H H' : Hp} (o : Addr) (r : KpT T H H') : KpX o T H H' := ⟨fun b u _ e n => r.ext b u e n, r.free, r.tabs⟩
structure RowC (K : PySem.W.Frag) (C : Addr) : Prop where
  cls : Cls K C
  nb : NoAttr K C "basis"
/-- at o the object, its steps reduced -/
structure StAt (T : List (Addr × Str)) (C : Addr) (H : Hp) (o : Addr) (h : List (List Int)) : Prop where
  tabs : Tabs T H
  ok : HOk h
  at_ : ∃ dx bp, H o = some (.ins C dx [("basis", .ref bp)]) ∧ RowsH H bp (Sq67.reduced h)
theorem StAt.keep {T : List (Addr × Str)} {C : Addr} {H H' : Hp} {o : Addr} {h : List (List Int)} (s : StAt T C H o h) (r : KpT T H H') : StAt T C H' o h := by
  obtain ⟨dx, bp, h1, h2⟩ := s.at_
  exact ⟨r.tabs s.tabs, s.ok, dx, bp, r.ext _ _ h1 (fun ps z => by cases z), RowsH.keep (keep_tabs T) r h2⟩
/-- whose lists the object's steps are: those they were, or new ones -/
def Sep (C o : Addr) (H H' : Hp) : Prop := ∀ (dx bp : Addr) (as : List Addr) (dx' bp' : Addr) (as' : List Addr), H o = some (.ins C dx [("basis", .ref bp)]) → H bp = some (.lst (as.map V.ref)) → H' o = some (.ins C dx' [("basis", .ref bp')]) → H' bp' = some (.lst (as'.map V.ref)) →
  (bp' = bp ∨ H bp' = none) ∧ ∀ b ∈ as', b ∈ as ∨ H b = none
theorem Sep.of {T : List (Addr × Str)} {C o : Addr} {H H' : Hp} (r : KpT T H H') : Sep C o H H' := fun dx bp as dx' bp' as' h1 h2 h3 h4 => by
  have e1 := r.ext _ _ h1 (fun ps z => by cases z)
  rw [e1] at h3
  cases h3
  have e2 := r.ext _ _ h2 (fun ps z => by cases z)
  rw [e2] at h4
  have : as = as' := refs_inj (by injection h4 with e; injection e)
  subst this
  exact ⟨.inl rfl, fun b hb => .inl hb⟩
/-- what a call of the object promises -/
def Ans (T : List (Addr × Str)) (C : Addr) (H : Hp) (o : Addr) (h : List (List Int)) (c : Sq67.Call) (Q : VK) : Prop :=
  ∀ H' p, KpX o T H H' → H p = none → H' p = some (.lst ((ansOf h c).map V.int)) → StAt T C H' o (Sq67.House.step h c).1 → Sep C o H H' → Q (.ref p) H'
/-- an answer that leaves the object as it is -/
theorem Ans.of {T : List (Addr × Str)} {C : Addr} {H H1 : Hp} {o : Addr} {h : List (List Int)} {c : Sq67.Call} {Q : VK} (k : Ans T C H o h c Q) (s : StAt T C H o h) (r : KpT T H H1) {as : List Int} (e : ansOf h c = as) (e2 : (Sq67.House.step h c).1 = h) :
    ∀ p, H1 p = none → Q (.ref p) (upd H1 p (.lst (as.map V.int))) := fun p hp => by
  have r2 := (keep_tabs T).trans r ((keep_tabs T).new (o := .lst (as.map V.int)) hp)
  refine k _ p (r2.x o) ((keep_tabs T).free r hp) (by rw [e, upd_same]) ?_ (Sep.of r2)
  rw [e2]
  exact s.keep r2
section
variable {P : Program} {w : World} {K : PySem.W.Frag} {mg : Str → Option Value} {base : Heap} {T : List (Addr × Str)} {C : Addr}
/-! ### __init__ -/
def spRow0 (T : List (Addr × Str)) (C : Addr) : Sp := fun vs H Q _ => ∃ o dx, vs = [.ref o] ∧ H o = some (.ins C dx []) ∧ Tabs T H ∧
  ∀ H', KpX o T H H' → StAt T C H' o Sq67.fresh → Q .non H'
theorem scRow0 : FnScope ["self"] ["self"] (defScope (sRow 0)) :=
  ⟨rfl, rfl, rfl, by decide +kernel, rfl, by decide +kernel, by decide +kernel⟩
theorem ok_row0 {f : Addr} {fd : FuncData} (F : Fun K "__init__" "StepRow.__init__" (sRow 0) f fd) (R : RowC K C) : FnOk P w K mg base CX0 1 f fd ["self"] (spRow0 T C) := by
  refine F.ok scRow0 (fun vs H Q E h => ?_) (fun cdv A outer s H vs Q E hr h => ?_)
  · obtain ⟨o, dx, rfl, _⟩ := h
    rfl
  · refine ⟨_, pss_one (ps_fld (pv 0) (pe_lst (pa_cons (pe_lst (pa_cons pe_int (pa_cons pe_int pa_nil))) (pa_cons (pe_lst (pa_cons pe_int (pa_cons pe_int pa_nil))) pa_nil))) rfl), ?_⟩
    obtain ⟨o, dx, rfl, ho, tabs, k⟩ := h
    refine ⟨by show 2 ≤ sizeLine; decide, fun p1 hp1 => ⟨by show 2 ≤ sizeLine; decide, fun p2 hp2 => ⟨by show 2 ≤ sizeLine; decide, fun p3 hp3 => ?_⟩⟩⟩
    have s1 := keep_same.new (o := .lst [V.int 1, V.int 0]) hp1
    have s2 := keep_same.trans s1 (keep_same.new (o := .lst [V.int 0, V.int 1]) hp2)
    have s3 := keep_same.trans s2 (keep_same.new (o := .lst [V.ref p1, V.ref p2]) hp3)
    refine ⟨_, rfl, o, C, dx, [], rfl, s3 _ _ ho, R.cls, R.nb, by decide, ?_⟩
    generalize hH3 : upd (upd (upd H p1 (.lst [V.int 1, V.int 0])) p2 (.lst [V.int 0, V.int 1])) p3 (.lst [V.ref p1, V.ref p2]) = H3 at *
    have e3 : H3 p3 = some (.lst ([p1, p2].map V.ref)) := by rw [← hH3]; exact upd_same
    have e2 : H3 p2 = some (.lst (([0, 1] : List Int).map V.int)) := by
      rw [← hH3]; exact keep_same.lst (keep_same.new hp3) upd_same
    have e1 : H3 p1 = some (.lst (([1, 0] : List Int).map V.int)) := by
      rw [← hH3]; exact keep_same.lst (keep_same.trans (keep_same.new hp2) (keep_same.new hp3)) upd_same
    have ne : ∀ b xs, H3 b = some (.lst xs) → b ≠ o := fun b xs e z => by
      rw [z, s3 _ _ ho] at e; cases e
    refine k _ ⟨fun b u hb e _ => by rw [upd_ne hb]; exact s3 _ _ e, fun b e => s3.free (upd_none e), fun t => ?_⟩ ⟨?_, fresh_ok, dx, p3, ?_, ?_⟩
    · intro q hq
      obtain ⟨ps, a1, a2, a3⟩ := (t.ext s3) q hq
      refine ⟨ps, ?_, a2, fun pos cv hc => ?_⟩
      · rw [upd_ne (fun z => by rw [z, s3 _ _ ho] at a1; cases a1)]; exact a1
      · obtain ⟨c, e1, e2⟩ := a3 pos cv hc
        exact ⟨c, e1, by rw [upd_ne (fun z => by rw [z, s3 _ _ ho] at e2; unfold CodeO at e2; cases e2)]; exact e2⟩
    · intro q hq
      obtain ⟨ps, a1, a2, a3⟩ := (tabs.ext s3) q hq
      refine ⟨ps, ?_, a2, fun pos cv hc => ?_⟩
      · rw [upd_ne (fun z => by rw [z, s3 _ _ ho] at a1; cases a1)]; exact a1
      · obtain ⟨c, e1, e2⟩ := a3 pos cv hc
        exact ⟨c, e1, by rw [upd_ne (fun z => by rw [z, s3 _ _ ho] at e2; unfold CodeO at e2; cases e2)]; exact e2⟩
    · rw [upd_same]; rfl
    · rw [fresh_red]
      refine ⟨[p1, p2], by rw [upd_ne (ne _ _ e3)]; exact e3, rfl, fun i b q g1 g2 => ?_⟩
      match i with
      | 0 => cases g1; cases g2; rw [upd_ne (ne _ _ e1)]; exact e1
      | 1 => cases g1; cases g2; rw [upd_ne (ne _ _ e2)]; exact e2
      | i + 2 => simp at g1
/-! ### reduced -/
def spCall0 (T : List (Addr × Str)) (C : Addr) (c : Sq67.Call) : Sp := fun vs H Q _ => ∃ o h, vs = [.ref o] ∧ StAt T C H o h ∧ Ans T C H o h c Q
theorem flat_len {us : List (List Int)} {n : Nat} (h : ∀ u ∈ us, u.length = n) : us.flatten.length = us.length * n := by
  induction us with
  | nil => simp
  | cons u us ih =>
    rw [List.flatten_cons, List.length_append, h u (by simp), ih (fun v hv => h v (by simp [hv])), List.length_cons, Nat.succ_mul]; omega
theorem scRow4 : FnScope ["self"] ["self"] (defScope (sRow 4)) :=
  ⟨rfl, rfl, rfl, by decide +kernel, rfl, by decide +kernel, by decide +kernel⟩
theorem ok_row4 {f : Addr} {fd : FuncData} (F : Fun K "reduced" "StepRow.reduced" (sRow 4) f fd) (R : RowC K C) (ml : mg "len" = none) (On : Callee P w K mg base 1 "one_behind_another" ["points"] spOne) : FnOk P w K mg base CX0 2 f fd ["self"] (spCall0 T C .reduced) := by
  refine F.ok scRow4 (fun vs H Q E h => ?_) (fun cdv A outer s H vs Q E hr h => ?_)
  · obtain ⟨o, dx, rfl, _⟩ := h
    rfl
  · refine ⟨_, pss_one (ps_ret (pe_op op_cat (pe_lst (pa_cons (pe_callB call_len_seq (by rfl) ml PySem.boot_len (pa_cons (pe_fld (pv 0) rfl) pa_nil)) pa_nil)) (pe_def On hr rfl (pa_cons (pe_fld (pv 0) rfl) pa_nil)))), ?_⟩
    obtain ⟨o, h, rfl, st, k⟩ := h
    obtain ⟨dx, bp, ho, hR⟩ := st.at_
    obtain ⟨sok, same, hlen⟩ := red_ok st.ok
    obtain ⟨d1, d2⟩ := dm_len sok.sh.dm
    obtain ⟨bs, hbs, hbl, hbp⟩ := id hR
    have fl := flat_len d1
    have fl9 : (Sq67.reduced h).flatten.length ≤ 9 := by
      rw [fl]; rcases d2 with e | e <;> rw [e] <;> decide
    refine ⟨_, rfl, o, C, dx, _, _, rfl, ho, R.cls, R.nb, rfl, bp, _, rfl, .inl (SqL.of hbs), by show 1 ≤ sizeLine; decide, fun p1 hp1 => ?_⟩
    have s1 := keep_same.new (o := .lst [V.int ((bs.map V.ref).length : Nat)]) hp1
    refine ⟨_, rfl, o, C, dx, _, _, rfl, s1 _ _ ho, R.cls, R.nb, rfl, bp, _, rfl, RowsH.keep keep_same s1 hR, by omega, fun H2 p2 r2 hp2 e2 => ?_⟩
    refine ⟨p1, p2, _, _, rfl, rfl, keep_same.lst r2 upd_same, e2, by rw [sizeLine_eq]; simp only [List.length_cons, List.length_nil, List.length_map]; omega, ?_⟩
    have kk := k.of st (same_tabs (keep_same.trans s1 r2)) (as := ((bs.map V.ref).length : Nat) :: (Sq67.reduced h).flatten) (by
      show ((Sq67.reduced h).length : Int) :: (Sq67.reduced h).flatten = _
      rw [List.length_map, hbl]) rfl
    exact kk
end
end Np
end
section
set_option maxRecDepth 100000
set_option maxHeartbeats 2000000
namespace Np
open PySem PySem.Spec PyProof.Rows L2 LamX NdefX
section
variable {P : Program} {w : World} {K : PySem.W.Frag} {mg : Str → Option Value} {base : Heap} {T : List (Addr × Str)} {C : Addr}
/-! ### shortest -/
theorem scRow2 : FnScope ["self", "points"] ["self"] (defScope (sRow 2)) :=
  ⟨rfl, rfl, rfl, by decide +kernel, rfl, by decide +kernel, by decide +kernel⟩
theorem ok_row2 {f : Addr} {fd : FuncData} (F : Fun K "shortest" "StepRow.shortest" (sRow 2) f fd) (R : RowC K C) (ml : mg "len" = none) (On : Callee P w K mg base 1 "one_behind_another" ["points"] spOne)
    (Sp' : Callee P w K mg base 8 "shortest_points" ["steps"] (spSP K T)) (Le : Callee P w K mg base 2 "length" ["point"] (spLength K)) : FnOk P w K mg base CX0 9 f fd ["self"] (spCall0 T C .shortest) := by
  refine F.ok scRow2 (fun vs H Q E h => ?_) (fun cdv A outer s H vs Q E hr h => ?_)
  · obtain ⟨o, dx, rfl, _⟩ := h
    rfl
  · refine ⟨_, pss_cons (ps_set (i := 1) scRow2.nd rfl (.inl rfl) (pe_def Sp' hr rfl (pa_cons (pe_fld (pv 0) rfl) pa_nil)))
      (pss_one (ps_ret (pe_op op_cat (pe_lst (pa_cons (pe_callB call_len_seq (by rfl) ml PySem.boot_len (pa_cons (pv 1) pa_nil)) (pa_cons (pe_def Le (hr.mono (by decide)) rfl (pa_cons (pe_ix ix_list (pv 1) pe_int (fun _ _ => rfl)) pa_nil)) pa_nil))) (pe_def On (hr.mono (by decide)) rfl (pa_cons (pv 1) pa_nil))))), ?_⟩
    obtain ⟨o, h, rfl, st, k⟩ := h
    obtain ⟨dx, bp, ho, hR⟩ := st.at_
    obtain ⟨sok, same, hlen⟩ := red_ok st.ok
    have hl23 := st.ok.len
    refine ⟨_, rfl, o, C, dx, _, _, rfl, ho, R.cls, R.nb, rfl, bp, _, rfl, hR.rows, sok, st.tabs, fun H1 p1 us k1 hp1 hR1 sp => ?_⟩
    obtain ⟨e, ⟨v, l, hvl, hul⟩, hcnt⟩ := shortP_eq st.ok sp
    obtain ⟨bs, hbs, hbl, hbp⟩ := id hR1
    obtain ⟨b0, br, hbr⟩ : ∃ v l, bs = v :: l := by
      cases e' : bs with
      | nil => rw [e', hvl] at hbl; simp at hbl
      | cons v l => exact ⟨v, l, rfl⟩
    have hv := hbp 0 b0 v (by rw [hbr]; rfl) (by rw [hvl]; rfl)
    have hvm : v ∈ us := by rw [hvl]; simp
    have vlen := hul v hvm
    have vb : Bd big v := by
      obtain ⟨L, ns, w, l', hT, _, e2, _, hL⟩ := sp
      rw [e2] at hvm
      have hm := (List.mem_filter.mp hvm).1
      have := ((hT.2 v).mp hm).2
      exact Bd.mono (by decide) (bd_of_norm (Int.le_trans this hL))
    have fl := flat_len hul
    have flb : us.flatten.length ≤ 3000000 := by
      rw [fl]
      have := Nat.mul_le_mul hcnt (show h.length ≤ 3 by omega)
      omega
    refine ⟨_, rfl, p1, _, rfl, .inl (SqL.of hbs), _, rfl, p1, _, 0, .ref b0, rfl, rfl, SqL.of hbs, atI_nat (j := 0) (by rw [hbr]; rfl), b0, v, rfl, SqL.of hv, by omega, vb, fun H2 r2 => ?_⟩
    refine ⟨by show 2 ≤ sizeLine; decide, fun p3 hp3 => ?_⟩
    have s3 := keep_same.trans r2 (keep_same.new (o := .lst [V.int ((bs.map V.ref).length : Nat), V.int (dotL v v)]) hp3)
    refine ⟨_, rfl, p1, us, rfl, RowsH.keep keep_same s3 hR1, by omega, fun H4 p4 r4 hp4 e4 => ?_⟩
    refine ⟨p3, p4, _, _, rfl, rfl, keep_same.lst r4 upd_same, e4, by rw [sizeLine_eq]; simp only [List.length_cons, List.length_nil, List.length_map]; omega, ?_⟩
    exact k.of st ((keep_tabs T).trans k1 (same_tabs (keep_same.trans s3 r4))) (as := ((bs.map V.ref).length : Nat) :: dotL v v :: us.flatten) (by
      unfold ansOf
      show (match Sq67.shortest h with
        | [] => (h, Sq67.says 0)
        | v :: l => (h, (⟨(v :: l).length, Sq67.norm v :: (v :: l).flatten⟩ : Sq67.Out))).2.value :: (match Sq67.shortest h with
        | [] => (h, Sq67.says 0)
        | v :: l => (h, (⟨(v :: l).length, Sq67.norm v :: (v :: l).flatten⟩ : Sq67.Out))).2.out = _
      rw [← e, List.length_map, hbl, hvl]; rfl) (by
      show (match Sq67.shortest h with
        | [] => (h, Sq67.says 0)
        | v :: l => (h, (⟨(v :: l).length, Sq67.norm v :: (v :: l).flatten⟩ : Sq67.Out))).1 = h
      rw [← e, hvl])
/-! ### minima -/
theorem scRow3 : FnScope ["self"] ["self"] (defScope (sRow 3)) :=
  ⟨rfl, rfl, rfl, by decide +kernel, rfl, by decide +kernel, by decide +kernel⟩
theorem ok_row3 {f : Addr} {fd : FuncData} (F : Fun K "minima" "StepRow.minima" (sRow 3) f fd) (R : RowC K C) (ml : mg "len" = none)
    (Dl : Callee P w K mg base 8 "different_lengths" ["steps"] (spDL K T)) : FnOk P w K mg base CX0 9 f fd ["self"] (spCall0 T C .minima) := by
  refine F.ok scRow3 (fun vs H Q E h => ?_) (fun cdv A outer s H vs Q E hr h => ?_)
  · obtain ⟨o, dx, rfl, _⟩ := h
    rfl
  · refine ⟨_, pss_one (ps_ret (pe_op op_cat (pe_lst (pa_cons (pe_callB call_len_seq (by rfl) ml PySem.boot_len (pa_cons (pe_fld (pv 0) rfl) pa_nil)) pa_nil)) (pe_def Dl hr rfl (pa_cons (pe_fld (pv 0) rfl) pa_nil)))), ?_⟩
    obtain ⟨o, h, rfl, st, k⟩ := h
    obtain ⟨dx, bp, ho, hR⟩ := st.at_
    obtain ⟨sok, same, hlen⟩ := red_ok st.ok
    have hl23 := st.ok.len
    obtain ⟨bs, hbs, hbl, hbp⟩ := id hR
    refine ⟨_, rfl, o, C, dx, _, _, rfl, ho, R.cls, R.nb, rfl, bp, _, rfl, .inl (SqL.of hbs), by show 1 ≤ sizeLine; decide, fun p1 hp1 => ?_⟩
    have s1 := keep_same.new (o := .lst [V.int ((bs.map V.ref).length : Nat)]) hp1
    refine ⟨_, rfl, o, C, dx, _, _, rfl, s1 _ _ ho, R.cls, R.nb, rfl, bp, _, rfl, (RowsH.keep keep_same s1 hR).rows, sok, st.tabs.ext s1, fun H2 p2 ns k2 hp2 e2 mp => ?_⟩
    obtain ⟨e, el⟩ := minP_eq st.ok mp
    refine ⟨p1, p2, _, _, rfl, rfl, (keep_tabs T).lst k2 upd_same, e2, by rw [sizeLine_eq]; simp only [List.length_cons, List.length_nil, List.length_map]; omega, ?_⟩
    exact k.of st ((keep_tabs T).trans (same_tabs s1) k2) (as := ((bs.map V.ref).length : Nat) :: ns) (by
      show ((Sq67.minima h).length : Int) :: Sq67.minima h = _
      rw [← e, List.length_map, hbl, el, hlen]) rfl
/-! ### has -/
def spCall2 (K : PySem.W.Frag) (T : List (Addr × Str)) (C : Addr) (mk : List Nat → List Nat → Sq67.Call) : Sp := fun vs H Q _ => ∃ (o a b : Addr) (h : List (List Int)) (xs ys : List Int), vs = [.ref o, .ref a, .ref b] ∧ SqL K H a (xs.map V.int) ∧ SqL K H b (ys.map V.int) ∧ Nums xs ∧ Nums ys ∧
  StAt T C H o h ∧ Ans T C H o h (mk (nats xs) (nats ys)) Q
abbrev nRow5 : List Str := ["self", "plus", "minus", "refusal", "times"]
theorem scRow5 : FnScope nRow5 ["self", "plus", "minus"] (defScope (sRow 5)) :=
  ⟨rfl, rfl, rfl, by decide +kernel, rfl, by decide +kernel, by decide +kernel⟩
theorem det_lim {ps : List (List Int)} (ok : StOk ps) : (detL ps).natAbs < 1073741824 := by
  have := det_small ok.sh.dm ok.bd
  omega
theorem ok_row5 {f : Addr} {fd : FuncData} (F : Fun K "has" "StepRow.has" (sRow 5) f fd) (R : RowC K C) (ml : mg "len" = none) (Rf : Callee P w K mg base 2 "refusal_of_told" ["plus", "minus", "count", "most"] (spRef K))
    (Tk : Callee P w K mg base 4 "times_taken" ["steps", "point"] (spTaken K)) (D : Callee P w K mg base 1 "told_numbers" ["plus", "minus"] (spTold K)) (mP : ∃ t, mg "MOST_OF_POINT" = some (.int 100 t)) :
    FnOk P w K mg base CX0 5 f fd ["self", "plus", "minus"] (spCall2 K T C .has) := by
  obtain ⟨tP, mP⟩ := mP
  refine F.ok scRow5 (fun vs H Q E h => ?_) (fun cdv A outer s H vs Q E hr h => ?_)
  · obtain ⟨o, a, b, h, xs, ys, rfl, _⟩ := h
    rfl
  · refine ⟨_, pss_cons (ps_set (i := 3) scRow5.nd rfl (.inl rfl) (pe_def Rf (hr.mono (by decide)) rfl (pa_cons (pv 1) (pa_cons (pv 2) (pa_cons (pe_callB call_len_seq (by rfl) ml PySem.boot_len (pa_cons (pe_fld (pv 0) rfl) pa_nil)) (pa_cons (pe_glob (v := .int 100) rfl mP ⟨_, rfl⟩) pa_nil))))))
      (pss_cons (ps_if (pt_cmpR op_ne (pv 3) pe_int (nomark _)) (pss_one (ps_ret (pe_lst (pa_cons (pv 3) pa_nil)))) pss_nil)
      (pss_cons (ps_set (i := 4) scRow5.nd rfl (.inl rfl) (pe_def Tk hr rfl (pa_cons (pe_fld (pv 0) rfl) (pa_cons (pe_def D (hr.mono (by decide)) rfl (pa_cons (pv 1) (pa_cons (pv 2) pa_nil))) pa_nil))))
      (pss_cons (ps_if (pt_cmpR op_isN (pv 4) pe_non (nomark _)) (pss_one (ps_ret (pe_lst (pa_cons pe_int pa_nil)))) pss_nil)
      (pss_one (ps_ret (pe_op op_cat (pe_lst (pa_cons pe_int pa_nil)) (pv 4))))))), ?_⟩
    obtain ⟨o, a, b, h, xs, ys, rfl, ha, hb, hx, hy, st, k⟩ := h
    obtain ⟨dx, bp, ho, hR⟩ := st.at_
    obtain ⟨sok, same, hlen⟩ := red_ok st.ok
    have hl23 := st.ok.len
    have hx1 := hx.1
    have hy1 := hy.1
    obtain ⟨bs, hbs, hbl, hbp⟩ := id hR
    have hBl : BdP lim (Sq67.reduced h) := fun p hp => Bd.mono (by decide) (sok.bd p hp)
    have step := point_eq (h := h) hx hy Sq67.PLACE (fun v => if Sq67.has h v = true then ⟨1, Sq67.coefficients (Sq67.reduced h) v⟩ else Sq67.says 0)
    have stepE : Sq67.House.step h (.has (nats xs) (nats ys)) = if refusalL xs ys h.length 100 ≠ 0 then (h, Sq67.says (refusalL xs ys h.length 100)) else (h, if Sq67.has h (toldL xs ys) = true then ⟨1, Sq67.coefficients (Sq67.reduced h) (toldL xs ys)⟩ else Sq67.says 0) := step
    have e0 : ((bs.map V.ref).length : Int) = (h.length : Int) := by rw [List.length_map, hbl, hlen]
    refine ⟨_, rfl, _, rfl, _, rfl, o, C, dx, _, _, rfl, ho, R.cls, R.nb, rfl, bp, _, rfl, .inl (SqL.of hbs), a, b, xs, ys, _, 100, rfl, ha, hb, by omega, by omega, fun H1 r1 => ?_⟩
    rw [e0]
    refine ⟨_, rfl, rfl, _, rfl, ?_⟩
    refine bIf (fun h1 => ?_) (fun h1 => ?_)
    · have hne : refusalL xs ys h.length 100 ≠ 0 := int_ne.mp h1
      rw [if_pos hne] at stepE
      refine ⟨_, rfl, by show 1 ≤ sizeLine; decide, ?_⟩
      exact k.of st (same_tabs r1) (as := [refusalL xs ys h.length 100]) (by unfold ansOf; rw [stepE]; rfl) (by rw [stepE])
    · have he : refusalL xs ys h.length 100 = 0 := int_eq.mp h1
      have hz := refusal_zero he
      rw [if_neg (fun z => z he)] at stepE
      have tl : (toldL xs ys).length = h.length := hz.2.2.1
      have tv := taken_eq st.ok tl
      refine ⟨_, rfl, o, C, dx, _, _, rfl, r1 _ _ ho, R.cls, R.nb, rfl, _, rfl, _, rfl, a, b, xs, ys, rfl, r1.seq ha, r1.seq hb, by omega, fun H2 p2 r2 hp2 e2 => ?_⟩
      have s2 := keep_same.trans r1 r2
      refine ⟨bp, p2, Sq67.reduced h, toldL xs ys, rfl, (RowsH.keep keep_same s2 hR).rows, SqL.of e2, sok.sh.dm, hBl, by rw [tl, hlen], sok.det, det_lim sok, fun hn H3 r3 => ?_, fun us hs H3 p3 r3 hp3 e3 => ?_⟩
      · have hno : ¬ Sq67.has h (toldL xs ys) = true := fun z => by rw [tv, if_pos z] at hn; cases hn
        rw [if_neg hno] at stepE
        refine ⟨_, rfl, rfl, _, rfl, ?_⟩
        refine iteT ?_
        refine ⟨by show 1 ≤ sizeLine; decide, ?_⟩
        exact k.of st (same_tabs (keep_same.trans s2 r3)) (as := [0]) (by unfold ansOf; rw [stepE]; rfl) (by rw [stepE])
      · have hyes : Sq67.has h (toldL xs ys) = true := by
          apply Classical.byContradiction
          intro z
          rw [tv, if_neg z] at hs; cases hs
        rw [tv, if_pos hyes] at hs
        have eu : us = Sq67.coefficients (Sq67.reduced h) (toldL xs ys) := (Option.some.inj hs).symm
        rw [if_pos hyes] at stepE
        have ul : us.length = h.length := by
          rw [eu]; unfold Sq67.coefficients Sq67.shares; simp [hlen]
        refine ⟨_, rfl, rfl, _, rfl, ?_⟩
        refine iteF ?_
        refine ⟨by show 1 ≤ sizeLine; decide, fun p4 hp4 => ?_⟩
        have s4 := keep_same.new (o := .lst [V.int 1]) hp4
        refine ⟨_, rfl, p4, p3, _, _, rfl, rfl, upd_same, s4 _ _ e3, by rw [sizeLine_eq]; simp only [List.length_cons, List.length_nil, List.length_map]; omega, ?_⟩
        exact k.of st (same_tabs (keep_same.trans s2 (keep_same.trans r3 s4))) (as := 1 :: us) (by unfold ansOf; rw [stepE, eu]) (by rw [stepE])
end
end Np
end
section
set_option maxRecDepth 100000
set_option maxHeartbeats 2000000
namespace Np
open PySem PySem.Spec PyProof.Rows L2 LamX NdefX
section
variable {P : Program} {w : World} {K : PySem.W.Frag} {mg : Str → Option Value} {base : Heap} {T : List (Addr × Str)} {C : Addr}
/-! ### same -/
abbrev nRow6 : List Str := ["self", "plus", "minus", "n", "refusal"]
theorem scRow6 : FnScope nRow6 ["self", "plus", "minus"] (defScope (sRow 6)) :=
  ⟨rfl, rfl, rfl, by decide +kernel, rfl, by decide +kernel, by decide +kernel⟩
theorem ok_row6 {f : Addr} {fd : FuncData} (F : Fun K "same" "StepRow.same" (sRow 6) f fd) (R : RowC K C) (ml : mg "len" = none) (Rs : Callee P w K mg base 4 "refusal_of_steps" ["plus", "minus", "n"] (spRfS K))
    (Ld : Callee P w K mg base 5 "lead_to_the_same" ["steps", "others"] (spLead K)) (Ts : Callee P w K mg base 2 "told_steps" ["plus", "minus", "n"] (spTS K)) :
    FnOk P w K mg base CX0 6 f fd ["self", "plus", "minus"] (spCall2 K T C .same) := by
  refine F.ok scRow6 (fun vs H Q E h => ?_) (fun cdv A outer s H vs Q E hr h => ?_)
  · obtain ⟨o, a, b, h, xs, ys, rfl, _⟩ := h
    rfl
  · refine ⟨_, pss_cons (ps_set (i := 3) scRow6.nd rfl (.inl rfl) (pe_callB call_len_seq (by rfl) ml PySem.boot_len (pa_cons (pe_fld (pv 0) rfl) pa_nil)))
      (pss_cons (ps_set (i := 4) scRow6.nd rfl (.inl rfl) (pe_def Rs (hr.mono (by decide)) rfl (pa_cons (pv 1) (pa_cons (pv 2) (pa_cons (pv 3) pa_nil)))))
      (pss_cons (ps_if (pt_cmpR op_ne (pv 4) pe_int (nomark _)) (pss_one (ps_ret (pe_lst (pa_cons (pv 4) pa_nil)))) pss_nil)
      (pss_one (ps_ret (pe_lst (pa_cons (pe_ifExp (pt_val (pe_def Ld hr rfl (pa_cons (pe_fld (pv 0) rfl) (pa_cons (pe_def Ts (hr.mono (by decide)) rfl (pa_cons (pv 1) (pa_cons (pv 2) (pa_cons (pv 3) pa_nil)))) pa_nil)))) pe_int pe_int) pa_nil)))))), ?_⟩
    obtain ⟨o, a, b, h, xs, ys, rfl, ha, hb, hx, hy, st, k⟩ := h
    obtain ⟨dx, bp, ho, hR⟩ := st.at_
    obtain ⟨sok, same, hlen⟩ := red_ok st.ok
    have hl23 := st.ok.len
    have hx1 := hx.1
    have hy1 := hy.1
    obtain ⟨bs, hbs, hbl, hbp⟩ := id hR
    have hBl : BdP lim (Sq67.reduced h) := fun p hp => Bd.mono (by decide) (sok.bd p hp)
    have steps := steps_eq hx hy hl23
    have e0 : ((bs.map V.ref).length : Int) = (h.length : Int) := by rw [List.length_map, hbl, hlen]
    have stepE : Sq67.House.step h (.same (nats xs) (nats ys)) = match (if refStepsL xs ys h.length ≠ 0 then Except.error (refStepsL xs ys h.length) else Except.ok (Sq67.rowsOf h.length h.length (toldL xs ys)) : Except Int (List Sq67.Vec)) with
      | .error e => (h, Sq67.says e)
      | .ok l => (h, Sq67.says (if (l.all (Sq67.has h) && h.all (Sq67.has l)) = true then 1 else 0)) := by
      rw [← steps]; rfl
    refine ⟨_, rfl, o, C, dx, _, _, rfl, ho, R.cls, R.nb, rfl, bp, _, rfl, .inl (SqL.of hbs), ?_⟩
    rw [e0]
    refine ⟨_, rfl, _, rfl, _, rfl, a, b, xs, ys, h.length, rfl, ha, hb, by omega, by omega, hl23, fun H1 r1 => ?_⟩
    refine ⟨_, rfl, rfl, _, rfl, ?_⟩
    refine bIf (fun h1 => ?_) (fun h1 => ?_)
    · have hne : refStepsL xs ys h.length ≠ 0 := int_ne.mp h1
      rw [if_pos hne] at stepE
      refine ⟨_, rfl, by show 1 ≤ sizeLine; decide, ?_⟩
      exact k.of st (same_tabs r1) (as := [refStepsL xs ys h.length]) (by unfold ansOf; rw [stepE]; rfl) (by rw [stepE])
    · have he : refStepsL xs ys h.length = 0 := int_eq.mp h1
      rw [if_neg (fun z => z he)] at stepE
      obtain ⟨hok, dm, det, hle, hlm, hll⟩ := begun hl23 he
      obtain ⟨tl, _, _⟩ := refSteps_zero hl23 he
      have le := lead_eq st.ok dm hll det
      refine ⟨_, rfl, o, C, dx, _, _, rfl, r1 _ _ ho, R.cls, R.nb, rfl, _, rfl, _, rfl, _, rfl, a, b, xs, ys, h.length, rfl, r1.seq ha, r1.seq hb, by omega, hl23, tl, fun H2 p2 r2 hp2 hR2 => ?_⟩
      have s2 := keep_same.trans r1 r2
      refine ⟨bp, p2, Sq67.reduced h, _, rfl, (RowsH.keep keep_same s2 hR).rows, hR2.rows, sok.sh.dm, dm, hBl, hlm, by rw [hll, hlen], sok.det, det_lim sok, fun H3 r3 => ⟨_, rfl, ?_⟩⟩
      have s3 := keep_same.trans s2 r3
      rw [le]
      refine bIf (fun h2 => ?_) (fun h2 => ?_)
      · refine ⟨by show 1 ≤ sizeLine; decide, ?_⟩
        exact k.of st (same_tabs s3) (as := [1]) (by unfold ansOf; rw [stepE]; show [if ((Sq67.rowsOf h.length h.length (toldL xs ys)).all (Sq67.has h) && h.all (Sq67.has (Sq67.rowsOf h.length h.length (toldL xs ys)))) = true then (1 : Int) else 0] = _; rw [if_pos h2]) (by rw [stepE])
      · refine ⟨by show 1 ≤ sizeLine; decide, ?_⟩
        exact k.of st (same_tabs s3) (as := [0]) (by unfold ansOf; rw [stepE]; show [if ((Sq67.rowsOf h.length h.length (toldL xs ys)).all (Sq67.has h) && h.all (Sq67.has (Sq67.rowsOf h.length h.length (toldL xs ys)))) = true then (1 : Int) else 0] = _; rw [if_neg (by rw [h2]; decide)]) (by rw [stepE])
/-! ### nearest -/
def spCallN (K : PySem.W.Frag) (T : List (Addr × Str)) (C : Addr) (mk : Nat → List Nat → List Nat → Sq67.Call) : Sp := fun vs H Q _ => ∃ (o a b : Addr) (h : List (List Int)) (xs ys : List Int) (q : Int), vs = [.ref o, .int q, .ref a, .ref b] ∧ 0 ≤ q ∧ SqL K H a (xs.map V.int) ∧ SqL K H b (ys.map V.int) ∧ Nums xs ∧ Nums ys ∧
  StAt T C H o h ∧ Ans T C H o h (mk q.toNat (nats xs) (nats ys)) Q
abbrev nRow7 : List Str := ["self", "q", "plus", "minus", "refusal", "told", "points"]
theorem scRow7 : FnScope nRow7 ["self", "q", "plus", "minus"] (defScope (sRow 7)) :=
  ⟨rfl, rfl, rfl, by decide +kernel, rfl, by decide +kernel, by decide +kernel⟩
theorem ok_row7 {f : Addr} {fd : FuncData} (F : Fun K "nearest" "StepRow.nearest" (sRow 7) f fd) (R : RowC K C) (ml : mg "len" = none) (Rf : Callee P w K mg base 2 "refusal_of_told" ["plus", "minus", "count", "most"] (spRef K))
    (D : Callee P w K mg base 1 "told_numbers" ["plus", "minus"] (spTold K)) (Np' : Callee P w K mg base 6 "nearest_points" ["steps", "told", "q"] (spNP K)) (Le : Callee P w K mg base 2 "length" ["point"] (spLength K)) (Lo : Callee P w K mg base 1 "left_over" ["told", "q", "point"] (spLeft K))
    (On : Callee P w K mg base 1 "one_behind_another" ["points"] spOne) (mP : ∃ t, mg "MOST_OF_POINT" = some (.int 100 t)) (mQ : ∃ t, mg "MOST_OF_Q" = some (.int 10 t)) (mW : ∃ t, mg "WRONG_NUMBER" = some (.int (-1) t)) :
    FnOk P w K mg base CX0 7 f fd ["self", "q", "plus", "minus"] (spCallN K T C .nearest) := by
  obtain ⟨tP, mP⟩ := mP
  obtain ⟨tQ, mQ⟩ := mQ
  obtain ⟨tW, mW⟩ := mW
  refine F.ok scRow7 (fun vs H Q E h => ?_) (fun cdv A outer s H vs Q E hr h => ?_)
  · obtain ⟨o, a, b, h, xs, ys, q, rfl, _⟩ := h
    rfl
  · refine ⟨_, pss_cons (ps_if (PW.pt (pw_or (pt_cmpR op_lt (pv 1) pe_int (nomark _)) (pw_or1 (pt_cmpR op_gt (pv 1) (pe_glob (v := .int 10) rfl mQ ⟨_, rfl⟩) (nomark _))))) (pss_one (ps_ret (pe_lst (pa_cons (pe_glob (v := .int (-1)) rfl mW ⟨_, rfl⟩) pa_nil)))) pss_nil)
      (pss_cons (ps_set (i := 4) scRow7.nd rfl (.inl rfl) (pe_def Rf (hr.mono (by decide)) rfl (pa_cons (pv 2) (pa_cons (pv 3) (pa_cons (pe_callB call_len_seq (by rfl) ml PySem.boot_len (pa_cons (pe_fld (pv 0) rfl) pa_nil)) (pa_cons (pe_glob (v := .int 100) rfl mP ⟨_, rfl⟩) pa_nil))))))
      (pss_cons (ps_if (pt_cmpR op_ne (pv 4) pe_int (nomark _)) (pss_one (ps_ret (pe_lst (pa_cons (pv 4) pa_nil)))) pss_nil)
      (pss_cons (ps_set (i := 5) scRow7.nd rfl (.inl rfl) (pe_def D (hr.mono (by decide)) rfl (pa_cons (pv 2) (pa_cons (pv 3) pa_nil))))
      (pss_cons (ps_set (i := 6) scRow7.nd rfl (.inl rfl) (pe_def Np' hr rfl (pa_cons (pe_fld (pv 0) rfl) (pa_cons (pv 5) (pa_cons (pv 1) pa_nil)))))
      (pss_one (ps_ret (pe_op op_cat (pe_lst (pa_cons (pe_callB call_len_seq (by rfl) ml PySem.boot_len (pa_cons (pv 6) pa_nil)) (pa_cons (pe_def Le (hr.mono (by decide)) rfl (pa_cons (pe_def Lo (hr.mono (by decide)) rfl (pa_cons (pv 5) (pa_cons (pv 1) (pa_cons (pe_ix ix_list (pv 6) pe_int (fun _ _ => rfl)) pa_nil)))) pa_nil)) pa_nil)))
        (pe_def On (hr.mono (by decide)) rfl (pa_cons (pv 6) pa_nil))))))))), ?_⟩
    obtain ⟨o, a, b, h, xs, ys, q, rfl, hq0, ha, hb, hx, hy, st, k⟩ := h
    obtain ⟨dx, bp, ho, hR⟩ := st.at_
    obtain ⟨sok, same, hlen⟩ := red_ok st.ok
    have hl23 := st.ok.len
    have hx1 := hx.1
    have hy1 := hy.1
    obtain ⟨bs, hbs, hbl, hbp⟩ := id hR
    have e0 : ((bs.map V.ref).length : Int) = (h.length : Int) := by rw [List.length_map, hbl, hlen]
    have stepE : Sq67.House.step h (.nearest q.toNat (nats xs) (nats ys)) = if q.toNat = 0 ∨ 10 < q.toNat then (h, Sq67.says (-1)) else if refusalL xs ys h.length 100 ≠ 0 then (h, Sq67.says (refusalL xs ys h.length 100)) else
        (h, ⟨(Sq67.nearest h q.toNat (toldL xs ys)).length, (match Sq67.nearest h q.toNat (toldL xs ys) with
          | v :: _ => Sq67.far q.toNat (toldL xs ys) v
          | [] => -1) :: (Sq67.nearest h q.toNat (toldL xs ys)).flatten⟩) := by
      show (if q.toNat = 0 ∨ Sq67.PARTS < q.toNat then (h, Sq67.says (-1)) else _) = _
      by_cases hq : q.toNat = 0 ∨ 10 < q.toNat
      · rw [if_pos hq]; exact if_pos hq
      · rw [if_neg hq]
        refine (if_neg hq).trans ?_
        exact point_eq (h := h) hx hy Sq67.PLACE _
    refine ⟨_, rfl, _, _, rfl, rfl, _, rfl, ?_⟩
    have bad : q.toNat = 0 ∨ 10 < q.toNat → ∃ _ : 1 ≤ sizeLine, ∀ p, H p = none → Q (.ref p) (upd H p (.lst [V.int (-1)])) := fun hq => by
      rw [if_pos hq] at stepE
      exact ⟨by decide, k.of st ((keep_tabs T).refl H) (as := [-1]) (by unfold ansOf; rw [stepE]; rfl) (by rw [stepE])⟩
    refine bIf (fun h1 => ?_) (fun h1 => ?_)
    · refine iteT ?_
      have := of_decide_eq_true h1
      obtain ⟨b1, b2⟩ := bad (by omega)
      exact ⟨b1, b2⟩
    · have q1 := of_decide_eq_false h1
      refine ⟨_, rfl, _, _, rfl, rfl, _, rfl, ?_⟩
      refine bIf (fun h2 => ?_) (fun h2 => ?_)
      · have := of_decide_eq_true h2
        obtain ⟨b1, b2⟩ := bad (by omega)
        exact ⟨b1, b2⟩
      · have q2 := of_decide_eq_false h2
        have hqq : ¬ (q.toNat = 0 ∨ 10 < q.toNat) := by omega
        rw [if_neg hqq] at stepE
        refine ⟨_, rfl, _, rfl, _, rfl, o, C, dx, _, _, rfl, ho, R.cls, R.nb, rfl, bp, _, rfl, .inl (SqL.of hbs), a, b, xs, ys, _, 100, rfl, ha, hb, by omega, by omega, fun H1 r1 => ?_⟩
        rw [e0]
        refine ⟨_, rfl, rfl, _, rfl, ?_⟩
        refine bIf (fun h3 => ?_) (fun h3 => ?_)
        · have hne : refusalL xs ys h.length 100 ≠ 0 := int_ne.mp h3
          rw [if_pos hne] at stepE
          refine ⟨_, rfl, by show 1 ≤ sizeLine; decide, ?_⟩
          exact k.of st (same_tabs r1) (as := [refusalL xs ys h.length 100]) (by unfold ansOf; rw [stepE]; rfl) (by rw [stepE])
        · have he : refusalL xs ys h.length 100 = 0 := int_eq.mp h3
          obtain ⟨_, _, tl, tb⟩ := refusal_zero he
          rw [if_neg (fun z => z he)] at stepE
          refine ⟨_, rfl, _, rfl, a, b, xs, ys, rfl, r1.seq ha, r1.seq hb, by omega, fun H2 p2 r2 hp2 e2 => ?_⟩
          have s2 := keep_same.trans r1 r2
          have pok : PlOk (Sq67.reduced h) (toldL xs ys) q := ⟨sok, by rw [tl, hlen], tb, by omega, by omega⟩
          refine ⟨_, rfl, o, C, dx, _, _, rfl, s2 _ _ ho, R.cls, R.nb, rfl, _, rfl, _, rfl, bp, p2, _, _, q, rfl, (RowsH.keep keep_same s2 hR).rows, SqL.of e2, pok, fun H3 p3 us r3 hp3 hR3 np => ?_⟩
          have s3 := keep_same.trans s2 r3
          have qe : ((q.toNat : Nat) : Int) = q := by omega
          have eu : us = Sq67.nearest h q.toNat (toldL xs ys) := near_eq st.ok tl (by omega) (by rw [qe]; exact np.told)
          have ul := near_len sok.sh.dm np
          obtain ⟨v, l, hvl⟩ : ∃ v l, us = v :: l := by
            cases e : us with
            | nil => exact absurd e np.ne
            | cons v l => exact ⟨v, l, rfl⟩
          obtain ⟨cs, hcs, hcl, hcp⟩ := id hR3
          obtain ⟨c0, cr, hcr⟩ : ∃ v l, cs = v :: l := by
            cases e' : cs with
            | nil => rw [e', hvl] at hcl; simp at hcl
            | cons v l => exact ⟨v, l, rfl⟩
          have hv := hcp 0 c0 v (by rw [hcr]; rfl) (by rw [hvl]; rfl)
          have vl : v.length = h.length := by rw [ul v (by rw [hvl]; simp), hlen]
          have hn := (np.told.2 v).mp (by rw [hvl]; simp)
          have lfb : Bd big (leftL (toldL xs ys) q v) := by
            obtain ⟨n1, n2, n3, n4⟩ := nrm_shape sok.sh.dm
            have rl : (roundL (Sq67.reduced h) (toldL xs ys) q).length = (Sq67.reduced h).length := by simp [roundL, n1]
            have g1 := hn.2 _ ⟨_, rl, rfl⟩
            have g2 := round_far sok (q := q) (told := toldL xs ys) (by rw [tl, hlen]) (by omega)
            have g3 : farL (toldL xs ys) q v ≤ 57600 := by
              have := limit_small (q := q) (by omega) (by omega) (Int.le_trans g1 g2)
              exact this
            intro x hx
            have := (dotL_nonneg (leftL (toldL xs ys) q v)).2 x hx
            have h4 : x * x ≤ 240 * 240 := by unfold farL at g3; omega
            have := abs_le_of_sq (m := 240) (by decide) h4
            unfold big; omega
          have cnt := np.cnt
          have fl := flat_len ul
          have flb : us.flatten.length ≤ 3000000 := by
            rw [fl, hlen]
            have := Nat.mul_le_mul cnt (show h.length ≤ 3 by omega)
            omega
          have ll := left_len (xs := toldL xs ys) (ys := v) (q := q)
          refine ⟨_, rfl, p3, _, rfl, .inl (SqL.of hcs), _, rfl, _, rfl, _, rfl, p3, _, 0, .ref c0, rfl, rfl, SqL.of hcs, atI_nat (j := 0) (by rw [hcr]; rfl), p2, c0, toldL xs ys, v, q, rfl, r3.seq (SqL.of e2), SqL.of hv, by omega, by unfold big; omega, fun H4 p4 r4 hp4 e4 => ?_⟩
          refine ⟨p4, _, rfl, SqL.of e4, by omega, lfb, fun H5 r5 => ⟨by show 2 ≤ sizeLine; decide, fun p6 hp6 => ?_⟩⟩
          have s6 := keep_same.trans r4 (keep_same.trans r5 (keep_same.new (o := .lst [V.int ((cs.map V.ref).length : Nat), V.int (dotL (leftL (toldL xs ys) q v) (leftL (toldL xs ys) q v))]) hp6))
          refine ⟨_, rfl, p3, us, rfl, RowsH.keep keep_same s6 hR3, by omega, fun H7 p7 r7 hp7 e7 => ?_⟩
          refine ⟨p6, p7, _, _, rfl, rfl, keep_same.lst r7 upd_same, e7, by rw [sizeLine_eq]; simp only [List.length_cons, List.length_nil, List.length_map]; omega, ?_⟩
          exact k.of st (same_tabs (keep_same.trans s3 (keep_same.trans s6 r7))) (as := ((cs.map V.ref).length : Nat) :: dotL (leftL (toldL xs ys) q v) (leftL (toldL xs ys) q v) :: us.flatten) (by
            unfold ansOf
            have fe : Sq67.far q.toNat (toldL xs ys) v = dotL (leftL (toldL xs ys) q v) (leftL (toldL xs ys) q v) := by
              rw [← far_of st.ok tl vl, qe]; rfl
            rw [stepE, ← eu, List.length_map, hcl, hvl]
            show ((v :: l).length : Int) :: Sq67.far q.toNat (toldL xs ys) v :: (v :: l).flatten = _
            rw [fe]) (by rw [stepE])
/-! ### walls -/
theorem scRow8 : FnScope ["self", "points"] ["self"] (defScope (sRow 8)) :=
  ⟨rfl, rfl, rfl, by decide +kernel, rfl, by decide +kernel, by decide +kernel⟩
theorem ok_row8 {f : Addr} {fd : FuncData} (F : Fun K "walls" "StepRow.walls" (sRow 8) f fd) (R : RowC K C) (ml : mg "len" = none) (On : Callee P w K mg base 1 "one_behind_another" ["points"] spOne)
    (Wp : Callee P w K mg base 8 "wall_points" ["steps"] (spWP K)) : FnOk P w K mg base CX0 9 f fd ["self"] (spCall0 T C .walls) := by
  refine F.ok scRow8 (fun vs H Q E h => ?_) (fun cdv A outer s H vs Q E hr h => ?_)
  · obtain ⟨o, dx, rfl, _⟩ := h
    rfl
  · refine ⟨_, pss_cons (ps_set (i := 1) scRow8.nd rfl (.inl rfl) (pe_def Wp hr rfl (pa_cons (pe_fld (pv 0) rfl) pa_nil)))
      (pss_one (ps_ret (pe_op op_cat (pe_lst (pa_cons (pe_callB call_len_seq (by rfl) ml PySem.boot_len (pa_cons (pv 1) pa_nil)) pa_nil)) (pe_def On (hr.mono (by decide)) rfl (pa_cons (pv 1) pa_nil))))), ?_⟩
    obtain ⟨o, h, rfl, st, k⟩ := h
    obtain ⟨dx, bp, ho, hR⟩ := st.at_
    obtain ⟨sok, same, hlen⟩ := red_ok st.ok
    have hl23 := st.ok.len
    refine ⟨_, rfl, o, C, dx, _, _, rfl, ho, R.cls, R.nb, rfl, bp, _, rfl, hR.rows, sok, fun H1 p1 us r1 hp1 hR1 wp => ?_⟩
    have e := walls_of st.ok wp
    have cnt := wp.2
    have ul : ∀ u ∈ us, u.length = h.length := fun u hu => by
      obtain ⟨t, tb, hf, us', ht, _, hv⟩ := (wp.1.2 u).mp hu
      obtain ⟨n1, n2, n3, n4⟩ := nrm_shape sok.sh.dm
      have hne : Sq67.reduced h ≠ [] := fun z => by rw [z] at n4; simp at n4
      obtain ⟨x, hx, rfl⟩ := List.mem_map.mp hv
      obtain ⟨t', _, rfl⟩ := ((ht.2 x).mp hx).1
      simp only [leftL, List.length_map, List.length_zip, tog_len n3 hne]
      omega
    have fl := flat_len ul
    have flb : us.flatten.length ≤ 3000 := by
      rw [fl]
      have := Nat.mul_le_mul cnt (show h.length ≤ 3 by omega)
      omega
    obtain ⟨bs, hbs, hbl, hbp⟩ := id hR1
    refine ⟨_, rfl, p1, _, rfl, .inl (SqL.of hbs), by show 1 ≤ sizeLine; decide, fun p3 hp3 => ?_⟩
    have s3 := keep_same.new (o := .lst [V.int ((bs.map V.ref).length : Nat)]) hp3
    refine ⟨_, rfl, p1, us, rfl, RowsH.keep keep_same s3 hR1, by omega, fun H4 p4 r4 hp4 e4 => ?_⟩
    refine ⟨p3, p4, _, _, rfl, rfl, keep_same.lst r4 upd_same, e4, by rw [sizeLine_eq]; simp only [List.length_cons, List.length_nil, List.length_map]; omega, ?_⟩
    exact k.of st (same_tabs (keep_same.trans r1 (keep_same.trans s3 r4))) (as := ((bs.map V.ref).length : Nat) :: us.flatten) (by
      show ((Sq67.walls h).length : Int) :: (Sq67.walls h).flatten = _
      rw [← e, List.length_map, hbl]) rfl
/-! ### judge -/
theorem any_eqv {us : List (List Int)} {z : List Int} : ((us.map listD).any fun y => PyData.eqv y (listD z)) = true ↔ z ∈ us := by
  rw [List.any_map, List.any_eq_true]
  constructor
  · rintro ⟨y, hy, h⟩
    have : PyData.eqvAll (y.map PyData.int) (z.map PyData.int) = true := by
      have h' : PyData.eqv (listD y) (listD z) = true := h
      simpa only [listD, PyData.eqv] using h'
    rw [PySem.W.ked_eqvAll, decide_eq_true_eq] at this
    rw [← this]; exact hy
  · intro h
    refine ⟨z, h, ?_⟩
    show PyData.eqv (listD z) (listD z) = true
    simp only [listD, PyData.eqv]
    rw [PySem.W.ked_eqvAll]; simp
theorem lay_ints : ∀ ns : List Int, PyData.canLayAll0 (ns.map PyData.int) = true
  | [] => by simp [PyData.canLayAll0]
  | n :: ns => by simp [PyData.canLayAll0, PyData.canLay0, lay_ints ns]
theorem lay_rows : ∀ us : List (List Int), PyData.canLayAll0 (us.map listD) = true
  | [] => by simp [PyData.canLayAll0]
  | u :: us => by simp [PyData.canLayAll0, PyData.canLay0, listD, lay_ints u, lay_rows us]
theorem depth_rows : ∀ us : List (List Int), PyData.depthAll (us.map listD) ≤ 2
  | [] => by simp [PyData.depthAll]
  | u :: us => by
    have h1 := depth_rows us
    have h2 := depth_listD u
    simp only [List.map_cons, PyData.depthAll]
    omega
theorem shaped_row (z : List Int) : SeqAt.shaped (listD z) = true := by
  have := depth_listD z
  unfold SeqAt.shaped
  rw [Bool.and_eq_true, decide_eq_true_eq]
  exact ⟨by simp only [listD, PyData.canLay0]; exact lay_ints z, by omega⟩
theorem shaped_rows (us : List (List Int)) : SeqAt.shaped (.list (us.map listD)) = true := by
  have := depth_rows us
  unfold SeqAt.shaped
  rw [Bool.and_eq_true, decide_eq_true_eq]
  exact ⟨by simp only [PyData.canLay0]; exact lay_rows us, by simp only [PyData.depth]; omega⟩
theorem dp_row {H : Hp} {a : Addr} {z : List Int} (h : SqL K H a (z.map V.int)) : Dp K H (.ref a) (listD z) := by
  refine .lst h ?_
  clear h
  induction z with
  | nil => exact .nil
  | cons x z ih => exact .cons (.int x) ih
theorem dp_rows {H : Hp} {a : Addr} {us : List (List Int)} (h : RowsH H a us) : Dp K H (.ref a) (.list (us.map listD)) := by
  obtain ⟨as, h1, h2, h3⟩ := h
  refine .lst (SqL.of h1) ?_
  clear h1
  induction as generalizing us with
  | nil =>
    have : us = [] := List.length_eq_zero_iff.mp (by simpa using h2.symm)
    rw [this]; exact .nil
  | cons b as ih =>
    cases us with
    | nil => simp at h2
    | cons u us =>
      exact .cons (dp_row (SqL.of (h3 0 b u rfl rfl))) (ih (by simpa using h2) (fun i b' p e1 e2 => h3 (i + 1) b' p (by simpa using e1) (by simpa using e2)))
abbrev nRow9 : List Str := ["self", "plus", "minus", "refusal", "origin", "step"]
theorem scRow9 : FnScope nRow9 ["self", "plus", "minus"] (defScope (sRow 9)) :=
  ⟨rfl, rfl, rfl, by decide +kernel, rfl, by decide +kernel, by decide +kernel⟩
theorem ok_row9 {f : Addr} {fd : FuncData} (F : Fun K "judge" "StepRow.judge" (sRow 9) f fd) (R : RowC K C) (ml : mg "len" = none) (Rf : Callee P w K mg base 2 "refusal_of_told" ["plus", "minus", "count", "most"] (spRef K))
    (D : Callee P w K mg base 1 "told_numbers" ["plus", "minus"] (spTold K)) (Np' : Callee P w K mg base 6 "nearest_points" ["steps", "told", "q"] (spNP K)) (mP : ∃ t, mg "MOST_OF_POINT" = some (.int 100 t)) :
    FnOk P w K mg base CX0 7 f fd ["self", "plus", "minus"] (spCall2 K T C .judge) := by
  obtain ⟨tP, mP⟩ := mP
  refine F.ok scRow9 (fun vs H Q E h => ?_) (fun cdv A outer s H vs Q E hr h => ?_)
  · obtain ⟨o, a, b, h, xs, ys, rfl, _⟩ := h
    rfl
  · refine ⟨_, pss_cons (ps_set (i := 3) scRow9.nd rfl (.inl rfl) (pe_def Rf (hr.mono (by decide)) rfl (pa_cons (pv 1) (pa_cons (pv 2) (pa_cons (pe_callB call_len_seq (by rfl) ml PySem.boot_len (pa_cons (pe_fld (pv 0) rfl) pa_nil)) (pa_cons (pe_glob (v := .int 100) rfl mP ⟨_, rfl⟩) pa_nil))))))
      (pss_cons (ps_if (pt_cmpR op_ne (pv 3) pe_int (nomark _)) (pss_one (ps_ret (pe_lst (pa_cons (pv 3) pa_nil)))) pss_nil)
      (pss_cons (ps_setLc (i := 4) (own := [("step", 5)]) (g := gName 5) (by rfl) scRow9.nd rfl rfl (sw_true rfl rfl rfl (by decide +kernel)) (pi_list (pe_fld (pv 0) rfl))
        (blkOk_by (N := nRow9) (sc := defScope (sRow 9)) (by decide +kernel))
        (fun _ _ _ _ _ => by exact pg_name (i := 5) scRow9.nd rfl (.inl rfl)) (fun _ _ _ _ _ => pts_nil) (fun _ _ _ _ _ => pe_int))
      (pss_one (ps_ret (pe_lst (pa_cons (pe_ifExp (pt_cmpR (op_inD (show (A.deeper (envOfC (Str.ofString "StepRow.judge") (defScope (sRow 9)) s.heap.objs.size f cdv)).units + 65 < cLine by have := hr.un; omega)) (pv 4) (pe_def Np' hr rfl (pa_cons (pe_fld (pv 0) rfl) (pa_cons (pe_def D (hr.mono (by decide)) rfl (pa_cons (pv 1) (pa_cons (pv 2) pa_nil))) (pa_cons pe_int pa_nil)))) (by rfl)) pe_int pe_int) pa_nil)))))), ?_⟩
    obtain ⟨o, a, b, h, xs, ys, rfl, ha, hb, hx, hy, st, k⟩ := h
    obtain ⟨dx, bp, ho, hR⟩ := st.at_
    obtain ⟨sok, same, hlen⟩ := red_ok st.ok
    have hl23 := st.ok.len
    have hx1 := hx.1
    have hy1 := hy.1
    obtain ⟨bs, hbs, hbl, hbp⟩ := id hR
    have stepE : Sq67.House.step h (.judge (nats xs) (nats ys)) = if refusalL xs ys h.length 100 ≠ 0 then (h, Sq67.says (refusalL xs ys h.length 100)) else
        (h, ⟨if ((Sq67.walls h).all fun w => decide (Sq67.dot (toldL xs ys) w ≤ Sq67.norm w) && decide (-(Sq67.dot (toldL xs ys) w) ≤ Sq67.norm w)) = true then 1 else 0, []⟩) := point_eq (h := h) hx hy Sq67.PLACE _
    have e0 : ((bs.map V.ref).length : Int) = (h.length : Int) := by rw [List.length_map, hbl, hlen]
    refine ⟨_, rfl, _, rfl, _, rfl, o, C, dx, _, _, rfl, ho, R.cls, R.nb, rfl, bp, _, rfl, .inl (SqL.of hbs), a, b, xs, ys, _, 100, rfl, ha, hb, by omega, by omega, fun H1 r1 => ?_⟩
    rw [e0]
    refine ⟨_, rfl, rfl, _, rfl, ?_⟩
    refine bIf (fun h1 => ?_) (fun h1 => ?_)
    · have hne : refusalL xs ys h.length 100 ≠ 0 := int_ne.mp h1
      rw [if_pos hne] at stepE
      refine ⟨_, rfl, by show 1 ≤ sizeLine; decide, ?_⟩
      exact k.of st (same_tabs r1) (as := [refusalL xs ys h.length 100]) (by unfold ansOf; rw [stepE]; rfl) (by rw [stepE])
    · have he : refusalL xs ys h.length 100 = 0 := int_eq.mp h1
      obtain ⟨_, _, tl, tb⟩ := refusal_zero he
      rw [if_neg (fun z => z he)] at stepE
      refine ⟨_, rfl, o, C, dx, _, _, rfl, r1 _ _ ho, R.cls, R.nb, rfl, bp, rfl, ⟨_, SqL.of (r1 _ _ hbs)⟩, lc_ints keep_same (walk_list (xs := bs.map V.ref)) (List.replicate h.length 0) (by simp [hbl, hlen]) (fun H' r => SqL.of (r _ _ (r1 _ _ hbs))) (by rw [sizeLine_eq]; simp; omega) ?_ ?_⟩
      · rintro i v z H0 H' Qf hz r ⟨rfl, hx⟩ q
        have : z = 0 := (List.mem_replicate.mp (List.mem_of_getElem? hz)).2
        subst this
        exact ⟨rfl, q _ (keep_same.refl _)⟩
      · intro D2 H2 r2 hD2 e2
        have s2 := keep_same.trans r1 r2
        refine ⟨_, rfl, _, rfl, o, C, dx, _, _, rfl, s2 _ _ ho, R.cls, R.nb, rfl, _, rfl, _, rfl, a, b, xs, ys, rfl, s2.seq ha, s2.seq hb, by omega, fun H3 p3 r3 hp3 e3 => ?_⟩
        have s3 := keep_same.trans s2 r3
        have pok : PlOk (Sq67.reduced h) (toldL xs ys) 2 := ⟨sok, by rw [tl, hlen], tb, by decide, by decide⟩
        refine ⟨bp, p3, _, _, 2, rfl, (RowsH.keep keep_same s3 hR).rows, SqL.of e3, pok, fun H4 p4 us r4 hp4 hR4 np => ?_⟩
        have s4 := keep_same.trans s3 r4
        have je := judge_eq st.ok tl np.told
        refine ⟨listD (List.replicate h.length 0), us.map listD, dp_row (SqL.of (r4 _ _ (r3 _ _ e2))), dp_rows hR4, shaped_row _, shaped_rows _, _, rfl, ?_⟩
        refine bIf (fun h2 => ?_) (fun h2 => ?_)
        · have := je.mp (any_eqv.mp h2)
          rw [if_pos this] at stepE
          refine ⟨by show 1 ≤ sizeLine; decide, ?_⟩
          exact k.of st (same_tabs s4) (as := [1]) (by unfold ansOf; rw [stepE]) (by rw [stepE])
        · have : ¬ _ := fun z => by
            have := any_eqv.mpr (je.mpr z)
            rw [this] at h2; cases h2
          rw [if_neg this] at stepE
          refine ⟨by show 1 ≤ sizeLine; decide, ?_⟩
          exact k.of st (same_tabs s4) (as := [0]) (by unfold ansOf; rw [stepE]) (by rw [stepE])
end
end Np
end
section
set_option maxRecDepth 100000
set_option maxHeartbeats 2000000
namespace Np
open PySem PySem.Spec PyProof.Rows L2 LamX NdefX
theorem ifF {b : Bool} {A B : Prop} (h : b = false) (x : B) : if b = true then A else B := by rw [h]; exact x
theorem ifT {b : Bool} {A B : Prop} (h : b = true) (x : A) : if b = true then A else B := by rw [h]; exact x
theorem tabs_upd {T : List (Addr × Str)} {H : Hp} {o : Addr} {u v : HO} (t : Tabs T H) (ho : H o = some u) (h1 : ∀ ps, u ≠ .tbl ps) (h2 : ∀ φ, u ≠ .ext φ) : Tabs T (upd H o v) := by
  intro q hq
  obtain ⟨ps, a1, a2, a3⟩ := t q hq
  refine ⟨ps, ?_, a2, fun pos cv hc => ?_⟩
  · rw [upd_ne (fun z => by rw [z, ho] at a1; exact h1 ps (Option.some.inj a1))]; exact a1
  · obtain ⟨c, e1, e2⟩ := a3 pos cv hc
    exact ⟨c, e1, by rw [upd_ne (fun z => by rw [z, ho] at e2; unfold CodeO at e2; exact h2 _ (Option.some.inj e2))]; exact e2⟩
theorem KpX.put {T : List (Addr × Str)} {H H2 : Hp} {o C dx : Addr} {fs fs' : List (Str × V)} (r : KpT T H H2) (ho : H2 o = some (.ins C dx fs)) : KpX o T H (upd H2 o (.ins C dx fs')) :=
  ⟨fun b u hb e n => by rw [upd_ne hb]; exact r.ext b u e n, fun b e => r.free b (upd_none e), fun t => tabs_upd (r.tabs t) ho (fun ps z => by cases z) (fun φ z => by cases z)⟩
theorem KpX.same {T : List (Addr × Str)} {H H1 H2 : Hp} {o : Addr} (r : KpX o T H H1) (s : Same H1 H2) : KpX o T H H2 :=
  ⟨fun b u hb e n => s _ _ (r.ext b u hb e n), fun b e => r.free b (s.free e), fun t => (r.tabs t).ext s⟩
theorem rows_upd {H : Hp} {a o : Addr} {ps : List (List Int)} {C dx : Addr} {fs : List (Str × V)} {v : HO} (h : RowsH H a ps) (ho : H o = some (.ins C dx fs)) : RowsH (upd H o v) a ps := by
  obtain ⟨as, h1, h2, h3⟩ := h
  have ne : ∀ b xs, H b = some (.lst xs) → b ≠ o := fun b xs e z => by rw [z, ho] at e; cases e
  exact ⟨as, by rw [upd_ne (ne _ _ h1)]; exact h1, h2, fun i b p e1 e2 => by rw [upd_ne (ne _ _ (h3 i b p e1 e2))]; exact h3 i b p e1 e2⟩
section
variable {P : Program} {w : World} {K : PySem.W.Frag} {mg : Str → Option Value} {base : Heap} {T : List (Addr × Str)} {C : Addr}
/-! ### begin -/
abbrev nRow1 : List Str := ["self", "n", "plus", "minus", "refusal", "steps"]
theorem scRow1 : FnScope nRow1 ["self", "n", "plus", "minus"] (defScope (sRow 1)) :=
  ⟨rfl, rfl, rfl, by decide +kernel, rfl, by decide +kernel, by decide +kernel⟩
theorem ok_row1 {f : Addr} {fd : FuncData} (F : Fun K "begin" "StepRow.begin" (sRow 1) f fd) (R : RowC K C) (Rs : Callee P w K mg base 4 "refusal_of_steps" ["plus", "minus", "n"] (spRfS K)) (Ts : Callee P w K mg base 2 "told_steps" ["plus", "minus", "n"] (spTS K))
    (Rd : Callee P w K mg base 8 "reduced_steps" ["steps"] (spRS K T)) (De : Callee P w K mg base 3 "determinant" ["steps"] (spDet K)) (mb : mg "abs" = none) (mW : ∃ t, mg "WRONG_NUMBER" = some (.int (-1) t)) :
    FnOk P w K mg base CX0 9 f fd ["self", "n", "plus", "minus"] (spCallN K T C .begin_) := by
  obtain ⟨tW, mW⟩ := mW
  refine F.ok scRow1 (fun vs H Q E h => ?_) (fun cdv A outer s H vs Q E hr h => ?_)
  · obtain ⟨o, a, b, h, xs, ys, q, rfl, _⟩ := h
    rfl
  · refine ⟨_, pss_cons (ps_if (PW.pt (pw_and (pt_cmpR op_ne (pv 1) pe_int (nomark _)) (pw_and1 (pt_cmpR op_ne (pv 1) pe_int (nomark _))))) (pss_one (ps_ret (pe_lst (pa_cons (pe_glob (v := .int (-1)) rfl mW ⟨_, rfl⟩) pa_nil)))) pss_nil)
      (pss_cons (ps_set (i := 4) scRow1.nd rfl (.inl rfl) (pe_def Rs (hr.mono (by decide)) rfl (pa_cons (pv 2) (pa_cons (pv 3) (pa_cons (pv 1) pa_nil)))))
      (pss_cons (ps_if (pt_cmpR op_ne (pv 4) pe_int (nomark _)) (pss_one (ps_ret (pe_lst (pa_cons (pv 4) pa_nil)))) pss_nil)
      (pss_cons (ps_set (i := 5) scRow1.nd rfl (.inl rfl) (pe_def Ts (hr.mono (by decide)) rfl (pa_cons (pv 2) (pa_cons (pv 3) (pa_cons (pv 1) pa_nil)))))
      (pss_cons (ps_fld (pv 0) (pe_def Rd hr rfl (pa_cons (pv 5) pa_nil)) rfl)
      (pss_one (ps_ret (pe_lst (pa_cons (pe_callB call_abs (by rfl) mb (by decide +kernel) (pa_cons (pe_def De (hr.mono (by decide)) rfl (pa_cons (pv 5) pa_nil)) pa_nil)) pa_nil)))))))), ?_⟩
    obtain ⟨o, a, b, h, xs, ys, n, rfl, hn0, ha, hb, hx, hy, st, k⟩ := h
    obtain ⟨dx, bp, ho, hR⟩ := st.at_
    have hx1 := hx.1
    have hy1 := hy.1
    have bad : n ≠ 2 → n ≠ 3 → ∀ p, H p = none → Q (.ref p) (upd H p (.lst [V.int (-1)])) := fun h2 h3 => by
      have stepE : Sq67.House.step h (.begin_ n.toNat (nats xs) (nats ys)) = (h, Sq67.says (-1)) := by
        have : Sq67.House.steps n.toNat (nats xs) (nats ys) = .error (-1) := by
          unfold Sq67.House.steps
          rw [if_pos (by omega)]
        show (match Sq67.House.steps n.toNat (nats xs) (nats ys) with
          | .error e => (h, Sq67.says e)
          | .ok l => (l, Sq67.says ((Sq67.detOf l).natAbs : Nat))) = _
        rw [this]
      exact k.of st ((keep_tabs T).refl H) (as := [-1]) (by unfold ansOf; rw [stepE]; rfl) (by rw [stepE])
    refine ⟨_, rfl, rfl, _, rfl, ?_⟩
    by_cases hn : n = 2 ∨ n = 3
    · obtain ⟨m, rfl, hm⟩ : ∃ m : Nat, n = (m : Int) ∧ (m = 2 ∨ m = 3) := ⟨n.toNat, by omega, by omega⟩
      have me : ((m : Int).toNat) = m := by omega
      have steps := steps_eq hx hy hm
      have stepE : Sq67.House.step h (.begin_ m (nats xs) (nats ys)) = match (if refStepsL xs ys m ≠ 0 then Except.error (refStepsL xs ys m) else Except.ok (Sq67.rowsOf m m (toldL xs ys)) : Except Int (List Sq67.Vec)) with
        | .error e => (h, Sq67.says e)
        | .ok l => (l, Sq67.says ((Sq67.detOf l).natAbs : Nat)) := by
        rw [← steps]; rfl
      rw [me] at k
      rcases hm with h2 | h3
      case' inl => refine ifF (by rw [h2]; decide) (iteF ?_)
      case' inr => refine ifT (by rw [h3]; decide) ⟨_, rfl, rfl, _, rfl, ifF (by rw [h3]; decide) ?_⟩
      all_goals
        have hm : m = 2 ∨ m = 3 := by omega
        refine ⟨_, rfl, _, rfl, _, rfl, a, b, xs, ys, m, rfl, ha, hb, by omega, by omega, hm, fun H1 r1 => ?_⟩
        refine ⟨_, rfl, rfl, _, rfl, ?_⟩
        refine bIf (fun h1 => ?_) (fun h1 => ?_)
        · have hne : refStepsL xs ys m ≠ 0 := int_ne.mp h1
          rw [if_pos hne] at stepE
          refine ⟨_, rfl, by show 1 ≤ sizeLine; decide, ?_⟩
          exact k.of st (same_tabs r1) (as := [refStepsL xs ys m]) (by unfold ansOf; rw [stepE]; rfl) (by rw [stepE])
        · have he : refStepsL xs ys m = 0 := int_eq.mp h1
          rw [if_neg (fun z => z he)] at stepE
          obtain ⟨hok, dm, det, hle, hlm, hll⟩ := begun hm he
          obtain ⟨tl, _, _⟩ := refSteps_zero hm he
          refine ⟨_, rfl, _, rfl, _, rfl, a, b, xs, ys, m, rfl, r1.seq ha, r1.seq hb, by omega, hm, tl, fun H2 p2 r2 hp2 hR2 => ?_⟩
          have s2 := keep_same.trans r1 r2
          refine ⟨_, rfl, p2, _, rfl, hR2, dm, det, hle, st.tabs.ext s2, fun H3 p3 rs k3 hp3 hR3 hnew rp => ?_⟩
          have er := redP_eq hok rp
          have k03 := (keep_tabs T).trans (same_tabs s2) k3
          have ho3 : H3 o = some (.ins C dx [("basis", .ref bp)]) := k03.ext _ _ ho (fun ps z => by cases z)
          refine ⟨_, rfl, o, C, dx, _, rfl, ho3, R.cls, R.nb, by show 1 < 1000; decide, ?_⟩
          have kx := KpX.put (fs' := putF "basis" (.ref p3) [("basis", .ref bp)]) k03 ho3
          refine ⟨_, rfl, p2, _, rfl, (rows_upd (RowsH.keep (keep_tabs T) k3 hR2) ho3).rows, dm, hlm, fun H4 r4 => ⟨_, rfl, by show 1 ≤ sizeLine; decide, fun p5 hp5 => ?_⟩⟩
          have s5 := keep_same.trans r4 (keep_same.new (o := .lst [V.int (if detL (Sq67.rowsOf m m (toldL xs ys)) < 0 then -detL (Sq67.rowsOf m m (toldL xs ys)) else detL (Sq67.rowsOf m m (toldL xs ys)))]) hp5)
          refine k _ p5 (kx.same s5) ((kx.same r4).free _ hp5) ?_ ?_ ?_
          · rw [upd_same]
            unfold ansOf
            rw [stepE]
            show _ = some (HO.lst [V.int (((Sq67.detOf (Sq67.rowsOf m m (toldL xs ys))).natAbs : Nat) : Int)])
            rw [← detL_det dm, abs_nat]
          · rw [stepE]
            refine ⟨((kx.same s5).tabs st.tabs), hok, dx, p3, ?_, ?_⟩
            · refine s5 _ _ ?_
              rw [upd_same]; rfl
            · rw [← er]
              exact RowsH.keep keep_same s5 (rows_upd hR3 ho3)
          · intro dx0 bp0 as0 dx1 bp1 as1 g1 g2 g3 g4
            have e3 : upd H3 o (.ins C dx (putF "basis" (.ref p3) [("basis", .ref bp)])) o = some (.ins C dx [("basis", .ref p3)]) := by rw [upd_same]; rfl
            have e5 := s5 _ _ e3
            rw [e5] at g3
            cases g3
            obtain ⟨as3, q1, q2, q3⟩ := id hR3
            have ne3 : p3 ≠ o := fun z => by rw [z, ho3] at q1; cases q1
            have e6 := s5 _ _ ((upd_ne ne3).trans q1)
            rw [e6] at g4
            have ea : as3 = as1 := refs_inj (by injection g4 with e; injection e)
            subst ea
            exact ⟨.inr (s2.free hp3), fun b hb => .inr (s2.free (hnew as3 q1 b hb))⟩
    · refine ifT (by simp; omega) ⟨_, rfl, rfl, _, rfl, ifT (by simp; omega) ⟨by show 1 ≤ sizeLine; decide, bad (by omega) (by omega)⟩⟩
end
end Np
end
section
set_option maxRecDepth 100000
set_option maxHeartbeats 2000000
namespace Np
open PySem PySem.Spec PyProof.Rows L2 LamX NdefX
/-! ### Reader -/
abbrev sRd (j : Nat) : Stmt := inClass (top 55) j
/-- all but the object at r is kept -/
structure SmX (r : Addr) (H H' : Hp) : Prop where
  ext : ∀ b u, b ≠ r → H b = some u → H' b = some u
  free : ∀ b, H' b = none → H b = none
theorem SmX.trans {r : Addr} {H H1 H2 : Hp} (a : SmX r H H1) (b : SmX r H1 H2) : SmX r H H2 := ⟨fun x u hx e => b.ext x u hx (a.ext x u hx e), fun x e => a.free x (b.free x e)⟩
theorem SmX.put {r : Addr} {H : Hp} {u v : HO} (h : H r = some u) : SmX r H (upd H r v) := ⟨fun b w hb e => by rw [upd_ne hb]; exact e, fun b e => upd_none e⟩
theorem SmX.same {r : Addr} {H H' : Hp} (s : Same H H') : SmX r H H' := ⟨fun b u _ e => s _ _ e, fun b e => s.free e⟩
theorem SmX.sq {K : PySem.W.Frag} {r a : Addr} {H H' : Hp} {xs : List V} {C dx : Addr} {fs : List (Str × V)} (s : SmX r H H') (hr : H r = some (.ins C dx fs)) (h : SqL K H a xs) : SqL K H' a xs := by
  rcases h with h | h
  · left
    rcases h with h | ⟨o, h⟩
    · exact .inl (s.ext _ _ (fun z => by rw [z, hr] at h; cases h) h)
    · exact .inr ⟨o, s.ext _ _ (fun z => by rw [z, hr] at h; cases h) h⟩
  · exact .inr h
structure RdC (K : PySem.W.Frag) (C : Addr) : Prop where
  cls : Cls K C
  nn : NoAttr K C "numbers"
  np : NoAttr K C "place"
/-- at r the reader of the calls, at a place -/
def RdAt (K : PySem.W.Frag) (C cl : Addr) (calls : List Int) (H : Hp) (r : Addr) (pl : Nat) : Prop := ∃ dx, H r = some (.ins C dx [("numbers", .ref cl), ("place", .int pl)]) ∧ SqL K H cl (calls.map V.int)
section
variable {P : Program} {w : World} {K : PySem.W.Frag} {mg : Str → Option Value} {base : Heap} {C : Addr}
def spRd0 (K : PySem.W.Frag) (C : Addr) : Sp := fun vs H Q _ => ∃ r cl dx calls, vs = [.ref r, .ref cl] ∧ H r = some (.ins C dx []) ∧ SqL K H cl (calls.map V.int) ∧ ∀ H', SmX r H H' → RdAt K C cl calls H' r 0 → Q .non H'
theorem scRd0 : FnScope ["self", "numbers"] ["self", "numbers"] (defScope (sRd 0)) :=
  ⟨rfl, rfl, rfl, by decide +kernel, rfl, by decide +kernel, by decide +kernel⟩
theorem ok_rd0 {f : Addr} {fd : FuncData} (F : Fun K "__init__" "Reader.__init__" (sRd 0) f fd) (R : RdC K C) : FnOk P w K mg base CX0 1 f fd ["self", "numbers"] (spRd0 K C) := by
  refine F.ok scRd0 (fun vs H Q E h => ?_) (fun cdv A outer s H vs Q E hr h => ?_)
  · obtain ⟨r, cl, dx, calls, rfl, _⟩ := h
    rfl
  · refine ⟨_, pss_cons (ps_fld (pv 0) (pv 1) rfl) (pss_one (ps_fld (pv 0) pe_int rfl)), ?_⟩
    obtain ⟨r, cl, dx, calls, rfl, hr0, hc, k⟩ := h
    have h1 : upd H r (.ins C dx (putF "numbers" (.ref cl) [])) r = some (.ins C dx (putF "numbers" (.ref cl) [])) := upd_same
    have x1 := SmX.put (v := .ins C dx (putF "numbers" (.ref cl) [])) hr0
    refine ⟨_, rfl, _, rfl, r, C, dx, [], rfl, hr0, R.cls, R.nn, by decide, ?_⟩
    refine ⟨_, rfl, r, C, dx, _, rfl, h1, R.cls, R.np, by show 1 < 1000; decide, ?_⟩
    have x2 := x1.trans (SmX.put (v := .ins C dx (putF "place" (.int 0) (putF "numbers" (.ref cl) []))) h1)
    exact k _ x2 ⟨dx, by rw [upd_same]; rfl, x2.sq hr0 hc⟩
def spDone (K : PySem.W.Frag) (C : Addr) : Sp := fun vs H Q _ => ∃ r cl calls pl, vs = [.ref r] ∧ RdAt K C cl calls H r pl ∧ Q (.bl (decide (calls.length ≤ pl))) H
theorem scRd1 : FnScope ["self"] ["self"] (defScope (sRd 1)) :=
  ⟨rfl, rfl, rfl, by decide +kernel, rfl, by decide +kernel, by decide +kernel⟩
theorem ok_rd1 {f : Addr} {fd : FuncData} (F : Fun K "is_done" "Reader.is_done" (sRd 1) f fd) (R : RdC K C) (ml : mg "len" = none) : FnOk P w K mg base CX0 1 f fd ["self"] (spDone K C) := by
  refine F.ok scRd1 (fun vs H Q E h => ?_) (fun cdv A outer s H vs Q E hr h => ?_)
  · obtain ⟨r, cl, calls, pl, rfl, _⟩ := h
    rfl
  · refine ⟨_, pss_one (ps_ret (pe_cmpR op_ge (pe_fld (pv 0) rfl) (pe_callB call_len_seq (by rfl) ml PySem.boot_len (pa_cons (pe_fld (pv 0) rfl) pa_nil)) (nomark _))), ?_⟩
    obtain ⟨r, cl, calls, pl, rfl, ⟨dx, hr1, hc⟩, k⟩ := h
    refine ⟨_, rfl, r, C, dx, _, _, rfl, hr1, R.cls, R.np, rfl, _, rfl, r, C, dx, _, _, rfl, hr1, R.cls, R.nn, rfl, cl, _, rfl, .inl hc, _, _, rfl, rfl, ?_⟩
    have e : decide (calls.length ≤ pl) = decide (((calls.map V.int).length : Int) ≤ (pl : Int)) := by
      apply decide_eq_decide.mpr
      rw [List.length_map]; omega
    rw [e] at k
    exact k
def spTk (K : PySem.W.Frag) (C : Addr) : Sp := fun vs H Q _ => ∃ r cl calls pl x, vs = [.ref r] ∧ RdAt K C cl calls H r pl ∧ calls[pl]? = some x ∧ ∀ H', SmX r H H' → RdAt K C cl calls H' r (pl + 1) → Q (.int x) H'
theorem scRd2 : FnScope ["self", "number"] ["self"] (defScope (sRd 2)) :=
  ⟨rfl, rfl, rfl, by decide +kernel, rfl, by decide +kernel, by decide +kernel⟩
theorem ok_rd2 {f : Addr} {fd : FuncData} (F : Fun K "take_number" "Reader.take_number" (sRd 2) f fd) (R : RdC K C) : FnOk P w K mg base CX0 1 f fd ["self"] (spTk K C) := by
  refine F.ok scRd2 (fun vs H Q E h => ?_) (fun cdv A outer s H vs Q E hr h => ?_)
  · obtain ⟨r, cl, calls, pl, x, rfl, _⟩ := h
    rfl
  · refine ⟨_, pss_cons (ps_set (i := 1) scRd2.nd rfl (.inl rfl) (pe_ix ix_list (pe_fld (pv 0) rfl) (pe_fld (pv 0) rfl) (fun _ _ => rfl)))
      (pss_cons (ps_fldaug (pv 0) pe_int in_add) (pss_one (ps_ret (pv 1)))), ?_⟩
    obtain ⟨r, cl, calls, pl, x, rfl, ⟨dx, hr1, hc⟩, hx, k⟩ := h
    refine ⟨_, rfl, r, C, dx, _, _, rfl, hr1, R.cls, R.nn, rfl, _, rfl, r, C, dx, _, _, rfl, hr1, R.cls, R.np, rfl, cl, _, (pl : Int), .int x, rfl, rfl, hc, atI_nat (j := pl) (by rw [List.getElem?_map, hx]; rfl), ?_⟩
    refine ⟨_, rfl, r, C, dx, _, _, rfl, hr1, R.cls, R.np, rfl, _, _, rfl, rfl, dx, _, hr1, by show 2 < 1000; decide, ?_⟩
    have x2 := SmX.put (v := .ins C dx (putF "place" (.int ((pl : Int) + 1)) [("numbers", .ref cl), ("place", .int pl)])) hr1
    exact ⟨_, rfl, k _ x2 ⟨dx, by rw [upd_same]; rfl, x2.sq hr1 hc⟩⟩
def spTkR (K : PySem.W.Frag) (C : Addr) : Sp := fun vs H Q _ => ∃ (r cl : Addr) (calls : List Int) (pl c : Nat), vs = [.ref r] ∧ RdAt K C cl calls H r pl ∧ calls[pl]? = some (c : Int) ∧ pl + 1 + c ≤ calls.length ∧
  ∀ H' p, SmX r H H' → H p = none → RdAt K C cl calls H' r (pl + 1 + c) → H' p = some (.lst (((calls.drop (pl + 1)).take c).map V.int)) → Q (.ref p) H'
theorem scRd3 : FnScope ["self", "count", "row"] ["self"] (defScope (sRd 3)) :=
  ⟨rfl, rfl, rfl, by decide +kernel, rfl, by decide +kernel, by decide +kernel⟩
/-- a method by its class -/
structure MethD (P : Program) (w : World) (K : PySem.W.Frag) (mg : Str → Option Value) (base : Heap) (C : Addr) (k : Nat) (m : Str) (ps : List Str) (sp : Sp) : Prop where
  ex : ∃ (f : Addr) (fd : FuncData), FnOk P w K mg base CX0 k f fd ps sp ∧ Meth K C m f ∧ Binds K fd ps []
theorem ok_rd3 {f : Addr} {fd : FuncData} (F : Fun K "take_row" "Reader.take_row" (sRd 3) f fd) (R : RdC K C) (M : MethD P w K mg base C 1 "take_number" ["self"] (spTk K C)) : FnOk P w K mg base CX0 2 f fd ["self"] (spTkR K C) := by
  obtain ⟨f2, fd2, G2, m2, bb⟩ := M.ex
  refine F.ok scRd3 (fun vs H Q E h => ?_) (fun cdv A outer s H vs Q E hr h => ?_)
  · obtain ⟨r, cl, calls, pl, c, rfl, _⟩ := h
    rfl
  · refine ⟨_, pss_cons (ps_set (i := 1) scRd3.nd rfl (.inl rfl) (pe_meth0 (pv 0) R.cls m2 G2 hr bb .nil pass0))
      (pss_cons (ps_set (i := 2) scRd3.nd rfl (.inl rfl) (pe_slice sl_list (pe_fld (pv 0) rfl) (po_some (pe_fld (pv 0) rfl)) (po_some (pe_op op_add (pe_fld (pv 0) rfl) (pv 1)))))
      (pss_cons (ps_fldaug (pv 0) (pv 1) in_add) (pss_one (ps_ret (pv 2))))), ?_⟩
    obtain ⟨r, cl, calls, pl, c, rfl, rd, hx, hle, k⟩ := h
    obtain ⟨dx, hr1, hc⟩ := id rd
    refine ⟨_, rfl, r, dx, _, rfl, hr1, rfl, r, cl, calls, pl, c, rfl, rd, hx, fun H1 x1 rd1 => ?_⟩
    obtain ⟨dx1, hr2, hc2⟩ := rd1
    refine ⟨_, rfl, r, C, dx1, _, _, rfl, hr2, R.cls, R.nn, rfl, _, rfl, r, C, dx1, _, _, rfl, hr2, R.cls, R.np, rfl, _, rfl, _, rfl, r, C, dx1, _, _, rfl, hr2, R.cls, R.np, rfl, _, rfl, _, _, rfl, rfl, _, rfl, cl, _, rfl, hc2, fun p hp => ?_⟩
    have hpr : p ≠ r := fun z => by rw [z, hr2] at hp; cases hp
    have s2 := keep_same.new (o := .lst (cutV (calls.map V.int) (some ((pl + 1 : Nat) : Int)) (some (((pl + 1 : Nat) : Int) + (c : Int))))) hp
    have hr3 := s2 _ _ hr2
    refine ⟨_, rfl, r, C, dx1, _, _, rfl, hr3, R.cls, R.np, rfl, _, rfl, _, _, rfl, rfl, dx1, _, hr3, by show 2 < 1000; decide, ?_⟩
    have x3 := SmX.put (v := .ins C dx1 (putF "place" (.int (((pl + 1 : Nat) : Int) + (c : Int))) [("numbers", .ref cl), ("place", .int ((pl + 1 : Nat) : Int))])) hr3
    refine ⟨_, rfl, k _ p (x1.trans ((SmX.same s2).trans x3)) (x1.free _ hp) ⟨dx1, by rw [upd_same]; rfl, ((SmX.same s2).trans x3).sq hr2 hc2⟩ ?_⟩
    rw [upd_ne hpr, upd_same, cut_past, List.map_take, List.map_drop]
end
end Np
end
section
set_option maxRecDepth 100000
set_option maxHeartbeats 2000000
namespace Np
open PySem PySem.Spec PyProof.Rows L2 LamX NdefX
/-! ### the parse -/
theorem row_parse {l x t : List Int} (h : PyFlat.row l = some (x, t)) : l = (x.length : Int) :: (x ++ t) := by
  cases l with
  | nil => simp [PyFlat.row] at h
  | cons n r =>
    simp only [PyFlat.row] at h
    by_cases hc : 0 ≤ n ∧ n.toNat ≤ r.length
    · rw [if_pos hc] at h
      have h1 : r.take n.toNat = x := congrArg Prod.fst (Option.some.inj h)
      have h2 : r.drop n.toNat = t := congrArg Prod.snd (Option.some.inj h)
      rw [← h1, ← h2, List.take_append_drop, List.length_take]
      congr 1
      omega
    · rw [if_neg hc] at h; cases h
theorem rows2_parse {l t : List Int} {xs : List (List Int)} (h : PyFlat.rows 2 l = some (xs, t)) : ∃ x y, xs = [x, y] ∧ l = (x.length : Int) :: (x ++ (y.length : Int) :: (y ++ t)) := by
  simp only [PyFlat.rows] at h
  cases e1 : PyFlat.row l with
  | none => rw [e1] at h; cases h
  | some p =>
    obtain ⟨x, s⟩ := p
    rw [e1] at h
    simp only at h
    cases e2 : PyFlat.row s with
    | none => rw [e2] at h; cases h
    | some p2 =>
      obtain ⟨y, s2⟩ := p2
      rw [e2] at h
      simp only at h
      have h1 : [x, y] = xs := congrArg Prod.fst (Option.some.inj h)
      have h2 : s2 = t := congrArg Prod.snd (Option.some.inj h)
      refine ⟨x, y, h1.symm, ?_⟩
      rw [row_parse e1, row_parse e2, h2]
theorem within_nums {xs : List Int} (h : (decide (0 ≤ xs.length) && decide (xs.length ≤ 1024) && xs.all (PyInside.within 0 18446744073709551615)) = true) : Nums xs := by
  simp only [Bool.and_eq_true, decide_eq_true_eq] at h
  refine ⟨h.1.2, fun x hx => ?_⟩
  have := List.all_eq_true.mp h.2 x hx
  simp only [PyInside.within, Bool.and_eq_true, decide_eq_true_eq] at this
  exact this.1
theorem lists_nums {x y : List Int} (h : PyInside.lists [(0, 18446744073709551615, 0, 1024), (0, 18446744073709551615, 0, 1024)] [x, y] = true) : Nums x ∧ Nums y := by
  simp only [PyInside.lists, Bool.and_true] at h
  rw [Bool.and_eq_true] at h
  exact ⟨within_nums h.1, within_nums h.2⟩
/-- the three forms of a call -/
theorem call_parse {l t : List Int} {c : List (List Int)} (h : PyFlat.call PySq67.shape l = some (c, t)) (hb : PyInside.call PySq67.bound c = true) :
    (∃ p, (p = 2 ∨ p = 3 ∨ p = 4 ∨ p = 8) ∧ l = p :: t ∧ c = [[p]]) ∨
    (∃ p xs ys, (p = 5 ∨ p = 6 ∨ p = 9) ∧ l = p :: (xs.length : Int) :: (xs ++ (ys.length : Int) :: (ys ++ t)) ∧ c = [[p], xs, ys] ∧ Nums xs ∧ Nums ys) ∨
    (∃ p q xs ys, (p = 1 ∨ p = 7) ∧ l = p :: q :: (xs.length : Int) :: (xs ++ (ys.length : Int) :: (ys ++ t)) ∧ c = [[p, q], xs, ys] ∧ 0 ≤ q ∧ Nums xs ∧ Nums ys) := by
  cases l with
  | nil => simp [PyFlat.call] at h
  | cons p r =>
    have z0 : ∀ p, PySq67.shape p = some (0, 0) → PyFlat.call PySq67.shape (p :: r) = some (c, t) → (p :: r = p :: t ∧ c = [[p]]) := fun p hs h => by
      simp only [PyFlat.call, hs, PyFlat.rows, List.drop_zero, List.take_zero] at h
      rw [if_neg (by omega)] at h
      have h1 : [[p]] = c := congrArg Prod.fst (Option.some.inj h)
      have h2 : r = t := congrArg Prod.snd (Option.some.inj h)
      exact ⟨by rw [h2], h1.symm⟩
    have z2 : ∀ p, PySq67.shape p = some (0, 2) → PyFlat.call PySq67.shape (p :: r) = some (c, t) → ∃ xs ys, r = (xs.length : Int) :: (xs ++ (ys.length : Int) :: (ys ++ t)) ∧ c = [[p], xs, ys] := fun p hs h => by
      simp only [PyFlat.call, hs, List.drop_zero, List.take_zero] at h
      rw [if_neg (by omega)] at h
      cases e : PyFlat.rows 2 r with
      | none => rw [e] at h; cases h
      | some q =>
        obtain ⟨xs, t'⟩ := q
        rw [e] at h
        simp only at h
        have h1 : [p] :: xs = c := congrArg Prod.fst (Option.some.inj h)
        have h2 : t' = t := congrArg Prod.snd (Option.some.inj h)
        obtain ⟨x, y, rfl, er⟩ := rows2_parse e
        exact ⟨x, y, by rw [er, h2], h1.symm⟩
    have z12 : ∀ p, PySq67.shape p = some (1, 2) → PyFlat.call PySq67.shape (p :: r) = some (c, t) → ∃ q xs ys, r = q :: (xs.length : Int) :: (xs ++ (ys.length : Int) :: (ys ++ t)) ∧ c = [[p, q], xs, ys] := fun p hs h => by
      simp only [PyFlat.call, hs] at h
      by_cases hl : r.length < 1
      · rw [if_pos hl] at h; cases h
      · rw [if_neg hl] at h
        cases r with
        | nil => simp at hl
        | cons q r =>
          simp only [List.drop_succ_cons, List.drop_zero, List.take_succ_cons, List.take_zero] at h
          cases e : PyFlat.rows 2 r with
          | none => rw [e] at h; cases h
          | some q' =>
            obtain ⟨xs, t'⟩ := q'
            rw [e] at h
            simp only at h
            have h1 : [p, q] :: xs = c := congrArg Prod.fst (Option.some.inj h)
            have h2 : t' = t := congrArg Prod.snd (Option.some.inj h)
            obtain ⟨x, y, rfl, er⟩ := rows2_parse e
            exact ⟨q, x, y, by rw [er, h2], h1.symm⟩
    by_cases p1 : p = 1
    · subst p1
      obtain ⟨q, xs, ys, e1, rfl⟩ := z12 1 rfl h
      have hb' : (PyInside.each [(0, 18446744073709551615)] [q] && PyInside.lists [(0, 18446744073709551615, 0, 1024), (0, 18446744073709551615, 0, 1024)] [xs, ys]) = true := hb
      rw [Bool.and_eq_true] at hb'
      have hq : 0 ≤ q := by
        have := hb'.1
        simp only [PyInside.each, PyInside.within, Bool.and_eq_true, decide_eq_true_eq] at this
        exact this.1.1
      exact .inr (.inr ⟨1, q, xs, ys, .inl rfl, by rw [e1], rfl, hq, (lists_nums hb'.2).1, (lists_nums hb'.2).2⟩)
    by_cases p7 : p = 7
    · subst p7
      obtain ⟨q, xs, ys, e1, rfl⟩ := z12 7 rfl h
      have hb' : (PyInside.each [(0, 18446744073709551615)] [q] && PyInside.lists [(0, 18446744073709551615, 0, 1024), (0, 18446744073709551615, 0, 1024)] [xs, ys]) = true := hb
      rw [Bool.and_eq_true] at hb'
      have hq : 0 ≤ q := by
        have := hb'.1
        simp only [PyInside.each, PyInside.within, Bool.and_eq_true, decide_eq_true_eq] at this
        exact this.1.1
      exact .inr (.inr ⟨7, q, xs, ys, .inr rfl, by rw [e1], rfl, hq, (lists_nums hb'.2).1, (lists_nums hb'.2).2⟩)
    by_cases p5 : p = 5
    · subst p5
      obtain ⟨xs, ys, e1, rfl⟩ := z2 5 rfl h
      have hb' : (PyInside.each [] [] && PyInside.lists [(0, 18446744073709551615, 0, 1024), (0, 18446744073709551615, 0, 1024)] [xs, ys]) = true := hb
      rw [Bool.and_eq_true] at hb'
      exact .inr (.inl ⟨5, xs, ys, .inl rfl, by rw [e1], rfl, (lists_nums hb'.2).1, (lists_nums hb'.2).2⟩)
    by_cases p6 : p = 6
    · subst p6
      obtain ⟨xs, ys, e1, rfl⟩ := z2 6 rfl h
      have hb' : (PyInside.each [] [] && PyInside.lists [(0, 18446744073709551615, 0, 1024), (0, 18446744073709551615, 0, 1024)] [xs, ys]) = true := hb
      rw [Bool.and_eq_true] at hb'
      exact .inr (.inl ⟨6, xs, ys, .inr (.inl rfl), by rw [e1], rfl, (lists_nums hb'.2).1, (lists_nums hb'.2).2⟩)
    by_cases p9 : p = 9
    · subst p9
      obtain ⟨xs, ys, e1, rfl⟩ := z2 9 rfl h
      have hb' : (PyInside.each [] [] && PyInside.lists [(0, 18446744073709551615, 0, 1024), (0, 18446744073709551615, 0, 1024)] [xs, ys]) = true := hb
      rw [Bool.and_eq_true] at hb'
      exact .inr (.inl ⟨9, xs, ys, .inr (.inr rfl), by rw [e1], rfl, (lists_nums hb'.2).1, (lists_nums hb'.2).2⟩)
    by_cases p2 : p = 2
    · subst p2
      obtain ⟨e1, e2⟩ := z0 2 rfl h
      exact .inl ⟨2, .inl rfl, e1, e2⟩
    by_cases p3 : p = 3
    · subst p3
      obtain ⟨e1, e2⟩ := z0 3 rfl h
      exact .inl ⟨3, .inr (.inl rfl), e1, e2⟩
    by_cases p4 : p = 4
    · subst p4
      obtain ⟨e1, e2⟩ := z0 4 rfl h
      exact .inl ⟨4, .inr (.inr (.inl rfl)), e1, e2⟩
    by_cases p8 : p = 8
    · subst p8
      obtain ⟨e1, e2⟩ := z0 8 rfl h
      exact .inl ⟨8, .inr (.inr (.inr rfl)), e1, e2⟩
    have hs : PySq67.shape p = none := by
      unfold PySq67.shape
      rw [if_neg p1, if_neg p2, if_neg p3, if_neg p4, if_neg p5, if_neg p6, if_neg p7, if_neg p8, if_neg p9]
    simp only [PyFlat.call, hs] at h
    cases h
/-- what comes at a place -/
theorem at_drop {l r : List Int} {i : Nat} {x : Int} (h : l.drop i = x :: r) : l[i]? = some x ∧ l.drop (i + 1) = r ∧ i < l.length := by
  have hi : i < l.length := by
    rcases Nat.lt_or_ge i l.length with g | g
    · exact g
    · rw [List.drop_eq_nil_of_le g] at h; cases h
  rw [List.drop_eq_getElem_cons hi] at h
  injection h with h1 h2
  exact ⟨by rw [List.getElem?_eq_getElem hi, h1], h2, hi⟩
theorem row_drop {l x t : List Int} {i : Nat} (h : l.drop i = (x.length : Int) :: (x ++ t)) : l[i]? = some (x.length : Int) ∧ (l.drop (i + 1)).take x.length = x ∧ l.drop (i + 1 + x.length) = t ∧ i + 1 + x.length ≤ l.length := by
  obtain ⟨h1, h2, h3⟩ := at_drop h
  refine ⟨h1, by rw [h2, List.take_left], ?_, ?_⟩
  · rw [← List.drop_drop, h2, List.drop_left]
  · have := congrArg List.length h2
    rw [List.length_drop, List.length_append] at this
    omega
theorem step_of {h : List (List Int)} {c : List (List Int)} {k : Sq67.Call} (e : Sq67Neutral.callOf (PySq67.whole c) = some k) : Sq67Neutral.step h (PySq67.whole c) = ((Sq67.House.step h k).1, ansOf h k) := by
  unfold Sq67Neutral.step
  rw [e]
  rfl
end Np
end
section
set_option maxRecDepth 100000
set_option maxHeartbeats 4000000
namespace Np
open PySem PySem.Spec PyProof.Rows L2 LamX NdefX
/-! ### answer_of_next -/
abbrev sNx : Stmt := top 56
/-- all but the objects at o and r and the tables is kept -/
structure KpO (o r : Addr) (T : List (Addr × Str)) (H H' : Hp) : Prop where
  ext : ∀ b u, b ≠ o → b ≠ r → H b = some u → (∀ ps, u ≠ .tbl ps) → H' b = some u
  free : ∀ b, H' b = none → H b = none
theorem SmX.st {T : List (Addr × Str)} {C C' dx : Addr} {H H' : Hp} {o r : Addr} {h : List (List Int)} {fs : List (Str × V)} (x : SmX r H H') (hr : H r = some (.ins C' dx fs)) (ne : o ≠ r) (s : StAt T C H o h) : StAt T C H' o h := by
  obtain ⟨dx, bp, h1, as, h2, h3, h4⟩ := s.at_
  have ln : ∀ b xs, H b = some (.lst xs) → b ≠ r := fun b xs e z => by rw [z, hr] at e; cases e
  refine ⟨fun q hq => ?_, s.ok, dx, bp, x.ext _ _ ne h1, as, x.ext _ _ (ln _ _ h2) h2, h3, fun i b p e1 e2 => x.ext _ _ (ln _ _ (h4 i b p e1 e2)) (h4 i b p e1 e2)⟩
  obtain ⟨ps, a1, a2, a3⟩ := s.tabs q hq
  refine ⟨ps, x.ext _ _ (fun z => by rw [z, hr] at a1; cases a1) a1, a2, fun pos cv hc => ?_⟩
  obtain ⟨c, e1, e2⟩ := a3 pos cv hc
  exact ⟨c, e1, x.ext _ _ (fun z => by rw [z, hr] at e2; unfold CodeO at e2; cases e2) e2⟩
theorem KpX.rd {K : PySem.W.Frag} {T : List (Addr × Str)} {C C' dx : Addr} {H H' : Hp} {o r cl : Addr} {calls : List Int} {pl : Nat} {fs : List (Str × V)} (x : KpX o T H H') (ho : H o = some (.ins C dx fs)) (ne : o ≠ r) (s : RdAt K C' cl calls H r pl) : RdAt K C' cl calls H' r pl := by
  obtain ⟨dx, h1, h2⟩ := s
  refine ⟨dx, x.ext _ _ (Ne.symm ne) h1 (fun ps z => by cases z), ?_⟩
  rcases h2 with h | h
  · left
    rcases h with h | ⟨u, h⟩
    · exact .inl (x.ext _ _ (fun z => by rw [z, ho] at h; cases h) h (fun ps z => by cases z))
    · exact .inr ⟨u, x.ext _ _ (fun z => by rw [z, ho] at h; cases h) h (fun ps z => by cases z)⟩
  · exact .inr h
theorem Sep.after {C C' dx : Addr} {H H1 H2 : Hp} {o r : Addr} {fs : List (Str × V)} (x : SmX r H H1) (hr : H r = some (.ins C' dx fs)) (ne : o ≠ r) (s : Sep C o H1 H2) : Sep C o H H2 := fun dx bp as dx' bp' as' h1 h2 h3 h4 => by
  have ln : bp ≠ r := fun z => by rw [z, hr] at h2; cases h2
  obtain ⟨a, b⟩ := s dx bp as dx' bp' as' (x.ext _ _ ne h1) (x.ext _ _ ln h2) h3 h4
  refine ⟨a.imp id (x.free _), fun y hy => (b y hy).imp id (x.free _)⟩
theorem SmX.o {r o : Addr} {T : List (Addr × Str)} {H H' : Hp} (x : SmX r H H') : KpO o r T H H' := ⟨fun b u _ hr e _ => x.ext b u hr e, x.free⟩
theorem KpX.o {r o : Addr} {T : List (Addr × Str)} {H H' : Hp} (x : KpX o T H H') : KpO o r T H H' := ⟨fun b u ho _ e n => x.ext b u ho e n, x.free⟩
theorem KpO.trans {r o : Addr} {T : List (Addr × Str)} {H H1 H2 : Hp} (a : KpO o r T H H1) (b : KpO o r T H1 H2) : KpO o r T H H2 := ⟨fun x u h1 h2 e n => b.ext x u h1 h2 (a.ext x u h1 h2 e n) n, fun x e => a.free x (b.free x e)⟩
def spNx (K : PySem.W.Frag) (T : List (Addr × Str)) (C C' : Addr) : Sp := fun vs H Q _ => ∃ (o r cl : Addr) (h : List (List Int)) (calls : List Int) (pl : Nat) (c : List (List Int)) (t : List Int), vs = [.ref o, .ref r] ∧ o ≠ r ∧ StAt T C H o h ∧ RdAt K C' cl calls H r pl ∧
  PyFlat.call PySq67.shape (calls.drop pl) = some (c, t) ∧ PyInside.call PySq67.bound c = true ∧
  ∀ H' p pl', KpO o r T H H' → H p = none → H' p = some (.lst ((Sq67Neutral.step h (PySq67.whole c)).2.map V.int)) → StAt T C H' o (Sq67Neutral.step h (PySq67.whole c)).1 → RdAt K C' cl calls H' r pl' → calls.drop pl' = t → Sep C o H H' → Q (.ref p) H'
structure Consts (mg : Str → Option Value) : Prop where
  c1 : ∃ t, mg "BEGIN" = some (.int 1 t)
  c2 : ∃ t, mg "SHORTEST" = some (.int 2 t)
  c3 : ∃ t, mg "MINIMA" = some (.int 3 t)
  c4 : ∃ t, mg "REDUCED" = some (.int 4 t)
  c5 : ∃ t, mg "HAS" = some (.int 5 t)
  c6 : ∃ t, mg "SAME" = some (.int 6 t)
  c7 : ∃ t, mg "NEAREST" = some (.int 7 t)
  c8 : ∃ t, mg "WALLS" = some (.int 8 t)
  c9 : ∃ t, mg "JUDGE" = some (.int 9 t)
section
variable {P : Program} {w : World} {K : PySem.W.Frag} {mg : Str → Option Value} {base : Heap} {T : List (Addr × Str)} {C C' : Addr}
theorem scNx : FnScope ["row", "reader", "call"] ["row", "reader"] (defScope sNx) :=
  ⟨rfl, rfl, rfl, by decide +kernel, rfl, by decide +kernel, by decide +kernel⟩
theorem int_dec {x y : Int} (h : x ≠ y) : decide (V.int x = V.int y) = false := by
  rw [decide_eq_false_iff_not]; intro z; injection z; contradiction
theorem ok_nx {f : Addr} {fd : FuncData} (F : Fun K "answer_of_next" "answer_of_next" sNx f fd) (R : RowC K C) (R' : RdC K C') (cs : Consts mg)
    (M1 : MethD P w K mg base C 9 "begin" ["self", "n", "plus", "minus"] (spCallN K T C .begin_)) (M2 : MethD P w K mg base C 9 "shortest" ["self"] (spCall0 T C .shortest)) (M3 : MethD P w K mg base C 9 "minima" ["self"] (spCall0 T C .minima))
    (M4 : MethD P w K mg base C 2 "reduced" ["self"] (spCall0 T C .reduced)) (M5 : MethD P w K mg base C 5 "has" ["self", "plus", "minus"] (spCall2 K T C .has)) (M6 : MethD P w K mg base C 6 "same" ["self", "plus", "minus"] (spCall2 K T C .same))
    (M7 : MethD P w K mg base C 7 "nearest" ["self", "q", "plus", "minus"] (spCallN K T C .nearest)) (M8 : MethD P w K mg base C 9 "walls" ["self"] (spCall0 T C .walls)) (M9 : MethD P w K mg base C 7 "judge" ["self", "plus", "minus"] (spCall2 K T C .judge))
    (Mn : MethD P w K mg base C' 1 "take_number" ["self"] (spTk K C')) (Mr : MethD P w K mg base C' 2 "take_row" ["self"] (spTkR K C')) : FnOk P w K mg base CX0 10 f fd ["row", "reader"] (spNx K T C C') := by
  obtain ⟨t1, c1⟩ := cs.c1
  obtain ⟨t2, c2⟩ := cs.c2
  obtain ⟨t3, c3⟩ := cs.c3
  obtain ⟨t4, c4⟩ := cs.c4
  obtain ⟨t5, c5⟩ := cs.c5
  obtain ⟨t6, c6⟩ := cs.c6
  obtain ⟨t7, c7⟩ := cs.c7
  obtain ⟨t8, c8⟩ := cs.c8
  obtain ⟨t9, c9⟩ := cs.c9
  obtain ⟨f1, d1, G1, m1, e1⟩ := M1.ex
  obtain ⟨f2, d2, G2, m2, e2⟩ := M2.ex
  obtain ⟨f3, d3, G3, m3, e3⟩ := M3.ex
  obtain ⟨f4, d4, G4, m4, e4⟩ := M4.ex
  obtain ⟨f5, d5, G5, m5, e5⟩ := M5.ex
  obtain ⟨f6, d6, G6, m6, e6⟩ := M6.ex
  obtain ⟨f7, d7, G7, m7, e7⟩ := M7.ex
  obtain ⟨f8, d8, G8, m8, e8⟩ := M8.ex
  obtain ⟨f9, d9, G9, m9, e9⟩ := M9.ex
  obtain ⟨fn, dn, Gn, mn, en⟩ := Mn.ex
  obtain ⟨fr, dr, Gr, mr, er⟩ := Mr.ex
  refine F.ok scNx (fun vs H Q E h => ?_) (fun cdv A outer s H vs Q E hr h => ?_)
  · obtain ⟨o, r, cl, h, calls, pl, c, t, rfl, _⟩ := h
    rfl
  · have hr1 : Room 1 (A.deeper (envOfC (Str.ofString "answer_of_next") (defScope sNx) s.heap.objs.size f cdv)) := hr.mono (by decide)
    have hr2 : Room 2 (A.deeper (envOfC (Str.ofString "answer_of_next") (defScope sNx) s.heap.objs.size f cdv)) := hr.mono (by decide)
    refine ⟨_, pss_cons (ps_set (i := 2) scNx.nd rfl (.inl rfl) (pe_meth0 (pv 1) R'.cls mn Gn hr1 en .nil pass0))
      (pss_cons (ps_if (pt_cmpR op_eq (pv 2) (pe_glob (v := .int 1) rfl c1 ⟨_, rfl⟩) (nomark _)) (pss_one (ps_ret (pe_meth (pv 0) R.cls m1 G1 hr e1 .nil pass0 (pa_cons (pe_meth0 (pv 1) R'.cls mn Gn hr1 en .nil pass0) (pa_cons (pe_meth0 (pv 1) R'.cls mr Gr hr2 er .nil pass0) (pa_cons (pe_meth0 (pv 1) R'.cls mr Gr hr2 er .nil pass0) pa_nil)))))) pss_nil)
      (pss_cons (ps_if (pt_cmpR op_eq (pv 2) (pe_glob (v := .int 2) rfl c2 ⟨_, rfl⟩) (nomark _)) (pss_one (ps_ret (pe_meth0 (pv 0) R.cls m2 G2 hr e2 .nil pass0))) pss_nil)
      (pss_cons (ps_if (pt_cmpR op_eq (pv 2) (pe_glob (v := .int 3) rfl c3 ⟨_, rfl⟩) (nomark _)) (pss_one (ps_ret (pe_meth0 (pv 0) R.cls m3 G3 hr e3 .nil pass0))) pss_nil)
      (pss_cons (ps_if (pt_cmpR op_eq (pv 2) (pe_glob (v := .int 4) rfl c4 ⟨_, rfl⟩) (nomark _)) (pss_one (ps_ret (pe_meth0 (pv 0) R.cls m4 G4 hr2 e4 .nil pass0))) pss_nil)
      (pss_cons (ps_if (pt_cmpR op_eq (pv 2) (pe_glob (v := .int 5) rfl c5 ⟨_, rfl⟩) (nomark _)) (pss_one (ps_ret (pe_meth (pv 0) R.cls m5 G5 (hr.mono (by decide)) e5 .nil pass0 (pa_cons (pe_meth0 (pv 1) R'.cls mr Gr hr2 er .nil pass0) (pa_cons (pe_meth0 (pv 1) R'.cls mr Gr hr2 er .nil pass0) pa_nil))))) pss_nil)
      (pss_cons (ps_if (pt_cmpR op_eq (pv 2) (pe_glob (v := .int 6) rfl c6 ⟨_, rfl⟩) (nomark _)) (pss_one (ps_ret (pe_meth (pv 0) R.cls m6 G6 (hr.mono (by decide)) e6 .nil pass0 (pa_cons (pe_meth0 (pv 1) R'.cls mr Gr hr2 er .nil pass0) (pa_cons (pe_meth0 (pv 1) R'.cls mr Gr hr2 er .nil pass0) pa_nil))))) pss_nil)
      (pss_cons (ps_if (pt_cmpR op_eq (pv 2) (pe_glob (v := .int 7) rfl c7 ⟨_, rfl⟩) (nomark _)) (pss_one (ps_ret (pe_meth (pv 0) R.cls m7 G7 (hr.mono (by decide)) e7 .nil pass0 (pa_cons (pe_meth0 (pv 1) R'.cls mn Gn hr1 en .nil pass0) (pa_cons (pe_meth0 (pv 1) R'.cls mr Gr hr2 er .nil pass0) (pa_cons (pe_meth0 (pv 1) R'.cls mr Gr hr2 er .nil pass0) pa_nil)))))) pss_nil)
      (pss_cons (ps_if (pt_cmpR op_eq (pv 2) (pe_glob (v := .int 8) rfl c8 ⟨_, rfl⟩) (nomark _)) (pss_one (ps_ret (pe_meth0 (pv 0) R.cls m8 G8 hr e8 .nil pass0))) pss_nil)
      (pss_cons (ps_if (pt_cmpR op_eq (pv 2) (pe_glob (v := .int 9) rfl c9 ⟨_, rfl⟩) (nomark _)) (pss_one (ps_ret (pe_meth (pv 0) R.cls m9 G9 (hr.mono (by decide)) e9 .nil pass0 (pa_cons (pe_meth0 (pv 1) R'.cls mr Gr hr2 er .nil pass0) (pa_cons (pe_meth0 (pv 1) R'.cls mr Gr hr2 er .nil pass0) pa_nil))))) pss_nil)
      (pss_one ps_never)))))))))), ?_⟩
    obtain ⟨o, r, cl, h, calls, pl, c, t, rfl, ne, st, rd, hcall, hb, k⟩ := h
    obtain ⟨dx, bp, ho, hR⟩ := st.at_
    obtain ⟨dr, hrd, hcl⟩ := id rd
    rcases call_parse hcall hb with ⟨p, hp, el, rfl⟩ | ⟨p, xs, ys, hp, el, rfl, hx, hy⟩ | ⟨p, q, xs, ys, hp, el, rfl, hq, hx, hy⟩
    · obtain ⟨a1, a2, a3⟩ := at_drop el
      refine ⟨_, rfl, r, dr, _, rfl, hrd, rfl, r, cl, calls, pl, p, rfl, rd, a1, fun H1 x1 rd1 => ?_⟩
      have st1 := x1.st hrd ne st
      have ho1 : H1 o = some (.ins C dx [("basis", .ref bp)]) := x1.ext _ _ ne ho
      have fin : ∀ kc : Sq67.Call, Sq67Neutral.callOf (PySq67.whole [[p]]) = some kc → Ans T C H1 o h kc Q := fun kc ek H2 p2 kx hp2 e2 st2 sp2 => by
        refine k H2 p2 (pl + 1) (x1.o.trans kx.o) (x1.free _ hp2) ?_ ?_ (kx.rd ho1 ne rd1) a2 (sp2.after x1 hrd ne)
        · rw [step_of ek]; exact e2
        · rw [step_of ek]; exact st2
      rcases hp with rfl | rfl | rfl | rfl
      · exact ⟨_, rfl, rfl, _, rfl, ifF (int_dec (by decide)) ⟨_, rfl, rfl, _, rfl, ifT (by decide) ⟨_, rfl, o, dx, _, rfl, ho1, rfl, o, h, rfl, st1, fin _ rfl⟩⟩⟩
      · exact ⟨_, rfl, rfl, _, rfl, ifF (int_dec (by decide)) ⟨_, rfl, rfl, _, rfl, ifF (int_dec (by decide)) ⟨_, rfl, rfl, _, rfl, ifT (by decide) ⟨_, rfl, o, dx, _, rfl, ho1, rfl, o, h, rfl, st1, fin _ rfl⟩⟩⟩⟩
      · exact ⟨_, rfl, rfl, _, rfl, ifF (int_dec (by decide)) ⟨_, rfl, rfl, _, rfl, ifF (int_dec (by decide)) ⟨_, rfl, rfl, _, rfl, ifF (int_dec (by decide)) ⟨_, rfl, rfl, _, rfl, ifT (by decide) ⟨_, rfl, o, dx, _, rfl, ho1, rfl, o, h, rfl, st1, fin _ rfl⟩⟩⟩⟩⟩
      · exact ⟨_, rfl, rfl, _, rfl, ifF (int_dec (by decide)) ⟨_, rfl, rfl, _, rfl, ifF (int_dec (by decide)) ⟨_, rfl, rfl, _, rfl, ifF (int_dec (by decide)) ⟨_, rfl, rfl, _, rfl, ifF (int_dec (by decide)) ⟨_, rfl, rfl, _, rfl, ifF (int_dec (by decide)) ⟨_, rfl, rfl, _, rfl, ifF (int_dec (by decide)) ⟨_, rfl, rfl, _, rfl, ifF (int_dec (by decide)) ⟨_, rfl, rfl, _, rfl, ifT (by decide) ⟨_, rfl, o, dx, _, rfl, ho1, rfl, o, h, rfl, st1, fin _ rfl⟩⟩⟩⟩⟩⟩⟩⟩⟩
    · obtain ⟨a1, a2, a3⟩ := at_drop el
      obtain ⟨b1, b2', b3', b4⟩ := row_drop a2
      obtain ⟨g1, g2, g3, g4⟩ := row_drop b3'
      refine ⟨_, rfl, r, dr, _, rfl, hrd, rfl, r, cl, calls, pl, p, rfl, rd, a1, fun H1 x1 rd1 => ?_⟩
      have st1 := x1.st hrd ne st
      have ho1 : H1 o = some (.ins C dx [("basis", .ref bp)]) := x1.ext _ _ ne ho
      obtain ⟨dr1, hrd1, _⟩ := id rd1
      have fin : ∀ (mk : List Nat → List Nat → Sq67.Call), Sq67Neutral.callOf (PySq67.whole [[p], xs, ys]) = some (mk (nats xs) (nats ys)) →
          tMeth C' "take_row" (spTkR K C') [] E0 (tVar 1) tNil [some (.ref o), some (.ref r), some (.int p)] H1 (fun x H2 => tMeth C' "take_row" (spTkR K C') [] E0 (tVar 1) tNil [some (.ref o), some (.ref r), some (.int p)] H2 (fun y H3 => spCall2 K T C mk [.ref o, x, y] H3 Q E0)) := fun mk ek => by
        refine ⟨_, rfl, r, dr1, _, rfl, hrd1, rfl, r, cl, calls, pl + 1, xs.length, rfl, rd1, b1, b4, fun H2 px x2 hpx rd2 e2 => ?_⟩
        obtain ⟨dr2, hrd2, _⟩ := id rd2
        refine ⟨_, rfl, r, dr2, _, rfl, hrd2, rfl, r, cl, calls, pl + 1 + 1 + xs.length, ys.length, rfl, rd2, g1, g4, fun H3 py x3 hpy rd3 e3 => ?_⟩
        obtain ⟨dr3, hrd3, _⟩ := id rd3
        rw [b2'] at e2
        rw [g2] at e3
        have x13 := x2.trans x3
        have hpxr : px ≠ r := fun z => by rw [z, hrd1] at hpx; cases hpx
        have st3 := x13.st hrd1 ne st1
        have ho3 : H3 o = some (.ins C dx [("basis", .ref bp)]) := x13.ext _ _ ne ho1
        refine ⟨o, px, py, h, xs, ys, rfl, SqL.of (x3.ext _ _ hpxr e2), SqL.of e3, hx, hy, st3, fun H4 p4 kx hp4 e4 st4 sp4 => ?_⟩
        refine k H4 p4 _ ((x1.trans x13).o.trans kx.o) ((x1.trans x13).free _ hp4) ?_ ?_ (kx.rd ho3 ne rd3) g3 (sp4.after (x1.trans x13) hrd ne)
        · rw [step_of ek]; exact e4
        · rw [step_of ek]; exact st4
      rcases hp with rfl | rfl | rfl
      · exact ⟨_, rfl, rfl, _, rfl, ifF (int_dec (by decide)) ⟨_, rfl, rfl, _, rfl, ifF (int_dec (by decide)) ⟨_, rfl, rfl, _, rfl, ifF (int_dec (by decide)) ⟨_, rfl, rfl, _, rfl, ifF (int_dec (by decide)) ⟨_, rfl, rfl, _, rfl, ifT (by decide) ⟨_, rfl, o, dx, _, rfl, ho1, rfl, fin .has rfl⟩⟩⟩⟩⟩⟩
      · exact ⟨_, rfl, rfl, _, rfl, ifF (int_dec (by decide)) ⟨_, rfl, rfl, _, rfl, ifF (int_dec (by decide)) ⟨_, rfl, rfl, _, rfl, ifF (int_dec (by decide)) ⟨_, rfl, rfl, _, rfl, ifF (int_dec (by decide)) ⟨_, rfl, rfl, _, rfl, ifF (int_dec (by decide)) ⟨_, rfl, rfl, _, rfl, ifT (by decide) ⟨_, rfl, o, dx, _, rfl, ho1, rfl, fin .same rfl⟩⟩⟩⟩⟩⟩⟩
      · exact ⟨_, rfl, rfl, _, rfl, ifF (int_dec (by decide)) ⟨_, rfl, rfl, _, rfl, ifF (int_dec (by decide)) ⟨_, rfl, rfl, _, rfl, ifF (int_dec (by decide)) ⟨_, rfl, rfl, _, rfl, ifF (int_dec (by decide)) ⟨_, rfl, rfl, _, rfl, ifF (int_dec (by decide)) ⟨_, rfl, rfl, _, rfl, ifF (int_dec (by decide)) ⟨_, rfl, rfl, _, rfl, ifF (int_dec (by decide)) ⟨_, rfl, rfl, _, rfl, ifF (int_dec (by decide)) ⟨_, rfl, rfl, _, rfl, ifT (by decide) ⟨_, rfl, o, dx, _, rfl, ho1, rfl, fin .judge rfl⟩⟩⟩⟩⟩⟩⟩⟩⟩⟩
    · obtain ⟨a1, a2, a3⟩ := at_drop el
      obtain ⟨q1, q2, q3⟩ := at_drop a2
      obtain ⟨b1, b2', b3', b4⟩ := row_drop q2
      obtain ⟨g1, g2, g3, g4⟩ := row_drop b3'
      refine ⟨_, rfl, r, dr, _, rfl, hrd, rfl, r, cl, calls, pl, p, rfl, rd, a1, fun H1 x1 rd1 => ?_⟩
      have st1 := x1.st hrd ne st
      have ho1 : H1 o = some (.ins C dx [("basis", .ref bp)]) := x1.ext _ _ ne ho
      obtain ⟨dr1, hrd1, _⟩ := id rd1
      have fin : ∀ (mk : Nat → List Nat → List Nat → Sq67.Call), Sq67Neutral.callOf (PySq67.whole [[p, q], xs, ys]) = some (mk q.toNat (nats xs) (nats ys)) →
          tMeth C' "take_number" (spTk K C') [] E0 (tVar 1) tNil [some (.ref o), some (.ref r), some (.int p)] H1 (fun u H0 => tMeth C' "take_row" (spTkR K C') [] E0 (tVar 1) tNil [some (.ref o), some (.ref r), some (.int p)] H0 (fun x H2 => tMeth C' "take_row" (spTkR K C') [] E0 (tVar 1) tNil [some (.ref o), some (.ref r), some (.int p)] H2 (fun y H3 => spCallN K T C mk [.ref o, u, x, y] H3 Q E0))) := fun mk ek => by
        refine ⟨_, rfl, r, dr1, _, rfl, hrd1, rfl, r, cl, calls, pl + 1, q, rfl, rd1, q1, fun H0 x0 rd0 => ?_⟩
        obtain ⟨dr0, hrd0, _⟩ := id rd0
        refine ⟨_, rfl, r, dr0, _, rfl, hrd0, rfl, r, cl, calls, pl + 1 + 1, xs.length, rfl, rd0, b1, b4, fun H2 px x2 hpx rd2 e2 => ?_⟩
        obtain ⟨dr2, hrd2, _⟩ := id rd2
        refine ⟨_, rfl, r, dr2, _, rfl, hrd2, rfl, r, cl, calls, pl + 1 + 1 + 1 + xs.length, ys.length, rfl, rd2, g1, g4, fun H3 py x3 hpy rd3 e3 => ?_⟩
        obtain ⟨dr3, hrd3, _⟩ := id rd3
        rw [b2'] at e2
        rw [g2] at e3
        have x13 := x0.trans (x2.trans x3)
        have hpxr : px ≠ r := fun z => by rw [z, hrd0] at hpx; cases hpx
        have st3 := x13.st hrd1 ne st1
        have ho3 : H3 o = some (.ins C dx [("basis", .ref bp)]) := x13.ext _ _ ne ho1
        refine ⟨o, px, py, h, xs, ys, q, rfl, hq, SqL.of (x3.ext _ _ hpxr e2), SqL.of e3, hx, hy, st3, fun H4 p4 kx hp4 e4 st4 sp4 => ?_⟩
        refine k H4 p4 _ ((x1.trans x13).o.trans kx.o) ((x1.trans x13).free _ hp4) ?_ ?_ (kx.rd ho3 ne rd3) g3 (sp4.after (x1.trans x13) hrd ne)
        · rw [step_of ek]; exact e4
        · rw [step_of ek]; exact st4
      rcases hp with rfl | rfl
      · exact ⟨_, rfl, rfl, _, rfl, ifT (by decide) ⟨_, rfl, o, dx, _, rfl, ho1, rfl, fin .begin_ rfl⟩⟩
      · exact ⟨_, rfl, rfl, _, rfl, ifF (int_dec (by decide)) ⟨_, rfl, rfl, _, rfl, ifF (int_dec (by decide)) ⟨_, rfl, rfl, _, rfl, ifF (int_dec (by decide)) ⟨_, rfl, rfl, _, rfl, ifF (int_dec (by decide)) ⟨_, rfl, rfl, _, rfl, ifF (int_dec (by decide)) ⟨_, rfl, rfl, _, rfl, ifF (int_dec (by decide)) ⟨_, rfl, rfl, _, rfl, ifT (by decide) ⟨_, rfl, o, dx, _, rfl, ho1, rfl, fin .nearest rfl⟩⟩⟩⟩⟩⟩⟩⟩
end
end Np
end
section
set_option maxRecDepth 100000
set_option maxHeartbeats 4000000
namespace Np
open PySem PySem.Spec PyProof.Rows L2 LamX NdefX
/-! ### answers -/
abbrev sAn : Stmt := top 57
/-- the list at l is none of the object's -/
def Off (C o l : Addr) (H : Hp) : Prop := ∀ (dx bp : Addr) (as : List Addr), H o = some (.ins C dx [("basis", .ref bp)]) → H bp = some (.lst (as.map V.ref)) → l ≠ bp ∧ l ∉ as
theorem Off.step {T : List (Addr × Str)} {C o l : Addr} {H H' : Hp} {h : List (List Int)} (f : Off C o l H) (st : StAt T C H o h) (s : Sep C o H H') (hl : H l ≠ none) : Off C o l H' := fun dx' bp' as' h3 h4 => by
  obtain ⟨dx, bp, h1, as, h2, _⟩ := st.at_
  obtain ⟨a, b⟩ := s dx bp as dx' bp' as' h1 h2 h3 h4
  obtain ⟨f1, f2⟩ := f dx bp as h1 h2
  refine ⟨fun z => ?_, fun z => ?_⟩
  · rcases a with e | e
    · exact f1 (z.trans e)
    · exact hl (by rw [z]; exact e)
  · rcases b l z with e | e
    · exact f2 e
    · exact hl e
theorem StAt.updl {T : List (Addr × Str)} {C o l : Addr} {H : Hp} {h : List (List Int)} {xs ys : List V} (st : StAt T C H o h) (hl : H l = some (.lst xs)) (f : Off C o l H) : StAt T C (upd H l (.lst ys)) o h ∧ Off C o l (upd H l (.lst ys)) := by
  obtain ⟨dx, bp, h1, as, h2, h3, h4⟩ := st.at_
  obtain ⟨f1, f2⟩ := f dx bp as h1 h2
  have ol : o ≠ l := fun z => by rw [z, hl] at h1; cases h1
  have e1 : upd H l (.lst ys) o = some (.ins C dx [("basis", .ref bp)]) := by rw [upd_ne ol]; exact h1
  have e2 : upd H l (.lst ys) bp = some (.lst (as.map V.ref)) := by rw [upd_ne (Ne.symm f1)]; exact h2
  refine ⟨⟨tabs_upd st.tabs hl (fun ps z => by cases z) (fun φ z => by cases z), st.ok, dx, bp, e1, as, e2, h3, fun i b p g1 g2 => ?_⟩, fun dx' bp' as' g1 g2 => ?_⟩
  · rw [upd_ne (fun z => f2 (by rw [← z]; exact List.mem_of_getElem? g1))]
    exact h4 i b p g1 g2
  · rw [e1] at g1
    cases g1
    rw [e2] at g2
    have : as = as' := refs_inj (by injection g2 with e; injection e)
    subst this
    exact ⟨f1, f2⟩
theorem RdAt.updl {K : PySem.W.Frag} {C cl r l : Addr} {H : Hp} {calls : List Int} {pl : Nat} {xs ys : List V} (rd : RdAt K C cl calls H r pl) (hl : H l = some (.lst xs)) (d : cl ≠ l ∨ ∀ H' : Hp, SqL K H' cl (calls.map V.int)) : RdAt K C cl calls (upd H l (.lst ys)) r pl := by
  obtain ⟨dx, h1, h2⟩ := rd
  refine ⟨dx, by rw [upd_ne (fun z => by rw [z, hl] at h1; cases h1)]; exact h1, ?_⟩
  rcases d with d | d
  · rcases h2 with h | h
    · left
      rcases h with h | ⟨u, h⟩
      · exact .inl ((upd_ne d).trans h)
      · exact .inr ⟨u, (upd_ne d).trans h⟩
    · exact .inr h
  · exact d _
def spAns (K : PySem.W.Frag) (T : List (Addr × Str)) : Sp := fun vs H Q _ => ∃ (a : Addr) (calls : List Int), vs = [.ref a] ∧ SqL K H a (calls.map V.int) ∧ Tabs T H ∧ PySq67.answers_asked calls = true ∧
  ∀ H' p, H' p = some (.lst ((PySq67.answers calls).map V.int)) → Q (.ref p) H'
/-- a class that can be made -/
structure MakeD (P : Program) (w : World) (K : PySem.W.Frag) (mg : Str → Option Value) (base : Heap) (x : Str) (C : Addr) (k : Nat) (ps : List Str) (sp : Sp) : Prop where
  ex : ∃ (f : Addr) (fd : FuncData), Mk K C f ∧ FnOk P w K mg base CX0 k f fd ps sp ∧ Binds K fd ps []
  mg : mg x = some (.ref C)
theorem calls_cons {f : Nat} {l : List Int} {raw : List (List (List Int))} (h : PyFlat.calls PySq67.shape f l = some raw) (hl : l ≠ []) : ∃ f' c t rest, PyFlat.call PySq67.shape l = some (c, t) ∧ PyFlat.calls PySq67.shape f' t = some rest ∧ raw = c :: rest := by
  cases l with
  | nil => exact absurd rfl hl
  | cons p r =>
    cases f with
    | zero => simp [PyFlat.calls] at h
    | succ f =>
      simp only [PyFlat.calls] at h
      cases e : PyFlat.call PySq67.shape (p :: r) with
      | none => rw [e] at h; cases h
      | some q =>
        obtain ⟨c, t⟩ := q
        rw [e] at h
        simp only at h
        cases e2 : PyFlat.calls PySq67.shape f t with
        | none => rw [e2] at h; cases h
        | some rest =>
          rw [e2] at h
          exact ⟨f, c, t, rest, rfl, e2, (Option.some.inj h).symm⟩
theorem calls_nil {f : Nat} {raw : List (List (List Int))} (h : PyFlat.calls PySq67.shape f [] = some raw) : raw = [] := by
  cases f <;> exact (Option.some.inj h).symm
theorem told_cons (a : List Int) (r : List (List Int)) : PyFlat.told (a :: r) = ((a.length : Int) :: a) ++ PyFlat.told r := by simp [PyFlat.told]
section
variable {P : Program} {w : World} {K : PySem.W.Frag} {mg : Str → Option Value} {base : Heap} {T : List (Addr × Str)} {C C' : Addr}
theorem scAn : FnScope ["calls", "row", "reader", "told", "answer"] ["calls"] (defScope sAn) :=
  ⟨rfl, rfl, rfl, by decide +kernel, rfl, by decide +kernel, by decide +kernel⟩
theorem ok_an {f : Addr} {fd : FuncData} (F : Fun K "answers" "answers" sAn f fd) (R : RowC K C) (R' : RdC K C') (ml : mg "len" = none) (M0 : MakeD P w K mg base "StepRow" C 1 ["self"] (spRow0 T C)) (M1 : MakeD P w K mg base "Reader" C' 1 ["self", "numbers"] (spRd0 K C'))
    (Md : MethD P w K mg base C' 1 "is_done" ["self"] (spDone K C')) (Nx : Callee P w K mg base 10 "answer_of_next" ["row", "reader"] (spNx K T C C')) : FnOk P w K mg base CX0 11 f fd ["calls"] (spAns K T) := by
  obtain ⟨f0, d0, mk0, G0, bb0⟩ := M0.ex
  obtain ⟨f1, d1, mk1, G1, bb1⟩ := M1.ex
  obtain ⟨f2, d2, G2, m2, bb2⟩ := Md.ex
  refine F.ok scAn (fun vs H Q E h => ?_) (fun cdv A outer s H vs Q E hr h => ?_)
  · obtain ⟨a, calls, rfl, _⟩ := h
    rfl
  · refine ⟨_, pss_cons (ps_set (i := 1) scAn.nd rfl (.inl rfl) (pe_make0 mk0 G0 (hr.mono (by decide)) rfl M0.mg bb0 .nil pass0))
      (pss_cons (ps_set (i := 2) scAn.nd rfl (.inl rfl) (pe_make mk1 G1 (hr.mono (by decide)) rfl M1.mg bb1 .nil pass0 (pa_cons (pv 0) pa_nil)))
      (pss_cons (ps_set (i := 3) scAn.nd rfl (.inl rfl) (pe_lst pa_nil))
      (pss_cons (ps_while PassesOwn.never (pt_not (pt_val (pe_meth0 (pv 2) R'.cls m2 G2 (hr.mono (by decide)) bb2 .nil pass0)))
        (pss_cons (ps_set (i := 4) scAn.nd rfl (.inl rfl) (pe_def Nx hr rfl (pa_cons (pv 1) (pa_cons (pv 2) pa_nil))))
        (pss_cons (ps_expr (pe_bm PySem.F.plainAttrs_list PySem.F.slot_list_append PySem.F.type_list_append mt_append (pv 3) (pa_cons (pe_callB call_len_seq (by rfl) ml PySem.boot_len (pa_cons (pv 4) pa_nil)) pa_nil)))
        (pss_one (ps_expr (pe_bm PySem.F.plainAttrs_list PySem.F.slot_list_extend PySem.F.type_list_extend mt_extend (pv 3) (pa_cons (pv 4) pa_nil)))))))
      (pss_one (ps_ret (pv 3)))))), ?_⟩
    obtain ⟨a, calls, rfl, ha, tabs, asked, k⟩ := h
    -- what is asked
    unfold PySq67.answers_asked at asked
    cases eraw : PyFlat.calls PySq67.shape calls.length calls with
    | none => rw [eraw] at asked; cases asked
    | some raw =>
      rw [eraw] at asked
      simp only [Bool.and_eq_true] at asked
      obtain ⟨⟨⟨_, hin⟩, _⟩, hshort⟩ := asked
      have hlen : (PySq67.answers calls).length ≤ 10000000 := by simpa [PyFlat.short] using hshort
      have eans : PySq67.answers calls = PyFlat.told (PyFlat.played Sq67Neutral.step Sq67.fresh (raw.map PySq67.whole)) := by
        unfold PySq67.answers PySq67.calls
        rw [eraw]; rfl
      intro o dx ho hdx hne
      have s1 : Same H (upd (upd H dx (.own o)) o (.ins C dx [])) := keep_same.trans (keep_same.new hdx) (keep_same.new (by rw [upd_ne (Ne.symm hne)]; exact ho))
      refine ⟨o, dx, rfl, upd_same, tabs.ext s1, fun H2 k2 st2 => ⟨rfl, ?_⟩⟩
      -- the reader
      have keepA : ∀ {Hx Hy : Hp} {oo : Addr}, KpX oo T Hx Hy → (∀ ps, Hx a ≠ some (.tbl ps)) → a ≠ oo → SqL K Hx a (calls.map V.int) → SqL K Hy a (calls.map V.int) := fun kx _ hao h => by
        rcases h with h | h
        · left
          rcases h with h | ⟨u, h⟩
          · exact .inl (kx.ext _ _ hao h (fun ps z => by cases z))
          · exact .inr ⟨u, kx.ext _ _ hao h (fun ps z => by cases z)⟩
        · exact .inr h
      have ha2 : SqL K H2 a (calls.map V.int) := by
        rcases ha with h | h
        · left
          have nao : ∀ u, H a = some u → a ≠ o := fun u e z => by rw [z, ho] at e; cases e
          rcases h with h | ⟨u, h⟩
          · exact .inl (k2.ext _ _ (nao _ h) (s1 _ _ h) (fun ps z => by cases z))
          · exact .inr ⟨u, k2.ext _ _ (nao _ h) (s1 _ _ h) (fun ps z => by cases z)⟩
        · exact .inr h
      obtain ⟨dxo, bp, ho2, hRb⟩ := st2.at_
      refine ⟨_, rfl, fun r dr hr0 hdr hnr => ?_⟩
      have s3 : Same H2 (upd (upd H2 dr (.own r)) r (.ins C' dr [])) := keep_same.trans (keep_same.new hdr) (keep_same.new (by rw [upd_ne (Ne.symm hnr)]; exact hr0))
      have hr3 : upd (upd H2 dr (.own r)) r (.ins C' dr []) r = some (.ins C' dr []) := upd_same
      generalize hH3 : upd (upd H2 dr (.own r)) r (.ins C' dr []) = H3 at s3 hr3
      have ne : o ≠ r := fun z => by rw [← z, ho2] at hr0; cases hr0
      refine ⟨r, a, dr, calls, rfl, hr3, s3.seq ha2, fun H4 x4 rd4 => ⟨rfl, ?_⟩⟩
      have st3 : StAt T C H3 o Sq67.fresh := st2.keep (same_tabs s3)
      have st4 := x4.st hr3 ne st3
      obtain ⟨dr4, hr4, _⟩ := id rd4
      refine ⟨by show 0 ≤ sizeLine; decide, fun l hl => ?_⟩
      have s5 := keep_same.new (o := .lst []) hl
      have hl5 : upd H4 l (.lst []) l = some (.lst (([] : List Int).map V.int)) := upd_same
      have st5 := st4.keep (same_tabs (T := T) s5)
      have rd5 : RdAt K C' a calls (upd H4 l (.lst [])) r 0 := by
        obtain ⟨d, q1, q2⟩ := rd4
        exact ⟨d, s5 _ _ q1, s5.seq q2⟩
      have dis : a ≠ l ∨ ∀ H' : Hp, SqL K H' a (calls.map V.int) := by
        obtain ⟨d, q1, q2⟩ := rd4
        rcases q2 with h | h
        · left
          intro z
          rcases h with h | ⟨u, h⟩ <;> rw [z, hl] at h <;> cases h
        · exact .inr fun _ => .inr h
      have off5 : Off C o l (upd H4 l (.lst [])) := fun dx' bp' as' g1 g2 => by
        obtain ⟨d4, b4, q1, as4, q2, q3, q4⟩ := st4.at_
        have e1 := s5 _ _ q1
        rw [e1] at g1
        cases g1
        have e2 := s5 _ _ q2
        rw [e2] at g2
        have : as4 = as' := refs_inj (by injection g2 with e; injection e)
        subst this
        refine ⟨fun z => (by rw [← z, hl] at q2; cases q2), fun z => ?_⟩
        obtain ⟨i, hi⟩ := List.getElem?_of_mem z
        obtain ⟨p, hp⟩ : ∃ p, (Sq67.reduced Sq67.fresh)[i]? = some p := ⟨_, List.getElem?_eq_getElem (by rw [← q3]; exact (List.getElem?_eq_some_iff.mp hi).1)⟩
        have := q4 i l p hi hp
        rw [hl] at this; cases this
      generalize hH5 : upd H4 l (.lst []) = H5 at *
      refine ⟨fun m σ H' => ∃ (v4 : Option V) (pl : Nat) (h : List (List Int)) (acc : List Int) (fu : Nat) (rest : List (List (List Int))), σ = [some (.ref a), some (.ref o), some (.ref r), some (.ref l), v4] ∧ StAt T C H' o h ∧ RdAt K C' a calls H' r pl ∧ H' l = some (.lst (acc.map V.int)) ∧ Off C o l H' ∧
          PyFlat.calls PySq67.shape fu (calls.drop pl) = some rest ∧ PyInside.calls PySq67.bound rest = true ∧ PySq67.answers calls = acc ++ PyFlat.told (PyFlat.played Sq67Neutral.step h (rest.map PySq67.whole)) ∧ m = rest.length,
        ⟨_, none, 0, Sq67.fresh, [], calls.length, raw, rfl, st5, rd5, hl5, off5, by rw [List.drop_zero]; exact eraw, hin, by rw [eans]; rfl, rfl⟩, ?_⟩
      rintro m σ H' ⟨v4, pl, h, acc, fu, rest, rfl, st, rd, hL, off, hpar, hbd, heq, rfl⟩
      obtain ⟨drr, hrr, hcl⟩ := id rd
      refine ⟨_, rfl, r, drr, _, rfl, hrr, rfl, r, a, calls, pl, rfl, rd, _, rfl, ?_⟩
      by_cases hdone : calls.length ≤ pl
      · refine ifF (by simp [hdone]) ?_
        rw [List.drop_eq_nil_of_le hdone] at hpar
        have e := calls_nil hpar
        subst e
        refine ⟨_, rfl, k H' l ?_⟩
        rw [hL, heq]
        simp [PyFlat.played, PyFlat.told]
      · refine ifT (by simp [hdone]) ?_
        have hdn : calls.drop pl ≠ [] := fun z => by
          have := congrArg List.length z
          rw [List.length_drop] at this
          simp at this
          omega
        obtain ⟨fu', c, t, rest', hcall, hpar', rfl⟩ := calls_cons hpar hdn
        have hb2 : PyInside.call PySq67.bound c = true ∧ PyInside.calls PySq67.bound rest' = true := by
          unfold PyInside.calls at hbd
          rw [List.all_cons, Bool.and_eq_true] at hbd
          exact hbd
        refine ⟨fun σ' H'' => ∃ (v4 : Option V) (pl' : Nat), σ' = [some (.ref a), some (.ref o), some (.ref r), some (.ref l), v4] ∧ StAt T C H'' o (Sq67Neutral.step h (PySq67.whole c)).1 ∧ RdAt K C' a calls H'' r pl' ∧ calls.drop pl' = t ∧
            H'' l = some (.lst ((acc ++ (((Sq67Neutral.step h (PySq67.whole c)).2.length : Int) :: (Sq67Neutral.step h (PySq67.whole c)).2)).map V.int)) ∧ Off C o l H'', ?_, ?_⟩
        · rintro σ' H'' ⟨v4', pl', rfl, st', rd', hdr', hL', off'⟩
          refine ⟨rest'.length, by simp, v4', pl', _, _, fu', rest', rfl, st', rd', hL', off', by rw [hdr']; exact hpar', hb2.2, ?_, rfl⟩
          rw [heq, List.map_cons, PyFlat.played, told_cons, List.append_assoc]
        · refine ⟨_, rfl, _, rfl, o, r, a, h, calls, pl, c, t, rfl, ne, st, rd, hcall, hb2.1, fun H1 p pl' kO hp e1 st1 rd1 hdr1 sp1 => ?_⟩
          generalize hans : (Sq67Neutral.step h (PySq67.whole c)).2 = ans at *
          have lo : l ≠ o := fun z => by
            obtain ⟨d, b, q, _⟩ := st.at_
            rw [z, q] at hL; cases hL
          have lr : l ≠ r := fun z => by rw [z, hrr] at hL; cases hL
          have hL1 := kO.ext _ _ lo lr hL (fun ps z => by cases z)
          have pl_ : p ≠ l := fun z => by rw [z, hL] at hp; cases hp
          have off1 := off.step st sp1 (by rw [hL]; exact fun z => by cases z)
          have sz : acc.length + (ans.length + 1) ≤ 10000000 := by
            rw [heq, List.map_cons, PyFlat.played, told_cons, hans] at hlen
            simp only [List.length_append, List.length_cons] at hlen
            omega
          refine ⟨_, rfl, .inl ⟨rfl, _, SqL.of hL1⟩, _, rfl, p, _, rfl, .inl (SqL.of e1), l, _, _, rfl, rfl, hL1, by rw [sizeLine_eq]; simp; omega, ?_⟩
          obtain ⟨stA, offA⟩ := st1.updl (ys := acc.map V.int ++ [V.int ((ans.map V.int).length : Nat)]) hL1 off1
          have rdA := rd1.updl (ys := acc.map V.int ++ [V.int ((ans.map V.int).length : Nat)]) hL1 dis
          have hLA : upd H1 l (.lst (acc.map V.int ++ [V.int ((ans.map V.int).length : Nat)])) l = some (.lst (acc.map V.int ++ [V.int ((ans.map V.int).length : Nat)])) := upd_same
          have eA : upd H1 l (.lst (acc.map V.int ++ [V.int ((ans.map V.int).length : Nat)])) p = some (.lst (ans.map V.int)) := by rw [upd_ne pl_]; exact e1
          refine ⟨_, rfl, .inl ⟨rfl, _, SqL.of hLA⟩, _, rfl, l, p, _, _, rfl, rfl, hLA, eA, by rw [sizeLine_eq]; simp; omega, ?_⟩
          obtain ⟨stB, offB⟩ := stA.updl (ys := acc.map V.int ++ [V.int ((ans.map V.int).length : Nat)] ++ ans.map V.int) hLA offA
          refine ⟨_, pl', rfl, stB, rdA.updl hLA dis, hdr1, ?_, offB⟩
          rw [upd_same]
          simp
end
end Np
end
section
set_option maxRecDepth 100000
set_option maxHeartbeats 8000000
namespace Np
open PySem PySem.Spec PyProof.Rows L2 LamX NdefX
theorem fun_of {K : PySem.W.Frag} {x qual : Str} {st : Stmt} {f : Addr} {fd : FuncData} (F : FunD K x qual (defArgs st) (defBody st) (defScope st) [] [] f fd) : Fun K x qual st f fd := by
  obtain ⟨⟨oc, od, dV, kV, doc, pm, an, cdv, ct, osl, e, lk, hc, hd, hk⟩, kp⟩ := F
  have : dV = .none := hd.elim (fun z => z.2) (fun z => absurd rfl z.1)
  subst this
  exact ⟨⟨oc, od, kV, doc, pm, an, cdv, ct, osl, e, lk, hc⟩, kp⟩
/-- the tables with the names of what is made by them -/
def TL (K : PySem.W.Frag) : List (Addr × Str) := [((He.cT K ("longest_taken", none)).2, Str.ofString "longest_taken.<locals>." ++ Str.ofString "<lambda>"), ((He.cT K ("times_up_to", none)).2, Str.ofString "times_up_to.<locals>." ++ Str.ofString "<lambda>"), ((He.cT K ("different_lengths", none)).2, Str.ofString "different_lengths.<locals>." ++ Str.ofString "<lambda>"), ((He.cT K ("reduced_steps", none)).2, Str.ofString "reduced_steps.<locals>." ++ Str.ofString "<lambda>")]
section
variable {P : Program} {w : World} {K : PySem.W.Frag} {mg : Str → Option Value} {h base : Heap} {fa : List He.Fa} {fn : List He.DefD}
theorem def_at (X : K.In h) (G : h.Ns mainGlobals mg) (c : He.SaysD fa fn K) (i j : Nat) {x : Str} {st : Stmt} (hi : fn[i]? = some ⟨(x, none), x, x, defArgs st, defBody st, defScope st, [], []⟩) (hj : fa[j]? = some (.glo x)) :
    ∃ fd, Fun K x x st (He.ga K x) fd ∧ mg x = some (.ref (He.ga K x)) := by
  obtain ⟨fd, F⟩ := c.def_ i hi
  exact ⟨fd, fun_of F, He.glo_ok X G (c.fact j hj)⟩
theorem callee_mk {k : Nat} {x : Str} {st : Stmt} {f : Addr} {fd : FuncData} {ps : List Str} {sp : Sp} (F : Fun K x x st f fd) (m : mg x = some (.ref f)) (ok : FnOk P w K mg base CX0 k f fd ps sp)
    (hb : ∀ (kV doc pm : Value) (an : Option Addr) (cdv ct : Value) (us : List Value), us.length = ps.length → bindArgs (PySem.W.fnOf x x (defArgs st) (defBody st) (defScope st) .none kV doc pm an cdv ct) ⟨us, []⟩ = pure (ps.zip us)) :
    Callee P w K mg base k x ps sp := ⟨f, fd, ok, m, F.kp, F.binds hb⟩
theorem meth_at (c : He.SaysD fa fn K) (i j : Nat) {x m q : Str} {st : Stmt} (hi : fn[i]? = some ⟨(x, some m), m, q, defArgs st, defBody st, defScope st, [], []⟩) (hj : fa[j]? = some (.meth x m)) :
    ∃ fd, Fun K m q st (He.ma K (He.ga K x) m) fd ∧ Meth K (He.ga K x) m (He.ma K (He.ga K x) m) := by
  obtain ⟨fd, F⟩ := c.def_ i hi
  exact ⟨fd, fun_of F, He.meth_ok (c.fact j hj)⟩
theorem init_at (c : He.SaysD fa fn K) (i j : Nat) {x q : Str} {st : Stmt} (hi : fn[i]? = some ⟨(x, some "__init__"), "__init__", q, defArgs st, defBody st, defScope st, [], []⟩) (hj : fa[j]? = some (.mkr x)) :
    ∃ fd, Fun K "__init__" q st (He.ma K (He.ga K x) "__init__") fd ∧ Mk K (He.ga K x) (He.ma K (He.ga K x) "__init__") := by
  obtain ⟨fd, F⟩ := c.def_ i hi
  exact ⟨fd, fun_of F, He.mkr_ok (c.fact j hj)⟩
theorem code_of {x : Str} {st : Stmt} {fd : FuncData} (F : Fun K x x st (He.ga K x) fd) : fd.code = .ref (He.cT K (x, none)).1 := by
  obtain ⟨oc, od, kV, doc, pm, an, cdv, ct, osl, rfl, lk, hc⟩ := F.ex
  obtain ⟨c, rfl⟩ := He.codeIn_ref hc
  have := He.codeOf_eq (p := (x, none)) lk rfl
  show Value.ref c = .ref (He.codeOf K (x, none))
  rw [this]
theorem nd4 {α : Type} {a b c d : α} (h : [a, b, c, d].Nodup) : a ≠ b ∧ a ≠ c ∧ a ≠ d ∧ b ≠ c ∧ b ≠ d ∧ c ≠ d := by
  simp only [List.nodup_cons, List.mem_cons, List.not_mem_nil, or_false, not_or, List.nodup_nil, and_true, not_false_eq_true] at h
  exact ⟨h.1.1, h.1.2.1, h.1.2.2, h.2.1.1, h.2.1.2, h.2.2⟩
theorem all_ok {fd : FuncData} (X : K.In base) (G : base.Ns mainGlobals mg) (c : He.SaysD NpHead.faL NpHead.fnL K) (nd : (NpHead.tfL.map fun p => (He.cT K p).2).Nodup) (TB : ∀ p ∈ NpHead.tfL, TabB base mg (He.cT K p).1 (He.cT K p).2)
    (FA : Fun K "answers" "answers" sAn (He.ga K "answers") fd) : FnOk P w K mg base CX0 11 (He.ga K "answers") fd ["calls"] (spAns K (TL K)) := by
  obtain ⟨e12, e13, e14, e23, e24, e34⟩ := nd4 (a := (He.cT K ("longest_taken", none)).2) (b := (He.cT K ("times_up_to", none)).2) (c := (He.cT K ("different_lengths", none)).2) (d := (He.cT K ("reduced_steps", none)).2) nd
  have mz : mg "zip" = none := He.free_ok X G (c.fact 45 (f := .free "zip") rfl)
  have mS : mg "sum" = none := He.free_ok X G (c.fact 44 (f := .free "sum") rfl)
  have mL : mg "len" = none := He.free_ok X G (c.fact 38 (f := .free "len") rfl)
  have mA : mg "any" = none := He.free_ok X G (c.fact 36 (f := .free "any") rfl)
  have mB : mg "abs" = none := He.free_ok X G (c.fact 35 (f := .free "abs") rfl)
  have mE : mg "enumerate" = none := He.free_ok X G (c.fact 37 (f := .free "enumerate") rfl)
  have mX : mg "max" = none := He.free_ok X G (c.fact 40 (f := .free "max") rfl)
  have mN : mg "min" = none := He.free_ok X G (c.fact 41 (f := .free "min") rfl)
  have mI : mg "list" = none := He.free_ok X G (c.fact 39 (f := .free "list") rfl)
  have mR : mg "range" = none := He.free_ok X G (c.fact 42 (f := .free "range") rfl)
  have mO : mg "sorted" = none := He.free_ok X G (c.fact 43 (f := .free "sorted") rfl)
  have i_WRONG_NUMBER : ∃ t, mg "WRONG_NUMBER" = some (.int (-1) t) := He.int_ok X G (c.fact 46 (f := .int "WRONG_NUMBER" (-1)) rfl)
  have i_WRONG_COUNT : ∃ t, mg "WRONG_COUNT" = some (.int (-3) t) := He.int_ok X G (c.fact 47 (f := .int "WRONG_COUNT" (-3)) rfl)
  have i_LIES_WHERE_OTHERS_LEAD : ∃ t, mg "LIES_WHERE_OTHERS_LEAD" = some (.int (-4) t) := He.int_ok X G (c.fact 48 (f := .int "LIES_WHERE_OTHERS_LEAD" (-4)) rfl)
  have i_MOST_OF_STEP : ∃ t, mg "MOST_OF_STEP" = some (.int (9) t) := He.int_ok X G (c.fact 49 (f := .int "MOST_OF_STEP" (9)) rfl)
  have i_MOST_OF_POINT : ∃ t, mg "MOST_OF_POINT" = some (.int (100) t) := He.int_ok X G (c.fact 50 (f := .int "MOST_OF_POINT" (100)) rfl)
  have i_MOST_OF_Q : ∃ t, mg "MOST_OF_Q" = some (.int (10) t) := He.int_ok X G (c.fact 51 (f := .int "MOST_OF_Q" (10)) rfl)
  have i_BEGIN : ∃ t, mg "BEGIN" = some (.int (1) t) := He.int_ok X G (c.fact 52 (f := .int "BEGIN" (1)) rfl)
  have i_SHORTEST : ∃ t, mg "SHORTEST" = some (.int (2) t) := He.int_ok X G (c.fact 53 (f := .int "SHORTEST" (2)) rfl)
  have i_MINIMA : ∃ t, mg "MINIMA" = some (.int (3) t) := He.int_ok X G (c.fact 54 (f := .int "MINIMA" (3)) rfl)
  have i_REDUCED : ∃ t, mg "REDUCED" = some (.int (4) t) := He.int_ok X G (c.fact 55 (f := .int "REDUCED" (4)) rfl)
  have i_HAS : ∃ t, mg "HAS" = some (.int (5) t) := He.int_ok X G (c.fact 56 (f := .int "HAS" (5)) rfl)
  have i_SAME : ∃ t, mg "SAME" = some (.int (6) t) := He.int_ok X G (c.fact 57 (f := .int "SAME" (6)) rfl)
  have i_NEAREST : ∃ t, mg "NEAREST" = some (.int (7) t) := He.int_ok X G (c.fact 58 (f := .int "NEAREST" (7)) rfl)
  have i_WALLS : ∃ t, mg "WALLS" = some (.int (8) t) := He.int_ok X G (c.fact 59 (f := .int "WALLS" (8)) rfl)
  have i_JUDGE : ∃ t, mg "JUDGE" = some (.int (9) t) := He.int_ok X G (c.fact 60 (f := .int "JUDGE" (9)) rfl)
  have hT_longest_taken : ((He.cT K ("longest_taken", none)).2, (Str.ofString "longest_taken.<locals>." ++ Str.ofString "<lambda>" : Str)) ∈ TL K := by simp [TL]
  have hu_longest_taken : ∀ p ∈ TL K, p.1 = (He.cT K ("longest_taken", none)).2 → p.2 = (Str.ofString "longest_taken.<locals>." ++ Str.ofString "<lambda>" : Str) := by
    intro p hp e
    simp only [TL, List.mem_cons, List.not_mem_nil, or_false] at hp
    rcases hp with rfl | rfl | rfl | rfl
    · rfl
    · exact absurd e.symm e12
    · exact absurd e.symm e13
    · exact absurd e.symm e14
  have TB_longest_taken := TB ("longest_taken", none) (by simp [NpHead.tfL])
  have hT_times_up_to : ((He.cT K ("times_up_to", none)).2, (Str.ofString "times_up_to.<locals>." ++ Str.ofString "<lambda>" : Str)) ∈ TL K := by simp [TL]
  have hu_times_up_to : ∀ p ∈ TL K, p.1 = (He.cT K ("times_up_to", none)).2 → p.2 = (Str.ofString "times_up_to.<locals>." ++ Str.ofString "<lambda>" : Str) := by
    intro p hp e
    simp only [TL, List.mem_cons, List.not_mem_nil, or_false] at hp
    rcases hp with rfl | rfl | rfl | rfl
    · exact absurd e e12
    · rfl
    · exact absurd e.symm e23
    · exact absurd e.symm e24
  have TB_times_up_to := TB ("times_up_to", none) (by simp [NpHead.tfL])
  have hT_different_lengths : ((He.cT K ("different_lengths", none)).2, (Str.ofString "different_lengths.<locals>." ++ Str.ofString "<lambda>" : Str)) ∈ TL K := by simp [TL]
  have hu_different_lengths : ∀ p ∈ TL K, p.1 = (He.cT K ("different_lengths", none)).2 → p.2 = (Str.ofString "different_lengths.<locals>." ++ Str.ofString "<lambda>" : Str) := by
    intro p hp e
    simp only [TL, List.mem_cons, List.not_mem_nil, or_false] at hp
    rcases hp with rfl | rfl | rfl | rfl
    · exact absurd e e13
    · exact absurd e e23
    · rfl
    · exact absurd e.symm e34
  have TB_different_lengths := TB ("different_lengths", none) (by simp [NpHead.tfL])
  have hT_reduced_steps : ((He.cT K ("reduced_steps", none)).2, (Str.ofString "reduced_steps.<locals>." ++ Str.ofString "<lambda>" : Str)) ∈ TL K := by simp [TL]
  have hu_reduced_steps : ∀ p ∈ TL K, p.1 = (He.cT K ("reduced_steps", none)).2 → p.2 = (Str.ofString "reduced_steps.<locals>." ++ Str.ofString "<lambda>" : Str) := by
    intro p hp e
    simp only [TL, List.mem_cons, List.not_mem_nil, or_false] at hp
    rcases hp with rfl | rfl | rfl | rfl
    · exact absurd e e14
    · exact absurd e e24
    · exact absurd e e34
    · rfl
  have TB_reduced_steps := TB ("reduced_steps", none) (by simp [NpHead.tfL])
  obtain ⟨fd_dot, F_dot, m_dot⟩ := def_at (st := sDot) X G c 0 0 (x := "dot") rfl rfl
  have C_dot := callee_mk F_dot m_dot (ok_dot (P := P) (w := w) (mg := mg) (base := base) F_dot mz mS) (fun _ _ _ _ _ _ us hl => match us, hl with | [_, _], _ => rfl)
  obtain ⟨fd_length, F_length, m_length⟩ := def_at (st := sLength) X G c 1 1 (x := "length") rfl rfl
  have C_length := callee_mk F_length m_length (ok_length (P := P) (w := w) (mg := mg) (base := base) F_length C_dot) (fun _ _ _ _ _ _ us hl => match us, hl with | [_], _ => rfl)
  obtain ⟨fd_order, F_order, m_order⟩ := def_at (st := sOrder) X G c 2 2 (x := "order") rfl rfl
  have C_order := callee_mk F_order m_order (ok_order (P := P) (w := w) (mg := mg) (base := base) F_order C_length) (fun _ _ _ _ _ _ us hl => match us, hl with | [_], _ => rfl)
  obtain ⟨fd_is_forward, F_is_forward, m_is_forward⟩ := def_at (st := sForward) X G c 3 3 (x := "is_forward") rfl rfl
  have C_is_forward := callee_mk F_is_forward m_is_forward (ok_forward (P := P) (w := w) (mg := mg) (base := base) F_is_forward ) (fun _ _ _ _ _ _ us hl => match us, hl with | [_], _ => rfl)
  obtain ⟨fd_together, F_together, m_together⟩ := def_at (st := sTogether) X G c 4 4 (x := "together") rfl rfl
  have C_together := callee_mk F_together m_together (ok_together (P := P) (w := w) (mg := mg) (base := base) F_together mz) (fun _ _ _ _ _ _ us hl => match us, hl with | [_, _], _ => rfl)
  obtain ⟨fd_left_over, F_left_over, m_left_over⟩ := def_at (st := sLeft) X G c 5 5 (x := "left_over") rfl rfl
  have C_left_over := callee_mk F_left_over m_left_over (ok_left (P := P) (w := w) (mg := mg) (base := base) F_left_over mz) (fun _ _ _ _ _ _ us hl => match us, hl with | [_, _, _], _ => rfl)
  obtain ⟨fd_cross, F_cross, m_cross⟩ := def_at (st := sCross) X G c 6 6 (x := "cross") rfl rfl
  have C_cross := callee_mk F_cross m_cross (ok_cross (P := P) (w := w) (mg := mg) (base := base) F_cross ) (fun _ _ _ _ _ _ us hl => match us, hl with | [_, _], _ => rfl)
  obtain ⟨fd_normals, F_normals, m_normals⟩ := def_at (st := sNormals) X G c 7 7 (x := "normals") rfl rfl
  have C_normals := callee_mk F_normals m_normals (ok_normals (P := P) (w := w) (mg := mg) (base := base) F_normals mL C_cross) (fun _ _ _ _ _ _ us hl => match us, hl with | [_], _ => rfl)
  obtain ⟨fd_determinant, F_determinant, m_determinant⟩ := def_at (st := sDet) X G c 8 8 (x := "determinant") rfl rfl
  have C_determinant := callee_mk F_determinant m_determinant (ok_det (P := P) (w := w) (mg := mg) (base := base) F_determinant C_dot C_normals) (fun _ _ _ _ _ _ us hl => match us, hl with | [_], _ => rfl)
  obtain ⟨fd_times_taken, F_times_taken, m_times_taken⟩ := def_at (st := sTaken) X G c 9 9 (x := "times_taken") rfl rfl
  have C_times_taken := callee_mk F_times_taken m_times_taken (ok_taken (P := P) (w := w) (mg := mg) (base := base) F_times_taken C_dot C_normals C_determinant mA) (fun _ _ _ _ _ _ us hl => match us, hl with | [_, _], _ => rfl)
  obtain ⟨fd_lead_to_the_same, F_lead_to_the_same, m_lead_to_the_same⟩ := def_at (st := sLead) X G c 10 10 (x := "lead_to_the_same") rfl rfl
  have C_lead_to_the_same := callee_mk F_lead_to_the_same m_lead_to_the_same (ok_lead (P := P) (w := w) (mg := mg) (base := base) F_lead_to_the_same C_determinant C_times_taken mA mB) (fun _ _ _ _ _ _ us hl => match us, hl with | [_, _], _ => rfl)
  obtain ⟨fd_box, F_box, m_box⟩ := def_at (st := sBox) X G c 11 11 (x := "box") rfl rfl
  have C_box := callee_mk F_box m_box (ok_box (P := P) (w := w) (mg := mg) (base := base) F_box ) (fun _ _ _ _ _ _ us hl => match us, hl with | [_], _ => rfl)
  obtain ⟨fd_longest_taken, F_longest_taken, m_longest_taken⟩ := def_at (st := sLT) X G c 12 12 (x := "longest_taken") rfl rfl
  have C_longest_taken := callee_mk F_longest_taken m_longest_taken (ok_lt (P := P) (w := w) (mg := mg) (base := base) F_longest_taken (code_of F_longest_taken) TB_longest_taken hT_longest_taken hu_longest_taken C_length mE mX) (fun _ _ _ _ _ _ us hl => match us, hl with | [_, _], _ => rfl)
  obtain ⟨fd_shortened, F_shortened, m_shortened⟩ := def_at (st := sSh) X G c 13 13 (x := "shortened") rfl rfl
  have C_shortened := callee_mk F_shortened m_shortened (ok_sh (P := P) (w := w) (mg := mg) (base := base) F_shortened C_box C_together C_longest_taken C_length mI mA) (fun _ _ _ _ _ _ us hl => match us, hl with | [_], _ => rfl)
  obtain ⟨fd_numbers_near, F_numbers_near, m_numbers_near⟩ := def_at (st := sNumN) X G c 14 14 (x := "numbers_near") rfl rfl
  have C_numbers_near := callee_mk F_numbers_near m_numbers_near (ok_numN (P := P) (w := w) (mg := mg) (base := base) F_numbers_near mR mI) (fun _ _ _ _ _ _ us hl => match us, hl with | [_, _, _], _ => rfl)
  obtain ⟨fd_times_near, F_times_near, m_times_near⟩ := def_at (st := sTN) X G c 15 15 (x := "times_near") rfl rfl
  have C_times_near := callee_mk F_times_near m_times_near (ok_tn (P := P) (w := w) (mg := mg) (base := base) F_times_near C_determinant C_dot C_length C_normals C_numbers_near C_box C_left_over C_together) (fun _ _ _ _ _ _ us hl => match us, hl with | [_, _, _, _], _ => rfl)
  obtain ⟨fd_times_up_to, F_times_up_to, m_times_up_to⟩ := def_at (st := sTU) X G c 16 16 (x := "times_up_to") rfl rfl
  have C_times_up_to := callee_mk F_times_up_to m_times_up_to (ok_tu (P := P) (w := w) (mg := mg) (base := base) F_times_up_to (code_of F_times_up_to) TB_times_up_to hT_times_up_to hu_times_up_to C_times_near C_is_forward C_order C_together mO) (fun _ _ _ _ _ _ us hl => match us, hl with | [_, _], _ => rfl)
  obtain ⟨fd_common_divisor, F_common_divisor, m_common_divisor⟩ := def_at (st := sDivisor) X G c 17 17 (x := "common_divisor") rfl rfl
  have C_common_divisor := callee_mk F_common_divisor m_common_divisor (ok_div (P := P) (w := w) (mg := mg) (base := base) F_common_divisor mB) (fun _ _ _ _ _ _ us hl => match us, hl with | [_], _ => rfl)
  obtain ⟨fd_content, F_content, m_content⟩ := def_at (st := sContent) X G c 18 18 (x := "content") rfl rfl
  have C_content := callee_mk F_content m_content (ok_content (P := P) (w := w) (mg := mg) (base := base) F_content mL mB C_determinant C_cross C_common_divisor) (fun _ _ _ _ _ _ us hl => match us, hl with | [_], _ => rfl)
  obtain ⟨fd_first_fitting, F_first_fitting, m_first_fitting⟩ := def_at (st := sFirst) X G c 19 19 (x := "first_fitting") rfl rfl
  have C_first_fitting := callee_mk F_first_fitting m_first_fitting (ok_first (P := P) (w := w) (mg := mg) (base := base) F_first_fitting mL C_content) (fun _ _ _ _ _ _ us hl => match us, hl with | [_, _], _ => rfl)
  obtain ⟨fd_longest_length, F_longest_length, m_longest_length⟩ := def_at (st := sLongest) X G c 20 20 (x := "longest_length") rfl rfl
  have C_longest_length := callee_mk F_longest_length m_longest_length (ok_longest (P := P) (w := w) (mg := mg) (base := base) F_longest_length C_length mX) (fun _ _ _ _ _ _ us hl => match us, hl with | [_], _ => rfl)
  obtain ⟨fd_shortest_points, F_shortest_points, m_shortest_points⟩ := def_at (st := sSP) X G c 21 21 (x := "shortest_points") rfl rfl
  have C_shortest_points := callee_mk F_shortest_points m_shortest_points (ok_sp (P := P) (w := w) (mg := mg) (base := base) F_shortest_points C_times_up_to C_together C_length mN) (fun _ _ _ _ _ _ us hl => match us, hl with | [_], _ => rfl)
  obtain ⟨fd_different_lengths, F_different_lengths, m_different_lengths⟩ := def_at (st := sDL) X G c 22 22 (x := "different_lengths") rfl rfl
  have C_different_lengths := callee_mk F_different_lengths m_different_lengths (ok_dl (P := P) (w := w) (mg := mg) (base := base) F_different_lengths (code_of F_different_lengths) TB_different_lengths hT_different_lengths hu_different_lengths C_times_up_to C_together C_length C_longest_length C_first_fitting) (fun _ _ _ _ _ _ us hl => match us, hl with | [_], _ => rfl)
  obtain ⟨fd_reduced_steps, F_reduced_steps, m_reduced_steps⟩ := def_at (st := sRS) X G c 23 23 (x := "reduced_steps") rfl rfl
  have C_reduced_steps := callee_mk F_reduced_steps m_reduced_steps (ok_rs (P := P) (w := w) (mg := mg) (base := base) F_reduced_steps (code_of F_reduced_steps) TB_reduced_steps hT_reduced_steps hu_reduced_steps C_shortened C_times_up_to C_together C_longest_length C_first_fitting) (fun _ _ _ _ _ _ us hl => match us, hl with | [_], _ => rfl)
  obtain ⟨fd_point_by_rounding, F_point_by_rounding, m_point_by_rounding⟩ := def_at (st := sPR) X G c 24 24 (x := "point_by_rounding") rfl rfl
  have C_point_by_rounding := callee_mk F_point_by_rounding m_point_by_rounding (ok_pr (P := P) (w := w) (mg := mg) (base := base) F_point_by_rounding C_determinant C_dot C_normals C_together) (fun _ _ _ _ _ _ us hl => match us, hl with | [_, _, _], _ => rfl)
  obtain ⟨fd_nearest_points, F_nearest_points, m_nearest_points⟩ := def_at (st := sNP) X G c 25 25 (x := "nearest_points") rfl rfl
  have C_nearest_points := callee_mk F_nearest_points m_nearest_points (ok_np (P := P) (w := w) (mg := mg) (base := base) F_nearest_points C_length C_left_over C_point_by_rounding C_times_near C_together C_order mN mO) (fun _ _ _ _ _ _ us hl => match us, hl with | [_, _, _], _ => rfl)
  obtain ⟨fd_shortest_beside, F_shortest_beside, m_shortest_beside⟩ := def_at (st := sSB) X G c 26 26 (x := "shortest_beside") rfl rfl
  have C_shortest_beside := callee_mk F_shortest_beside m_shortest_beside (ok_sb (P := P) (w := w) (mg := mg) (base := base) F_shortest_beside C_nearest_points C_left_over) (fun _ _ _ _ _ _ us hl => match us, hl with | [_, _], _ => rfl)
  obtain ⟨fd_wall_points, F_wall_points, m_wall_points⟩ := def_at (st := sWP) X G c 27 27 (x := "wall_points") rfl rfl
  have C_wall_points := callee_mk F_wall_points m_wall_points (ok_wp (P := P) (w := w) (mg := mg) (base := base) F_wall_points C_box C_together C_shortest_beside C_is_forward C_order mL mO) (fun _ _ _ _ _ _ us hl => match us, hl with | [_], _ => rfl)
  obtain ⟨fd_told_numbers, F_told_numbers, m_told_numbers⟩ := def_at (st := sTold) X G c 28 28 (x := "told_numbers") rfl rfl
  have C_told_numbers := callee_mk F_told_numbers m_told_numbers (ok_told (P := P) (w := w) (mg := mg) (base := base) F_told_numbers mz) (fun _ _ _ _ _ _ us hl => match us, hl with | [_, _], _ => rfl)
  obtain ⟨fd_refusal_of_told, F_refusal_of_told, m_refusal_of_told⟩ := def_at (st := sRefusal) X G c 29 29 (x := "refusal_of_told") rfl rfl
  have C_refusal_of_told := callee_mk F_refusal_of_told m_refusal_of_told (ok_ref (P := P) (w := w) (mg := mg) (base := base) F_refusal_of_told C_told_numbers mL mB mA i_WRONG_COUNT i_WRONG_NUMBER) (fun _ _ _ _ _ _ us hl => match us, hl with | [_, _, _, _], _ => rfl)
  obtain ⟨fd_told_steps, F_told_steps, m_told_steps⟩ := def_at (st := sTS) X G c 30 30 (x := "told_steps") rfl rfl
  have C_told_steps := callee_mk F_told_steps m_told_steps (ok_ts (P := P) (w := w) (mg := mg) (base := base) F_told_steps C_told_numbers mR) (fun _ _ _ _ _ _ us hl => match us, hl with | [_, _, _], _ => rfl)
  obtain ⟨fd_refusal_of_steps, F_refusal_of_steps, m_refusal_of_steps⟩ := def_at (st := sRfS) X G c 31 31 (x := "refusal_of_steps") rfl rfl
  have C_refusal_of_steps := callee_mk F_refusal_of_steps m_refusal_of_steps (ok_rfs (P := P) (w := w) (mg := mg) (base := base) F_refusal_of_steps C_refusal_of_told C_determinant C_told_steps i_MOST_OF_STEP i_LIES_WHERE_OTHERS_LEAD) (fun _ _ _ _ _ _ us hl => match us, hl with | [_, _, _], _ => rfl)
  obtain ⟨fd_one_behind_another, F_one_behind_another, m_one_behind_another⟩ := def_at (st := sOne) X G c 32 32 (x := "one_behind_another") rfl rfl
  have C_one_behind_another := callee_mk F_one_behind_another m_one_behind_another (ok_one (P := P) (w := w) (mg := mg) (base := base) F_one_behind_another ) (fun _ _ _ _ _ _ us hl => match us, hl with | [_], _ => rfl)
  have R : RowC K (He.ga K "StepRow") := ⟨He.cls_ok (c.fact 62 (f := .cls "StepRow") rfl), He.noat_ok (c.fact 73 (f := .noat "StepRow" "basis") rfl)⟩
  have R' : RdC K (He.ga K "Reader") := ⟨He.cls_ok (c.fact 77 (f := .cls "Reader") rfl), He.noat_ok (c.fact 82 (f := .noat "Reader" "numbers") rfl), He.noat_ok (c.fact 83 (f := .noat "Reader" "place") rfl)⟩
  obtain ⟨fd_begin, F_begin, m_begin⟩ := meth_at (st := sRow 1) c 34 64 (x := "StepRow") (m := "begin") (q := "StepRow.begin") rfl rfl
  have M_begin := MethD.mk ⟨_, _, ok_row1 (P := P) (w := w) (mg := mg) (base := base) (T := TL K) F_begin R C_refusal_of_steps C_told_steps C_reduced_steps C_determinant mB i_WRONG_NUMBER, m_begin, F_begin.binds (fun _ _ _ _ _ _ us hl => match us, hl with | [_, _, _, _], _ => rfl)⟩
  obtain ⟨fd_shortest, F_shortest, m_shortest⟩ := meth_at (st := sRow 2) c 35 65 (x := "StepRow") (m := "shortest") (q := "StepRow.shortest") rfl rfl
  have M_shortest := MethD.mk ⟨_, _, ok_row2 (P := P) (w := w) (mg := mg) (base := base) (T := TL K) F_shortest R mL C_one_behind_another C_shortest_points C_length, m_shortest, F_shortest.binds (fun _ _ _ _ _ _ us hl => match us, hl with | [_], _ => rfl)⟩
  obtain ⟨fd_minima, F_minima, m_minima⟩ := meth_at (st := sRow 3) c 36 66 (x := "StepRow") (m := "minima") (q := "StepRow.minima") rfl rfl
  have M_minima := MethD.mk ⟨_, _, ok_row3 (P := P) (w := w) (mg := mg) (base := base) (T := TL K) F_minima R mL C_different_lengths, m_minima, F_minima.binds (fun _ _ _ _ _ _ us hl => match us, hl with | [_], _ => rfl)⟩
  obtain ⟨fd_reduced, F_reduced, m_reduced⟩ := meth_at (st := sRow 4) c 37 67 (x := "StepRow") (m := "reduced") (q := "StepRow.reduced") rfl rfl
  have M_reduced := MethD.mk ⟨_, _, ok_row4 (P := P) (w := w) (mg := mg) (base := base) (T := TL K) F_reduced R mL C_one_behind_another, m_reduced, F_reduced.binds (fun _ _ _ _ _ _ us hl => match us, hl with | [_], _ => rfl)⟩
  obtain ⟨fd_has, F_has, m_has⟩ := meth_at (st := sRow 5) c 38 68 (x := "StepRow") (m := "has") (q := "StepRow.has") rfl rfl
  have M_has := MethD.mk ⟨_, _, ok_row5 (P := P) (w := w) (mg := mg) (base := base) (T := TL K) F_has R mL C_refusal_of_told C_times_taken C_told_numbers i_MOST_OF_POINT, m_has, F_has.binds (fun _ _ _ _ _ _ us hl => match us, hl with | [_, _, _], _ => rfl)⟩
  obtain ⟨fd_same, F_same, m_same⟩ := meth_at (st := sRow 6) c 39 69 (x := "StepRow") (m := "same") (q := "StepRow.same") rfl rfl
  have M_same := MethD.mk ⟨_, _, ok_row6 (P := P) (w := w) (mg := mg) (base := base) (T := TL K) F_same R mL C_refusal_of_steps C_lead_to_the_same C_told_steps, m_same, F_same.binds (fun _ _ _ _ _ _ us hl => match us, hl with | [_, _, _], _ => rfl)⟩
  obtain ⟨fd_nearest, F_nearest, m_nearest⟩ := meth_at (st := sRow 7) c 40 70 (x := "StepRow") (m := "nearest") (q := "StepRow.nearest") rfl rfl
  have M_nearest := MethD.mk ⟨_, _, ok_row7 (P := P) (w := w) (mg := mg) (base := base) (T := TL K) F_nearest R mL C_refusal_of_told C_told_numbers C_nearest_points C_length C_left_over C_one_behind_another i_MOST_OF_POINT i_MOST_OF_Q i_WRONG_NUMBER, m_nearest, F_nearest.binds (fun _ _ _ _ _ _ us hl => match us, hl with | [_, _, _, _], _ => rfl)⟩
  obtain ⟨fd_walls, F_walls, m_walls⟩ := meth_at (st := sRow 8) c 41 71 (x := "StepRow") (m := "walls") (q := "StepRow.walls") rfl rfl
  have M_walls := MethD.mk ⟨_, _, ok_row8 (P := P) (w := w) (mg := mg) (base := base) (T := TL K) F_walls R mL C_one_behind_another C_wall_points, m_walls, F_walls.binds (fun _ _ _ _ _ _ us hl => match us, hl with | [_], _ => rfl)⟩
  obtain ⟨fd_judge, F_judge, m_judge⟩ := meth_at (st := sRow 9) c 42 72 (x := "StepRow") (m := "judge") (q := "StepRow.judge") rfl rfl
  have M_judge := MethD.mk ⟨_, _, ok_row9 (P := P) (w := w) (mg := mg) (base := base) (T := TL K) F_judge R mL C_refusal_of_told C_told_numbers C_nearest_points i_MOST_OF_POINT, m_judge, F_judge.binds (fun _ _ _ _ _ _ us hl => match us, hl with | [_, _, _], _ => rfl)⟩
  obtain ⟨fd_is_done, F_is_done, m_is_done⟩ := meth_at (st := sRd 1) c 44 79 (x := "Reader") (m := "is_done") (q := "Reader.is_done") rfl rfl
  have M_is_done := MethD.mk ⟨_, _, ok_rd1 (P := P) (w := w) (mg := mg) (base := base) F_is_done R' mL, m_is_done, F_is_done.binds (fun _ _ _ _ _ _ us hl => match us, hl with | [_], _ => rfl)⟩
  obtain ⟨fd_take_number, F_take_number, m_take_number⟩ := meth_at (st := sRd 2) c 45 80 (x := "Reader") (m := "take_number") (q := "Reader.take_number") rfl rfl
  have M_take_number := MethD.mk ⟨_, _, ok_rd2 (P := P) (w := w) (mg := mg) (base := base) F_take_number R', m_take_number, F_take_number.binds (fun _ _ _ _ _ _ us hl => match us, hl with | [_], _ => rfl)⟩
  obtain ⟨fd_take_row, F_take_row, m_take_row⟩ := meth_at (st := sRd 3) c 46 81 (x := "Reader") (m := "take_row") (q := "Reader.take_row") rfl rfl
  have M_take_row := MethD.mk ⟨_, _, ok_rd3 (P := P) (w := w) (mg := mg) (base := base) F_take_row R' M_take_number, m_take_row, F_take_row.binds (fun _ _ _ _ _ _ us hl => match us, hl with | [_], _ => rfl)⟩
  obtain ⟨fd_i0, F_i0, m_i0⟩ := init_at (st := sRow 0) c 33 63 (x := "StepRow") (q := "StepRow.__init__") rfl rfl
  have K_row : MakeD P w K mg base "StepRow" (He.ga K "StepRow") 1 ["self"] (spRow0 (TL K) (He.ga K "StepRow")) := ⟨⟨_, _, m_i0, ok_row0 F_i0 R, F_i0.binds (fun _ _ _ _ _ _ us hl => match us, hl with | [_], _ => rfl)⟩, He.glo_ok X G (c.fact 61 (f := .glo "StepRow") rfl)⟩
  obtain ⟨fd_i1, F_i1, m_i1⟩ := init_at (st := sRd 0) c 43 78 (x := "Reader") (q := "Reader.__init__") rfl rfl
  have K_rd : MakeD P w K mg base "Reader" (He.ga K "Reader") 1 ["self", "numbers"] (spRd0 K (He.ga K "Reader")) := ⟨⟨_, _, m_i1, ok_rd0 F_i1 R', F_i1.binds (fun _ _ _ _ _ _ us hl => match us, hl with | [_, _], _ => rfl)⟩, He.glo_ok X G (c.fact 76 (f := .glo "Reader") rfl)⟩
  have cs : Consts mg := ⟨i_BEGIN, i_SHORTEST, i_MINIMA, i_REDUCED, i_HAS, i_SAME, i_NEAREST, i_WALLS, i_JUDGE⟩
  obtain ⟨fd_nx, F_nx, m_nx⟩ := def_at (st := sNx) X G c 47 33 (x := "answer_of_next") rfl rfl
  have C_nx := callee_mk F_nx m_nx (ok_nx (P := P) (w := w) (mg := mg) (base := base) F_nx R R' cs M_begin M_shortest M_minima M_reduced M_has M_same M_nearest M_walls M_judge M_take_number M_take_row) (fun _ _ _ _ _ _ us hl => match us, hl with | [_, _], _ => rfl)
  exact ok_an FA R R' mL K_row K_rd M_is_done C_nx
end
end Np
end
section
set_option maxRecDepth 100000
set_option maxHeartbeats 8000000
namespace Np
open PySem PySem.Spec PyProof.Rows L2 LamX NdefX
theorem tabs_new {K : PySem.W.Frag} {H : Hp} (h : ∀ p ∈ NpHead.tfL.map (He.cT K), H p.2 = some (.tbl #[])) : Tabs (TL K) H := fun q hq => by
  have key : ∀ x : He.Defn, x ∈ NpHead.tfL → H (He.cT K x).2 = some (.tbl #[]) := fun x hx => h _ (List.mem_map.mpr ⟨x, hx, rfl⟩)
  have e : H q.1 = some (.tbl #[]) := by
    simp only [TL, List.mem_cons, List.not_mem_nil, or_false] at hq
    rcases hq with rfl | rfl | rfl | rfl <;> exact key _ (by simp [NpHead.tfL])
  exact ⟨#[], e, by simp [TriplesOk], fun pos cv hc => by cases hc⟩
theorem spec_at {w : World} {K : PySem.W.Frag} {mg : Str → Option Value} {fa : Addr} {h : Heap} (KX : K.In h) (G : h.Ns mainGlobals mg) (hmg : mg "answers" = some (.ref fa)) (c : He.SaysX NpHead.faL NpHead.fnL [] NpHead.tfL NpHead.exF w h K) :
    SpecAt PySem.Challenge.rw_nearpoints_s01_answers w K 11 ["calls"] mg fa h := by
  have cD : He.SaysD NpHead.faL NpHead.fnL K := congrArg (fun z : He.AlT => z.1) c.t
  obtain ⟨fd, F, m⟩ := def_at (st := sAn) KX G cD 48 34 (x := "answers") rfl rfl
  obtain rfl : He.ga K "answers" = fa := by
    rw [hmg] at m
    injection m with m
    injection m with m
    exact m.symm
  have nd : (NpHead.tfL.map fun p => (He.cT K p).2).Nodup := of_decide_eq_true c.more
  refine ⟨fd, NpHead.tfL.map (He.cT K), spAns K (TL K), ⟨fun p hp => ?_, fun p hp => ?_, fun p hp => ?_⟩, fun s us hl => ?_, fun H xs a hT hwi hask hd => ?_, fun base X G' TB => all_ok X G' cD nd (fun p hp => TB _ (List.mem_map.mpr ⟨p, hp, rfl⟩)) F⟩
  · obtain ⟨x, hx, rfl⟩ := List.mem_map.mp hp
    exact c.empty x hx
  · obtain ⟨x, hx, rfl⟩ := List.mem_map.mp hp
    exact c.out x hx
  · obtain ⟨x, hx, rfl⟩ := List.mem_map.mp hp
    exact PySem.W.codeHd_of_K KX (c.hd x hx)
  · obtain ⟨oc, od, kV, doc, pm, an, cdv, ct, osl, rfl, lk, hc⟩ := F.ex
    exact .of_eq (match us, hl with | [_], _ => rfl)
  · obtain ⟨calls, u⟩ := a
    have hd' : DwAll K H xs [PySem.W.WData.list (calls.map PySem.W.WData.int)] := hd
    cases hd' with
    | cons h1 h2 =>
      cases h2
      cases h1 with
      | lst hs hi =>
        have e := ints_dw calls _ hi
        subst e
        refine ⟨_, calls, rfl, hs, tabs_new hT, hask, fun H' p hp => ?_⟩
        show Dw K H' (.ref p) (PySem.W.WData.list ((PySq67.answers calls).map PySem.W.WData.int))
        exact .lst (SqL.of hp) (dw_ints _)
end Np
end
section
set_option maxRecDepth 100000
set_option maxHeartbeats 8000000
open PySem PySem.W PyProof.Rows
theorem PySem.Challenge.cw_nearpoints_s01_answers_holds : PySem.Challenge.rw_nearpoints_s01_answers.Holds := by
  w_on
  refine HeadRun.head_spec (r := PySem.Challenge.rw_nearpoints_s01_answers) (q := NpHead.qv) (H := NpHead.hk) (ob := NpHead.ob) (M := 4000) (loose := NpHead.looseL) (d := HeadRun.topDef NpHead.R.prog 57) (kwd := []) NpHead.ob_eq
    (by kernel_rfl) (fun s => by kernel_rfl) NpHead.run (by kernel_rfl) (by kernel_rfl) (by kernel_rfl) os_shapes (by decide +kernel) (by decide +kernel) ⟨rfl, rfl, rfl, rfl, rfl, by decide +kernel⟩ ⟨[.list [.int 2]], by decide +kernel, by decide +kernel⟩ ?call
  refine Np.walk_specT (k := 11) (ps := ["calls"]) (by decide +kernel) (by kernel_rfl) rfl ⟨rfl, by decide, by decide⟩ ?F
  intro w mg fa h Y G hmg0
  obtain ⟨K, KX, c⟩ := Y
  refine ⟨K, KX, ?_⟩
  have hmg : mg ("answers" : PySem.Str) = some (.ref fa) := by
    have e : (HeadRun.topDef NpHead.R.prog 57).name = ("answers" : PySem.Str) := by kernel_rfl
    rw [← e]
    exact hmg0
  exact Np.spec_at KX G hmg c
end
