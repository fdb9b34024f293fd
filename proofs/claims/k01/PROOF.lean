import PyProof.Rows.All
import Wide.All
import OpenK.AllK
import Wide.FinOn
import HandS.ForMost
import HandS.Walk
import HandS.TupMul
import PySem.Challenge.RW_sameanswers_k01_names_paths_and_lines
set_option Elab.async false
set_option linter.all false
set_option maxRecDepth 100000
set_option maxHeartbeats 4000000
/-! Ga: defs that are called where no repr is under way (the guards are known to be none), and repr of data. -/
namespace Ga
open PySem PySem.Spec PyProof.Rows L2

/-- one call of a def by its body, at one place -/
theorem body_run {CX : CXT} {P : Program} {w : World} {K : PySem.W.Frag} {mg : Str → Option Value} {base : Heap} {k : Nat}
    {f : Addr} {name qual : Str} {params : Arguments} {body : List Stmt} {scope : Scope} {dV kV doc pm cdv ct oc : Value}
    {an od : Option Addr} {osl : Array (Option Value)} {N ps : List Str} {A : Around} {outer : List Env} {s : Shared} {H : Hp}
    {args : Args} {us : List Value} {vs : List V} {Q : VK} {E : XK} {t : TS}
    (lk : K.lookup f = some ⟨oc, od, .func (PySem.W.fnOf name qual params body scope dV kV doc pm an cdv ct), osl⟩)
    (hcd : PySem.W.codeIn K cdv qual = true) (S : FnScope N ps scope) (hl : vs.length = ps.length) (hr : Room (k + 1) A)
    (e0 : Env0 P w K mg base A outer s H) (hb : BindsTo s (PySem.W.fnOf name qual params body scope dV kV doc pm an cdv ct) args (ps.zip us))
    (r : Vals vs us) (ht : PSs (cxOf CX P w K mg base N qual scope f cdv A outer s H E) body t)
    (hq : t { nx := fun _ H' => Q .non H', rt := Q } (start N vs) H) :
    codeAny (model P w) A (.call (.ref f) args) (CR CX outer P w H s Q E) s := by
  have keep : ∀ b o, base.get? b = some o → s.heap.get? b = some o := fun b o e => (e0.bs b o e).1
  have KX := e0.mod.kin.keeps keep
  have lim := e0.mod.nolimit.keeps keep
  have kinds : ∀ y ∈ ps.zip us, scope.names.lookup y.1 = some .local ∨
      (scope.names.lookup y.1 = some .cell ∧ ((cellsFrom (s.heap.objs.size + 1) scope.names []).lookup y.1).isSome = true) := by
    rintro ⟨n, v⟩ hy
    rcases S.par n (List.of_mem_zip hy).1 with q | q
    · exact Or.inl q
    · exact Or.inr ⟨q, PySem.W.cellsFrom_some _ _ _ (Or.inl q)⟩
  apply codeAny_call_function hr.depth (KX _ _ lk) rfl S.co S.gen rfl (PySem.W.codeRec_of KX hcd)
  apply hb
  apply wpAny_newFunctionEnv_cells S.kind kinds
  rintro env rfl s1 x
  refine ⟨lim.keeps x.toInCall.keep, codeAny_func ?_⟩
  have I := inv_start (CX := CX) (E := E) (cd := cdv) (qual := qual) (f := f) S hr.hd e0 hl r x
  apply wpAny_mono (ht.run [] s1 (start N vs) H _ I hq)
  · intro fl s' hs
    cases fl with
    | ret u =>
      obtain ⟨v, σ', H', J, rv, q⟩ := hs
      exact ⟨v, H', J.os, J.bare, J.base, J.hok, rv, q⟩
    | next =>
      obtain ⟨σ', H', J, q⟩ := hs
      exact ⟨V.non, H', J.os, J.bare, J.base, J.hok, rfl, q⟩
    | brk =>
      obtain ⟨_, _, _, q⟩ := hs
      exact q.elim
    | cont =>
      obtain ⟨_, _, _, q⟩ := hs
      exact q.elim
  · exact fun e s' hs => hs

/-- a def's promise where the guards are none -/
structure FnG (P : Program) (w : World) (K : PySem.W.Frag) (mg : Str → Option Value) (base : Heap) (CX : CXT) (k : Nat) (f : Addr)
    (fd : FuncData) (ps : List Str) (sp : Sp) : Prop where
  len : ∀ vs H Q E, sp vs H Q E → vs.length = ps.length
  run : ∀ (A : Around), A.guards = some [] → ∀ (outer : List Env) (s : Shared) (H : Hp) (args : Args) (us : List Value) (vs : List V)
    (Q : VK) (E : XK), Room k A → Env0 P w K mg base A outer s H → BindsTo s fd args (ps.zip us) → Vals vs us → sp vs H Q E →
    codeAny (model P w) A (.call (.ref f) args) (CR CX outer P w H s Q E) s

section
variable {P : Program} {w : World} {K : PySem.W.Frag} {mg : Str → Option Value} {base : Heap}
theorem FnG.of {CX : CXT} {k : Nat} {f : Addr} {fd : FuncData} {ps : List Str} {sp : Sp} (F : FnOk P w K mg base CX k f fd ps sp) :
    FnG P w K mg base CX k f fd ps sp := ⟨F.len, fun A _ => F.run A⟩
/-- the rule for such a def, no exception leaves it -/
theorem okG {x qual : Str} {st : Stmt} {f : Addr} {fd : FuncData} {N ps : List Str} {k : Nat} {sp : Sp} (F : Fun K x qual st f fd)
    (S : FnScope N ps (defScope st)) (len : ∀ vs H Q E, sp vs H Q E → vs.length = ps.length)
    (hbody : ∀ (cdv : Value) (A : Around), A.guards = some [] → ∀ (outer : List Env) (s : Shared) (H : Hp) (vs : List V) (Q : VK) (E : XK),
      Room k (A.deeper (envOfC qual (defScope st) s.heap.objs.size f cdv)) → sp vs H Q E →
      ∃ t, PSs (cxOf CX0 P w K mg base N qual (defScope st) f cdv A outer s H E).nox (defBody st) t ∧
        t { nx := fun _ H' => Q .non H', rt := Q } (start N vs) H) :
    FnG P w K mg base CX0 (k + 1) f fd ps sp := by
  obtain ⟨oc, od, kV, doc, pm, an, cdv, ct, osl, rfl, lk, hcd⟩ := F.ex
  refine ⟨len, fun A hg outer s H args us vs Q E hr e0 hb r hsp => ?_⟩
  obtain ⟨t, h, q⟩ := hbody cdv A hg outer s H vs Q E (hr.deeper _) hsp
  exact body_run lk hcd S (len _ _ _ _ hsp) hr e0 hb r h.nox q
end

section
variable {X : Cx} {CX : CXT} {k : Nat} {f : Addr} {fd : FuncData} {ps : List Str} {sp : Sp} {dvs : List V} {ds : List Value} {E : XK}
  {x : Str} {p pos : Pos} {e : Expr} {es : List Expr} {t : TA}
/-- a call of such a def -/
theorem pe_callG (hgd : X.A.guards = some []) (F : FnG X.prog X.w X.K X.mg X.base CX k f fd ps sp) (hr : Room k X.A) (hg : Gl X x)
    (hm : X.mg x = some (.ref f)) (hk : PySem.W.keepIn X.K (.ref f) = true) (hb : Binds X.K fd ps ds) (hd : Vals dvs ds)
    (hx : Passes CX X E) (ha : PA X (e :: es) t) (hdb : (x == ("__debug__" : Str)) = false := by decide)
    (he : starEach (e :: es) X.env = (false, eval e X.env) :: starEach es X.env := by rfl)
    (hpl : (backTo pos (starEach es X.env)).any (·.1) = false := by rfl) :
    PE X (.Call (.Name x p) (e :: es) [] pos) (tCall sp dvs E t) := by
  refine ⟨fun pins s σ H Q I h => wpAny_Call_Name_kw (ld_glob I hg hm ?_ hdb)⟩
  refine PySem.W.callWith_K (h₀ := X.base) I.ok.mod.kin hk ?_ he hpl
  refine thn (ha.run pos pins s σ H _ I h) ?_
  rintro us s1 ⟨vs, H1, J, r, q⟩
  have r2 := r.append hd
  have hl : (us ++ ds).length = ps.length := r2.length.symm.trans (F.len _ _ _ _ q)
  refine ⟨J.kIn, wpAny_call (codeAny_mono (F.run X.A hgd X.stack s1 H1 ⟨us, []⟩ _ _ Q E hr J.env0 (hb s1 us J.kIn hl) r2 q) ?_)⟩
  rintro (e | fl) s' hq
  · exact hx pins σ H1 s1 e s' J hq
  · cases fl with
    | ret u => exact J.after hq
    | next => exact hq.elim
    | brk => exact hq.elim
    | cont => exact hq.elim
end

/-! ### repr of data -/
def rRepr (K : PySem.W.Frag) : List V → Hp → VK → Prop := fun xs H Q => ∃ x d, xs = [x] ∧ Dp K H x d ∧ d.showable = true ∧ d.hasDict = false ∧
  d.depth ≤ 40 ∧ d.shown.length ≤ sizeLine ∧ Q (.str d.shown) H
theorem call_reprD {X : Cx} (hgd : X.A.guards = some []) (hu : X.A.units + 64 < cLine) : CallR X (.builtin "repr") (rRepr X.K) := by
  intro pins s σ H xs us Q I r h
  obtain ⟨x, d, rfl, hd, h1, h2, h3, h4, q⟩ := h
  obtain ⟨u, rfl, ru⟩ := vals1 r
  obtain ⟨as, rd⟩ := Dp.reads I d x u hd ru
  cases hd with
  | non =>
    cases ru
    exact PySem.P.repr_of_none ⟨.str _, H, I.tok _, ⟨_, rfl⟩, q⟩
  | bl b =>
    cases ru
    exact PySem.P.repr_of_bool ⟨.str _, H, I.tok _, ⟨_, rfl⟩, q⟩
  | int i =>
    obtain ⟨t, rfl⟩ := ru
    exact PySem.P.repr_of_int (by simpa [PyData.showable] using h1) ⟨.str _, H, I.tok _, ⟨_, rfl⟩, q⟩
  | str z =>
    obtain ⟨t, rfl⟩ := ru
    exact PySem.P.repr_of_str ⟨.str _, H, I.tok _, ⟨_, rfl⟩, q⟩ h4
  | lst hs ha =>
    cases ru
    exact repr_of_reads' rd h1 (fun z => absurd (z.symm.trans h2) (by decide)) hgd (by omega) (fun _ _ e => e)
      (fun h' u tk kp => ⟨.str _, H, I.kept kp, ⟨_, rfl⟩, q⟩) h4
  | tup hs ha =>
    cases ru
    exact repr_of_reads' rd h1 (fun z => absurd (z.symm.trans h2) (by decide)) hgd (by omega) (fun _ _ e => e)
      (fun h' u tk kp => ⟨.str _, H, I.kept kp, ⟨_, rfl⟩, q⟩) h4

end Ga

set_option maxRecDepth 100000
set_option maxHeartbeats 4000000
namespace Ga
open PySem PySem.Spec PyProof.Rows L2

/-- the law's call behind the top, from an abstract heap that tracks the script at most -/
theorem call_at {P : Program} {w : World} {K : PySem.W.Frag} {mg mb : Str → Option Value} {k : Nat} {fa a : Addr} {fd : FuncData} {x : Str}
    {sp : Sp} {s1 : Shared} {vs : List Value} {H : Hp} (KX : K.In s1.heap) (hns : s1.heap.Ns mainGlobals mg)
    (hb : s1.heap.Ns builtinsNs mb) (hbb : ∀ x : Str, x ≠ "__name__" → mb x = bootBuiltins x) (hlim : s1.heap.NoLimit) (hg : s1.gens = #[])
    (ha : s1.heap.get? a = some { cls := .type "list", data := .seq vs.toArray }) (hr : Room k callerA)
    (F : ∀ base : Heap, K.In base → base.Ns mainGlobals mg → FnG P w K mg base CX0 k fa fd [x] sp)
    (hbind : ∀ (s : Shared) (u : Value), BindsTo s fd ⟨[u], []⟩ [(x, u)])
    (hsp : sp [.ref a] H (fun v _ => v = .bl true) E0) (hO : Only H) (hok : HOk P w H s1.heap)
    (hA : ∀ b u, H b = some u → b = a ∧ K.lookup a = none) :
    codeAny (model P w) callerA (.call (.ref fa) ⟨[.ref a], []⟩)
      (fun r s' => r = .ok (.ret (.bool true)) ∧ OldK s1.heap s'.heap ∧ s'.os = s1.os ∧ AllBare s'.gens) s1 := by
  have other : ∀ {b : Addr} {o : Obj}, s1.heap.get? b = some o → (b = a → False) → (hidT s1.heap H).get? b = some o := by
    intro b o e n
    apply hidT_get e
    cases q : H b with
    | none => rfl
    | some u => exact (n (hA b u q).1).elim
  have spaces : ∀ {b : Addr} {m : Str → Option Value}, s1.heap.Ns b m → (hidT s1.heap H).Ns b m := by
    rintro b m ⟨o, es, ep, e, d, r⟩
    refine ⟨o, es, ep, other e fun z => ?_, d, r⟩
    subst z
    rw [ha] at e
    cases e
    cases d
  have hK : K.In (hidT s1.heap H) := by
    intro b o e
    apply hidT_get (KX b o e)
    cases q : H b with
    | none => rfl
    | some u =>
      obtain ⟨z, n⟩ := hA b u q
      subst z
      rw [n] at e
      cases e
  obtain ⟨mc, c1, c2⟩ := hlim
  have M : Mod K mg (hidT s1.heap H) := ⟨hK, spaces hns, ⟨mb, spaces hb, hbb⟩, mc, spaces c1, c2⟩
  have e0 : Env0 P w K mg (hidT s1.heap H) callerA [] s1 H :=
    { frames := rfl, mod := M, bs := fun b o => of_hidT, bsz := Nat.le_of_eq (hidT_size _ _), funs := trivial, frf := fun b z => (List.not_mem_nil z).elim,
      hok := hok, bare := .of_eq hg }
  have R := (F _ hK (spaces hns)).run callerA rfl [] s1 H ⟨[.ref a], []⟩ [.ref a] [.ref a] _ E0 hr e0 (hbind s1 _) (Paired.cons rfl .nil) hsp
  apply codeAny_mono R
  rintro (e | fl) s' h
  · exact h.elim
  · cases fl with
    | next => exact h.elim
    | brk => exact h.elim
    | cont => exact h.elim
    | ret u =>
      obtain ⟨v, H', os, bare, un, ok2, rv, rfl⟩ := h
      cases rv
      refine ⟨rfl, .of_keep fun b o e => ?_, os, bare⟩
      rcases hO b with n | ⟨ob, xs, y⟩
      · exact un.keep b o e n List.not_mem_nil List.not_mem_nil
      · have g1 := (hok b _ y).1
        have g2 := (ok2 b _ (un.frzs b ob _ y)).1
        rw [e] at g1
        cases g1
        exact g2

/-- what k_head leaves, from the promise of the law's def -/
theorem walk_G {l : PySem.W.OpenLaw} {n k : Nat} {q : Program} {loose : List Str} {XP : (Str → Option Value) → Heap → Prop}
    {YP : World → Heap → Prop} {d : DefRec} {K : Params → PySem.W.Frag} {sp : World → Sp} {x : Str}
    (hn : l.most = some n) (hz : n ≤ sizeLine) (hdf : d.params.defaults = []) (hr : Room k callerA)
    (hY : ∀ (w : World) (h : Heap), YP w h → (K w.params).In h)
    (F : ∀ (w : World) (mg : Str → Option Value) (fa : Addr) (h : Heap), (K w.params).In h → h.Ns mainGlobals mg → mg d.name = some (.ref fa) →
      ∃ fd : FuncData, (∀ (s : Shared) (u : Value), BindsTo s fd ⟨[u], []⟩ [(x, u)]) ∧ ∀ base : Heap, (K w.params).In base →
        base.Ns mainGlobals mg → FnG l.prog w (K w.params) mg base CX0 k fa fd [x] (sp w))
    (hsp : ∀ (w : World) (H : Hp) (a : Addr) (ns : List Int), ns.length ≤ n → Only H → SqL (K w.params) H a (ns.map V.int) →
      sp w [.ref a] H (fun v _ => v = .bl true) E0) :
    PySem.W.WalkO q loose XP YP l.row.toRowW d [] (fun f vs => PySem.call f vs) := by
  apply Att.attach_call hn hdf
  intro w s0 s1 mg mb fa o pm cd doc a vs ns G Y ho hd hcd hmg hobj hi hlen hg
  have KX := hY w _ Y
  obtain ⟨fd, hb, hF⟩ := F w mg fa _ KX G.T.g hmg
  have rv := vals_ints hi
  have hm : (ns.map V.int).length ≤ sizeLine := by rw [List.length_map]; omega
  cases hk : (K w.params).lookup a with
  | some ob =>
    have e := KX a ob hk
    rw [hobj] at e
    cases e
    refine call_at (H := fun _ => none) KX G.T.g G.T.b G.T.builtins G.T.nolimit hg hobj hr hF hb ?_ (fun _ => Or.inl rfl) (fun b u z => nomatch z) (fun b u z => nomatch z)
    refine hsp w _ a ns hlen (fun _ => Or.inl rfl) (Or.inr ⟨_, vs.toArray, _, hk, rfl, rfl, rfl, ?_, ?_⟩)
    · rw [List.size_toArray, hi.length]; omega
    · simpa using rv
  | none =>
    let ob : Obj := { cls := .type "list", data := .seq vs.toArray }
    let H : Hp := fun b => if b = a then some (.frz ob (.lst (ns.map V.int))) else none
    have at_a : ∀ b u, H b = some u → b = a ∧ u = .frz ob (.lst (ns.map V.int)) := by
      intro b u z
      by_cases hb : b = a
      · have z2 := (if_pos hb).symm.trans z
        cases z2
        exact ⟨hb, rfl⟩
      · have z2 := (if_neg hb).symm.trans z
        cases z2
    have only : Only H := by
      intro b
      by_cases hb : b = a
      · exact Or.inr ⟨ob, ns.map V.int, if_pos hb⟩
      · exact Or.inl (if_neg hb)
    refine call_at (H := H) KX G.T.g G.T.b G.T.builtins G.T.nolimit hg hobj hr hF hb ?_ only ?_ fun b u z => ⟨(at_a b u z).1, hk⟩
    · exact hsp w H a ns hlen only (Or.inl (Or.inr ⟨ob, if_pos rfl⟩))
    · intro b u z
      obtain ⟨rfl, rfl⟩ := at_a b u z
      exact ⟨hobj, hm, vs, _, rv, hobj⟩
end Ga

set_option maxRecDepth 100000
set_option maxHeartbeats 4000000
namespace Ga
open PySem PySem.Spec PyProof.Rows L2 TL

theorem same_upd {H : Hp} {p : Addr} {o : HO} (h : H p = none) : Same H (upd H p o) := fun b x e => by
  rw [upd_ne (ne_of_none e h)]; exact e
theorem _root_.L2.Same.mut {H H' : Hp} {p : Addr} {o : HO} (s : Same H H') (h : H p = none) : Same H (upd H' p o) := fun b x e => by
  rw [upd_ne (ne_of_none e h)]; exact s b x e
theorem _root_.L2.Same.lst {H H' : Hp} {p : Addr} {xs : List V} (s : Same H H') (h : H p = some (.lst xs)) : H' p = some (.lst xs) := s _ _ h
theorem _root_.L2.Same.seqT {K : PySem.W.Frag} {H H' : Hp} {a : Addr} {xs : List V} (e : Same H H') (h : SqT K H a xs) : SqT K H' a xs := by
  rcases h with (h | ⟨o, h⟩) | h
  · exact .inl (.inl (e _ _ h))
  · exact .inl (.inr ⟨o, e _ _ h⟩)
  · exact .inr h
theorem sqL {K : PySem.W.Frag} {H : Hp} {a : Addr} {xs : List V} (h : H a = some (.lst xs)) : SqL K H a xs := .inl (.inl h)
theorem sqT {K : PySem.W.Frag} {H : Hp} {a : Addr} {xs : List V} (h : H a = some (.tup xs)) : SqT K H a xs := .inl (.inl h)
theorem wipe_set (σ : L2.St) (i : Nat) (v : Option V) : wipe ((wipe σ [i]).set i v) [i] = wipe σ [i] := by
  show ((σ.set i none).set i v).set i none = σ.set i none
  rw [List.set_set, List.set_set]
theorem size_tl (z : Str) : z.cps.size = (tl z).length := by simp [tl]
theorem get_tl {z : Str} {i c : Nat} (h : z.cps[i]? = some c) : (tl z)[i]? = some c := by simpa [tl] using h
theorem take_map_succ {α : Type} {f : α → V} {l : List α} {i : Nat} {c : α} (h : l[i]? = some c) : (l.take (i + 1)).map f = (l.take i).map f ++ [f c] := by
  rw [List.take_add_one, h, List.map_append]; rfl

section
variable {K : PySem.W.Frag} {σ : L2.St} {H : Hp} {Q : VK} {te ta tb : TE}
/-- a comprehension [e for c in text] whose element is a value of the sign -/
theorem lc_str {z : Str} {i j : Nat} {f : Nat → V} (hz : (tl z).length ≤ 100000) (hj : σ[j]? = some (some (.str z)))
    (he : ∀ c ∈ tl z, ∀ (H2 : Hp) (R : VK), Same H H2 → (∀ H3, Same H2 H3 → R (f c) H3) → te ((wipe σ [i]).set i (some (.str ⟨#[c]⟩))) H2 R)
    (hq : ∀ D H', Same H H' → H D = none → H' D = some (.lst ((tl z).map f)) → Q (.ref D) H') :
    tLc (iStr (tVar j)) (gName i) tYes te [i] σ H Q := by
  refine ⟨_, hj, z, rfl, fun D nD => ?_⟩
  refine lc_it (walk_str (z := z)) (fun m H' => Same H H' ∧ H' D = some (.lst (((tl z).take m).map f))) ⟨same_upd nD, upd_same⟩ (fun _ _ _ _ => trivial) ?_ ?_
  · rintro m x H2 H3 hm ⟨s, d⟩ ⟨rfl, c, hc, rfl⟩
    have hg := get_tl hc
    refine ⟨wipe_set _ _ _, ?_⟩
    dsimp only [tYes]
    rw [if_pos rfl]
    refine he c (List.mem_of_getElem? hg) _ _ s fun H4 s4 => ?_
    refine ⟨_, s4 _ _ d, ?_, (s.trans s4).mut nD, ?_⟩
    · rw [List.length_map, List.length_take]
      exact Nat.lt_of_le_of_lt (Nat.le_trans (Nat.min_le_right _ _) hz) (by decide)
    · rw [upd_same, take_map_succ hg]
  · rintro H2 ⟨s, d⟩
    rw [size_tl, List.take_length] at d
    exact hq D _ s nD d
/-- the same over a list, a tuple -/
theorem lc_seq {xs : List V} {i : Nat} {f : V → V} {J : It} (w : Walk J xs.length (fun H' => Same H H') (YAt xs)) (hz : xs.length ≤ 100000)
    (he : ∀ c ∈ xs, ∀ (H2 : Hp) (R : VK), Same H H2 → (∀ H3, Same H2 H3 → R (f c) H3) → te ((wipe σ [i]).set i (some c)) H2 R)
    (hq : ∀ D H', Same H H' → H D = none → H' D = some (.lst (xs.map f)) → Q (.ref D) H') (D : Addr) (nD : H D = none) :
    ∃ W : Nat → Nat → Hp → Prop, (∃ m, W 0 m (upd H D (.lst []))) ∧ ∀ i' m H', W i' m H' →
      (J.stop i' H' ∧ Q (.ref D) H') ∨ (J.go i' H' ∧ ∃ Nx : Hp → Prop, (∀ H', Nx H' → ∃ m', m' < m ∧ W (i' + 1) m' H') ∧ ∀ x H2, J.yld i' H' x H2 → gName i x (wipe σ [i]) H2 fun σ2 H2 => wipe σ2 [i] = wipe σ [i] ∧ tYes σ2 H2 fun b H3 =>
        if b = true then te σ2 H3 fun y H4 => ∃ acc, H4 D = some (.lst acc) ∧ acc.length < sizeLine ∧ Nx (upd H4 D (.lst (acc ++ [y]))) else Nx H3) := by
  refine lc_it w (fun m H' => Same H H' ∧ H' D = some (.lst ((xs.take m).map f))) ⟨same_upd nD, upd_same⟩ (fun _ _ _ q => q.1) ?_ ?_
  · rintro m x H2 H3 hm ⟨s, d⟩ ⟨rfl, hg⟩
    refine ⟨wipe_set _ _ _, ?_⟩
    dsimp only [tYes]
    rw [if_pos rfl]
    refine he x (List.mem_of_getElem? hg) _ _ s fun H4 s4 => ?_
    refine ⟨_, s4 _ _ d, ?_, (s.trans s4).mut nD, ?_⟩
    · rw [List.length_map, List.length_take]
      exact Nat.lt_of_le_of_lt (Nat.le_trans (Nat.min_le_right _ _) hz) (by decide)
    · rw [upd_same, take_map_succ hg]
  · rintro H2 ⟨s, d⟩
    rw [List.take_length] at d
    exact hq D _ s nD d
theorem same_walkL {a : Addr} {xs : List V} (h : SqL K H a xs) : Walk (Itl K a) xs.length (fun H' => Same H H') (YAt xs) :=
  walk_list.mono (fun _ s => s.seq h) fun _ _ _ _ _ _ y => y
theorem same_walkT {a : Addr} {xs : List V} (h : SqT K H a xs) : Walk (Itt K a) xs.length (fun H' => Same H H') (YAt xs) :=
  walk_tup.mono (fun _ s => s.seqT h) fun _ _ _ _ _ _ y => y
/-- all([e for c in text]) -/
theorem all_str {z : Str} {i j : Nat} {p : Nat → Bool} (hz : (tl z).length ≤ 100000) (hj : σ[j]? = some (some (.str z)))
    (he : ∀ c ∈ tl z, ∀ (H2 : Hp) (R : VK), Same H H2 → (∀ H3, Same H2 H3 → R (.bl (p c)) H3) → te ((wipe σ [i]).set i (some (.str ⟨#[c]⟩))) H2 R)
    (hq : ∀ H', Same H H' → Q (.bl ((tl z).all p)) H') :
    tCB (rAll K) (tCons (tLc (iStr (tVar j)) (gName i) tYes te [i]) tNil) σ H Q := by
  show tLc (iStr (tVar j)) (gName i) tYes te [i] σ H fun x H1 => rAll K [x] H1 Q
  refine lc_str (f := fun c => .bl (p c)) hz hj he fun D H' s nD e => ?_
  refine ⟨D, (tl z).map p, rfl, sqL (by rw [e, List.map_map]; rfl), ?_⟩
  rw [List.all_map]
  exact hq _ s
/-- all([e for c in xs]), xs a list or a tuple -/
theorem all_list {a : Addr} {xs : List V} {i : Nat} {p : V → Bool} {tl0 : TE} (hl : ∀ R : VK, R (.ref a) H → tl0 σ H R) (hs : SqL K H a xs) (hz : xs.length ≤ 100000)
    (he : ∀ c ∈ xs, ∀ (H2 : Hp) (R : VK), Same H H2 → (∀ H3, Same H2 H3 → R (.bl (p c)) H3) → te ((wipe σ [i]).set i (some c)) H2 R)
    (hq : ∀ H', Same H H' → Q (.bl (xs.all p)) H') :
    tCB (rAll K) (tCons (tLc (iList K tl0) (gName i) tYes te [i]) tNil) σ H Q := by
  refine hl _ ⟨a, rfl, ⟨xs, hs⟩, fun D nD => ?_⟩
  refine lc_seq (f := fun c => .bl (p c)) (Q := fun x H1 => rAll K [x] H1 Q) (same_walkL hs) hz he (fun D H' s nD e => ?_) D nD
  refine ⟨D, xs.map p, rfl, sqL (by rw [e, List.map_map]; rfl), ?_⟩
  rw [List.all_map]
  exact hq _ s
theorem all_tup {a : Addr} {xs : List V} {i : Nat} {p : V → Bool} {tl0 : TE} (hl : ∀ R : VK, R (.ref a) H → tl0 σ H R) (hs : SqT K H a xs) (hz : xs.length ≤ 100000)
    (he : ∀ c ∈ xs, ∀ (H2 : Hp) (R : VK), Same H H2 → (∀ H3, Same H2 H3 → R (.bl (p c)) H3) → te ((wipe σ [i]).set i (some c)) H2 R)
    (hq : ∀ H', Same H H' → Q (.bl (xs.all p)) H') :
    tCB (rAll K) (tCons (tLc (iTup K tl0) (gName i) tYes te [i]) tNil) σ H Q := by
  refine hl _ ⟨a, rfl, ⟨xs, hs⟩, fun D nD => ?_⟩
  refine lc_seq (f := fun c => .bl (p c)) (Q := fun x H1 => rAll K [x] H1 Q) (same_walkT hs) hz he (fun D H' s nD e => ?_) D nD
  refine ⟨D, xs.map p, rfl, sqL (by rw [e, List.map_map]; rfl), ?_⟩
  rw [List.all_map]
  exact hq _ s
theorem var_is {i : Nat} {v : V} (h : σ[i]? = some (some v)) : ∀ R : VK, R v H → tVar i σ H R := fun R q => ⟨v, h, q⟩
end
end Ga

set_option maxRecDepth 100000
set_option maxHeartbeats 4000000
namespace Ga
open PySem PySem.Spec PyProof.Rows L2 TL
theorem spl_le (S : List Nat) : ∀ (l : List Nat) (k : Nat) (acc p : List Nat), p ∈ spl S k acc l → p.length ≤ acc.length + l.length
  | [], k, acc, p, h => by
    rw [spl_nil] at h
    cases List.mem_singleton.mp h
    exact Nat.le_add_right _ _
  | c :: r, 0, acc, p, h => by
    cases e : pre S (c :: r) with
    | true =>
      rw [spl_hit e] at h
      rcases List.mem_cons.mp h with rfl | h
      · exact Nat.le_add_right _ _
      · have := spl_le S r _ _ p h
        simp at this ⊢
        omega
    | false =>
      rw [spl_miss e] at h
      have := spl_le S r _ _ p h
      simp at this ⊢
      omega
  | c :: r, k + 1, acc, p, h => by
    have := spl_le S r k acc p h
    simp at this ⊢
    omega
theorem spl_len (S : List Nat) : ∀ (l : List Nat) (k : Nat) (acc : List Nat), (spl S k acc l).length ≤ l.length + 1
  | [], k, acc => by rw [spl_nil]; exact Nat.le_refl _
  | c :: r, 0, acc => by
    cases e : pre S (c :: r) with
    | true =>
      rw [spl_hit e]
      have := spl_len S r (S.length - 1) []
      simp
      omega
    | false =>
      rw [spl_miss e]
      have := spl_len S r 0 (acc ++ [c])
      simp
      omega
  | c :: r, k + 1, acc => by
    have := spl_len S r k acc
    show (spl S k acc r).length ≤ _
    simp
    omega
theorem spl_ne (S : List Nat) : ∀ (l : List Nat) (k : Nat) (acc : List Nat), spl S k acc l ≠ []
  | [], k, acc => by rw [spl_nil]; exact List.cons_ne_nil _ _
  | c :: r, 0, acc => by
    cases e : pre S (c :: r) with
    | true => rw [spl_hit e]; exact List.cons_ne_nil _ _
    | false => rw [spl_miss e]; exact spl_ne S r _ _
  | c :: r, k + 1, acc => spl_ne S r k acc
theorem spl_mem (S : List Nat) : ∀ (l : List Nat) (k : Nat) (acc p : List Nat), p ∈ spl S k acc l → ∀ c ∈ p, c ∈ acc ∨ c ∈ l
  | [], k, acc, p, h => by
    rw [spl_nil] at h
    cases List.mem_singleton.mp h
    exact fun c hc => .inl hc
  | d :: r, 0, acc, p, h => by
    cases e : pre S (d :: r) with
    | true =>
      rw [spl_hit e] at h
      rcases List.mem_cons.mp h with rfl | h
      · exact fun c hc => .inl hc
      · intro c hc
        rcases spl_mem S r _ _ p h c hc with h1 | h1
        · cases h1
        · exact .inr (List.mem_cons_of_mem _ h1)
    | false =>
      rw [spl_miss e] at h
      intro c hc
      rcases spl_mem S r _ _ p h c hc with h1 | h1
      · rcases List.mem_append.mp h1 with h2 | h2
        · exact .inl h2
        · cases List.mem_singleton.mp h2
          exact .inr List.mem_cons_self
      · exact .inr (List.mem_cons_of_mem _ h1)
  | d :: r, k + 1, acc, p, h => fun c hc => by
    rcases spl_mem S r k acc p h c hc with h1 | h1
    · exact .inl h1
    · exact .inr (List.mem_cons_of_mem _ h1)
abbrev sl : Str := "/"
theorem tl_sl : tl sl = [47] := by decide +kernel
theorem split_eq (x : Str) : (Txt.split x sl).map tl = spl (tl sl) 0 [] (tl x) := split_spl x sl (by rw [tl_sl]; exact List.cons_ne_nil _ _) (kind_ok (by decide +kernel))
theorem split_le {x p : Str} (h : p ∈ Txt.split x sl) : (tl p).length ≤ (tl x).length := by
  have h2 : tl p ∈ (Txt.split x sl).map tl := List.mem_map_of_mem h
  rw [split_eq] at h2
  have := spl_le _ _ _ _ _ h2
  simp at this
  omega
theorem splitLen (x : Str) : (Txt.split x sl).length ≤ (tl x).length + 1 := by
  have h := congrArg List.length (split_eq x)
  rw [List.length_map] at h
  rw [h]
  exact spl_len _ _ _ _
theorem split_ne (x : Str) : Txt.split x sl ≠ [] := fun e => by
  have h := split_eq x
  rw [e] at h
  exact spl_ne _ _ _ _ h.symm
theorem starts_pre (x y : Str) (hy : tl y ≠ []) : Txt.startswith x y = pre (tl y) (tl x) := by
  have h := at_iff (x := x) (y := y) hy 0
  rw [List.drop_zero] at h
  rw [Bool.eq_iff_iff, ← h]
  unfold Txt.startswith
  rw [Bool.and_eq_true, decide_eq_true_eq]
  exact Iff.rfl
/-- a path lies inside a place -/
def inside (path place : Str) : Bool := decide (place = "") || pre (tl (place ++ sl)) (tl path)
theorem tl_ps (place : Str) : tl (place ++ sl) = tl place ++ [47] := by rw [tl_append, tl_sl]
theorem inside_starts (path place : Str) : Txt.startswith path (place ++ sl) = pre (tl (place ++ sl)) (tl path) :=
  starts_pre _ _ (by rw [tl_ps]; simp)
theorem tl_cut (z : Str) (n : Nat) : tl (cutS z none (some (n : Int))) = (tl z).take n := by
  unfold cutS
  rw [HT.sIx_none, show HT.sIx z.length z.length (some (n : Int)) = min n z.length from HT.sIx_nat z.length z.length n, tl_mk, List.drop_zero, Nat.sub_zero]
  rw [len_tl]
  exact (List.take_eq_take_min).symm
theorem inside_cut (path place : Str) : decide (V.str (cutS path none (some ((place.length : Int) + 1))) = V.str (place ++ sl)) = pre (tl (place ++ sl)) (tl path) := by
  have e1 : ((place.length : Int) + 1) = ((place.length + 1 : Nat) : Int) := by omega
  have e2 : (tl (place ++ sl)).length = place.length + 1 := by rw [tl_ps, List.length_append, ← len_tl]; rfl
  rw [Bool.eq_iff_iff, decide_eq_true_eq, e1]
  unfold pre
  rw [e2, beq_iff_eq, ← tl_cut]
  exact ⟨fun h => by rw [V.str.inj h], fun h => by rw [ext_tl h]⟩
end Ga

set_option maxRecDepth 100000
set_option maxHeartbeats 4000000
namespace Ga
open PySem PySem.Spec PyProof.Rows L2 TL
/-- all but the object at B stays -/
def Kp (B : Addr) (H H' : Hp) : Prop := ∀ b o, b ≠ B → H b = some o → H' b = some o
theorem Kp.refl (B : Addr) (H : Hp) : Kp B H H := fun _ _ _ h => h
theorem Kp.trans {B : Addr} {H H1 H2 : Hp} (a : Kp B H H1) (b : Kp B H1 H2) : Kp B H H2 := fun c o n h => b c o n (a c o n h)
theorem Kp.same {B : Addr} {H H1 : Hp} (a : Same H H1) : Kp B H H1 := fun c o _ h => a c o h
theorem Kp.new {B l : Addr} {H H1 : Hp} {o : HO} (h : H l = none) (a : Kp B (upd H l o) H1) : Kp B H H1 := fun c u n e =>
  a c u n (by rw [upd_ne (ne_of_none e h)]; exact e)
theorem Kp.back {B l : Addr} {H H1 : Hp} {o : HO} (a : Kp B H H1) (h : H l = none) : Kp B H (upd H1 l o) := fun c u n e => by
  rw [upd_ne (ne_of_none e h)]; exact a c u n e
theorem Kp.seqL {K : PySem.W.Frag} {B a : Addr} {H H' : Hp} {xs : List V} (k : Kp B H H') (n : a ≠ B) (h : SqL K H a xs) : SqL K H' a xs := by
  rcases h with (h | ⟨o, h⟩) | h
  · exact .inl (.inl (k _ _ n h))
  · exact .inl (.inr ⟨o, k _ _ n h⟩)
  · exact .inr h
theorem Kp.seqT {K : PySem.W.Frag} {B a : Addr} {H H' : Hp} {xs : List V} (k : Kp B H H') (n : a ≠ B) (h : SqT K H a xs) : SqT K H' a xs := by
  rcases h with (h | ⟨o, h⟩) | h
  · exact .inl (.inl (k _ _ n h))
  · exact .inl (.inr ⟨o, k _ _ n h⟩)
  · exact .inr h
/-- the box of the law at B: its digits, how many are drawn -/
structure Box (H : Hp) (B D : Addr) : Prop where
  ex : ∃ (ds : List Int) (i : Int), H B = some (.lst [.ref D, .int i]) ∧ 0 ≤ i ∧ D ≠ B ∧ H D = some (.lst (ds.map V.int))
theorem Box.same {H H' : Hp} {B D : Addr} (b : Box H B D) (s : Same H H') : Box H' B D := by
  obtain ⟨ds, i, h1, h2, h3, h4⟩ := b.ex
  exact ⟨ds, i, s _ _ h1, h2, h3, s _ _ h4⟩
theorem Box.ne {H : Hp} {B D l : Addr} (b : Box H B D) (h : H l = none) : l ≠ B := fun e => by
  obtain ⟨ds, i, h1, h2, h3, h4⟩ := b.ex
  rw [← e, h] at h1
  cases h1
theorem Box.neD {H : Hp} {B D l : Addr} (b : Box H B D) (h : H l = none) : l ≠ D := fun e => by
  obtain ⟨ds, i, h1, h2, h3, h4⟩ := b.ex
  rw [← e, h] at h4
  cases h4
theorem Box.put {H : Hp} {B D l : Addr} {o : HO} (b : Box H B D) (h1 : l ≠ B) (h2 : l ≠ D) : Box (upd H l o) B D := by
  obtain ⟨ds, i, g1, g2, g3, g4⟩ := b.ex
  exact ⟨ds, i, by rw [upd_ne h1.symm]; exact g1, g2, g3, by rw [upd_ne h2.symm]; exact g4⟩
theorem Box.new {H : Hp} {B D l : Addr} {o : HO} (b : Box H B D) (h : H l = none) : Box (upd H l o) B D := b.same (same_upd h)
/-- a draw below m -/
def spDraw : Sp := fun vs H Q _ => ∃ (B D : Addr) (m : Int), vs = [.ref B, .int m] ∧ 0 < m ∧ Box H B D ∧ ∀ (r : Int) (H' : Hp), 0 ≤ r → r < m → Kp B H H' → Box H' B D → Q (.int r) H'
/-- a value out of the box -/
def spBox (R : Hp → V → Hp → Prop) : Sp := fun vs H Q _ => ∃ B D : Addr, vs = [.ref B] ∧ Box H B D ∧ ∀ (v : V) (H' : Hp), R H v H' → Kp B H H' → Box H' B D → Q v H'

/-! ### displays of constants -/
def constsOf : List Expr → Option (List V)
  | [] => some []
  | .Constant (.str z) _ _ :: r => (constsOf r).map (V.str z :: ·)
  | .Constant (.int i) _ _ :: r => (constsOf r).map (V.int i :: ·)
  | _ => none
def tVals (vs : List V) : TA := fun _ H Q => Q vs H
theorem pa_consts {X : Cx} : ∀ {es : List Expr} {vs : List V}, constsOf es = some vs → PA X es (tVals vs)
  | [], vs, h => by
    cases h
    exact pa_nil
  | .Constant (.str z) k p :: r, vs, h => by
    have h2 : (constsOf r).map (V.str z :: ·) = some vs := h
    cases e : constsOf r with
    | none => rw [e] at h2; cases h2
    | some l =>
      rw [e] at h2
      cases h2
      exact pa_cons pe_str (pa_consts e)
  | .Constant (.int i) k p :: r, vs, h => by
    have h2 : (constsOf r).map (V.int i :: ·) = some vs := h
    cases e : constsOf r with
    | none => rw [e] at h2; cases h2
    | some l =>
      rw [e] at h2
      cases h2
      exact pa_cons pe_int (pa_consts e)
/-! ### text * number -/
def rMulS : R2 := fun x y H Q => ∃ (z : Str) (n : Int), x = .str z ∧ y = .int n ∧ 0 ≤ n ∧ n ≤ 1000 ∧ (tl z).length ≤ 1000 ∧ ∀ r : Str, tl r = (List.replicate n.toNat (tl z)).flatten → Q (.str r) H
theorem flat_arr (z : Array Nat) : ∀ (n : Nat) (acc : Array Nat), ((List.replicate n z).foldl (· ++ ·) acc).toList = acc.toList ++ (List.replicate n z.toList).flatten
  | 0, acc => by simp
  | n + 1, acc => by
    rw [List.replicate_succ, List.foldl_cons, flat_arr z n, List.replicate_succ, List.flatten_cons, Array.toList_append, List.append_assoc]
theorem flat_len {α : Type} (l : List α) : ∀ n : Nat, (List.replicate n l).flatten.length = n * l.length
  | 0 => by simp
  | n + 1 => by rw [List.replicate_succ, List.flatten_cons, List.length_append, flat_len l n, Nat.succ_mul, Nat.add_comm]
theorem op_mulS {X : Cx} : OpR X (binaryOp .Mult) rMulS := by
  intro pins s σ H x y v u Q I rx ry h
  obtain ⟨z, n, rfl, rfl, h0, h1, hz, q⟩ := h
  obtain ⟨t, rfl⟩ := rx
  obtain ⟨t2, rfl⟩ := ry
  have hl : z.length = (tl z).length := len_tl z
  have e63 : (2 : Int) ^ 63 = 9223372036854775808 := by decide
  refine PySem.P.mul_str ?_ (fun a b => ?_) (fun a b => ?_) ?_
  · rw [decide_eq_false (by omega), decide_eq_false (by omega)]
    rfl
  · have : (2 ^ 63 - 1 : Int) / n ≥ (2 ^ 63 - 1 : Int) / 1000 := by
      rw [e63]
      apply Int.le_ediv_of_mul_le (by omega)
      have : (9223372036854775808 - 1 : Int) / 1000 = 9223372036854775 := by decide
      rw [this]
      have := Int.mul_le_mul_of_nonneg_left h1 (show (0 : Int) ≤ 9223372036854775 by decide)
      omega
    have e2 : (2 ^ 63 - 1 : Int) / 1000 = 9223372036854775 := by decide
    omega
  · have : z.length * n.toNat ≤ 1000 * 1000 := Nat.mul_le_mul (by omega) (by omega)
    have s1 : sizeLine = 16777216 := by decide
    exact decide_eq_false (by omega)
  · split
    · have e0 : n.toNat = 0 := by omega
      refine ⟨by decide, .str Str.empty, H, I.tok _, ⟨_, rfl⟩, q _ ?_⟩
      rw [e0]
      rfl
    · split
      · rename_i g1 g2
        refine ⟨.str z, H, I, ⟨_, rfl⟩, q z ?_⟩
        rw [Bool.or_eq_true, beq_iff_eq, beq_iff_eq] at g2
        rcases g2 with g2 | g2
        · rw [g2]
          show tl z = tl z ++ []
          rw [List.append_nil]
        · have e0 : tl z = [] := List.length_eq_zero_iff.mp (by rw [← hl]; exact g2)
          have := flat_len (tl z) n.toNat
          rw [e0] at this ⊢
          exact (List.length_eq_zero_iff.mp (by simpa using this)).symm
      · have e : tl ⟨(List.replicate n.toNat z.cps).foldl (· ++ ·) #[]⟩ = (List.replicate n.toNat (tl z)).flatten := flat_arr z.cps n.toNat #[]
        have s1 : sizeLine = 16777216 := by decide
        refine ⟨?_, .str _, H, I.tok _, ⟨_, rfl⟩, q _ e⟩
        rw [len_tl, e, flat_len]
        have : n.toNat * (tl z).length ≤ 1000 * 1000 := Nat.mul_le_mul (by omega) (by omega)
        omega
/-! ### picks out of a written list -/
section
variable {K : PySem.W.Frag} {σ : L2.St} {H : Hp} {Q : VK} {i : Nat} {B D : Addr} {n : Int} {vs : List V}
theorem draw_is (h0 : 0 < n) (hB : σ[i]? = some (some (.ref B))) (bx : Box H B D) (hq : ∀ (r : Int) (H' : Hp), 0 ≤ r → r < n → Kp B H H' → Box H' B D → Q (.int r) H') :
    tCall spDraw [] E0 (tCons (tVar i) (tCons (tC (.int n)) tNil)) σ H Q := ⟨_, hB, B, D, n, rfl, h0, bx, hq⟩
theorem pick_at {l : Addr} (hn : n = (vs.length : Int)) (h0 : 0 < n) (hl : H l = some (.lst vs)) (ne : l ≠ B) (hB : σ[i]? = some (some (.ref B))) (bx : Box H B D)
    (hq : ∀ v ∈ vs, ∀ H', Kp B H H' → Box H' B D → Q v H') :
    tCall spDraw [] E0 (tCons (tVar i) (tCons (tC (.int n)) tNil)) σ H fun y H2 => rIxL K (.ref l) y H2 Q := by
  refine draw_is h0 hB bx fun r H' r0 rn kp bx' => ?_
  have hr : r.toNat < vs.length := by omega
  have er : r = ((r.toNat : Nat) : Int) := by omega
  refine ⟨l, vs, r, vs[r.toNat], rfl, rfl, sqL (kp l _ ne hl), ?_, hq _ (List.getElem_mem hr) H' kp bx'⟩
  exact at_of er (List.getElem?_eq_getElem hr)
theorem pick (hn : n = (vs.length : Int)) (h0 : 0 < n) (hz : vs.length ≤ 1000) (hB : σ[i]? = some (some (.ref B))) (bx : Box H B D)
    (hq : ∀ v ∈ vs, ∀ H', Kp B H H' → Box H' B D → Q v H') :
    tOp (rIxL K) (tLst (tVals vs)) (tCall spDraw [] E0 (tCons (tVar i) (tCons (tC (.int n)) tNil))) σ H Q := by
  refine ⟨Nat.le_of_lt (small1000 hz), fun l nl => ?_⟩
  exact pick_at hn h0 upd_same (bx.ne nl) hB (bx.new nl) fun v hv H' kp b => hq v hv H' (kp.new nl) b
end
end Ga

set_option maxRecDepth 100000
set_option maxHeartbeats 4000000
namespace Ga
open PySem PySem.Spec PyProof.Rows L2 TL
section
variable {K : PySem.W.Frag} {σ : L2.St} {H : Hp} {Q : VK} {B Dg : Addr} {te : TE}
/-- [e for k in range(n)], e drawn out of the box -/
theorem lc_rng_box {n i : Nat} {R : V → Prop} {Qd : Hp → Prop} {D : Addr} (nD : H D = none) (bx : Box H B Dg) (hz : n ≤ 100000)
    (he : ∀ (m : Nat) (H2 : Hp) (Q2 : VK), m < n → Box H2 B Dg → Kp B H H2 → (∀ v H3, R v → Kp B H2 H3 → Box H3 B Dg → Q2 v H3) → te ((wipe σ [i]).set i (some (.int (0 + m)))) H2 Q2)
    (hq : ∀ H' vs, Kp B H H' → Box H' B Dg → H' D = some (.lst vs) → vs.length = n → (∀ v ∈ vs, R v) → Qd H') :
    ∃ W : Nat → Nat → Hp → Prop, (∃ m, W 0 m (upd H D (.lst []))) ∧ ∀ i' m H', W i' m H' →
      ((Itr 0 n).stop i' H' ∧ Qd H') ∨ ((Itr 0 n).go i' H' ∧ ∃ Nx : Hp → Prop, (∀ H', Nx H' → ∃ m', m' < m ∧ W (i' + 1) m' H') ∧ ∀ x H2, (Itr 0 n).yld i' H' x H2 → gName i x (wipe σ [i]) H2 fun σ2 H2 => wipe σ2 [i] = wipe σ [i] ∧ tYes σ2 H2 fun b H3 =>
        if b = true then te σ2 H3 fun y H4 => ∃ acc, H4 D = some (.lst acc) ∧ acc.length < sizeLine ∧ Nx (upd H4 D (.lst (acc ++ [y]))) else Nx H3) := by
  have neD : D ≠ B := bx.ne nD
  refine lc_it (walk_range (lo := 0) (n := n)) (fun m H' => Kp B H H' ∧ Box H' B Dg ∧ ∃ vs, H' D = some (.lst vs) ∧ vs.length = m ∧ ∀ v ∈ vs, R v)
    ⟨fun b o _ e => same_upd nD b o e, bx.new nD, [], upd_same, rfl, fun _ h => nomatch h⟩ (fun _ _ _ _ => trivial) ?_ ?_
  · rintro m x H2 H3 hm ⟨kp, b2, vs, hD, hl, hR⟩ ⟨rfl, rfl⟩
    refine ⟨wipe_set _ _ _, ?_⟩
    dsimp only [tYes]
    rw [if_pos rfl]
    refine he m H3 _ hm b2 kp fun v H4 rv kp4 b4 => ?_
    refine ⟨vs, kp4 _ _ neD hD, Nat.lt_of_le_of_lt (show vs.length ≤ 100000 by omega) (by decide), (kp.trans kp4).back nD, b4.put neD (bx.neD nD), vs ++ [v], upd_same, by rw [List.length_append, hl]; rfl, ?_⟩
    · intro u hu
      rcases List.mem_append.mp hu with h | h
      · exact hR u h
      · cases List.mem_singleton.mp h
        exact rv
  · rintro H2 ⟨kp, b2, vs, hD, hl, hR⟩
    exact hq H2 vs kp b2 hD hl hR
end
theorem ixL {X : Cx} {K : PySem.W.Frag} (h : X.K = K) : IxR X (rIxL K) := by
  subst h
  exact ix_list
/-! ### lists of texts as data -/
theorem canAll : ∀ l : List Str, (∀ z ∈ l, PyData.strOk z = true) → PyData.canLayAll0 (l.map PyData.str) = true
  | [], _ => rfl
  | z :: r, h => by
    show (PyData.strOk z && PyData.canLayAll0 (r.map PyData.str)) = true
    rw [h z List.mem_cons_self, canAll r fun y hy => h y (List.mem_cons_of_mem _ hy)]
    rfl
theorem depthAll0 : ∀ l : List Str, PyData.depthAll (l.map PyData.str) = 0
  | [] => rfl
  | z :: r => by
    show max 0 (PyData.depthAll (r.map PyData.str)) = 0
    rw [depthAll0 r]
    rfl
theorem shaped_strs {l : List Str} (h : ∀ z ∈ l, PyData.strOk z = true) : SeqAt.shaped (.list (l.map PyData.str)) = true := by
  unfold SeqAt.shaped
  rw [show PyData.canLay0 (.list (l.map PyData.str)) = PyData.canLayAll0 (l.map PyData.str) from rfl, canAll l h,
    show PyData.depth (.list (l.map PyData.str)) = PyData.depthAll (l.map PyData.str) + 1 from rfl, depthAll0]
  rfl
theorem dpAll_strs {K : PySem.W.Frag} {H : Hp} : ∀ l : List Str, DpAll K H (l.map V.str) (l.map PyData.str)
  | [] => .nil
  | z :: r => .cons (.str z) (dpAll_strs r)
theorem eqv_nil : ∀ l : List PyData, PyData.eqv (.list l) (.list []) = l.isEmpty
  | [] => rfl
  | _ :: _ => rfl
end Ga

set_option maxRecDepth 100000
set_option maxHeartbeats 4000000
namespace K01
open PySem PySem.Spec PyProof.Rows L2 TL Ga
def top (i : Nat) : Stmt := PySem.Challenge.pw_sameanswers_k01_names_paths_and_lines.main.body.getD i (.Pass ⟨0, 0, 0, 0⟩)
abbrev sIsName : Stmt := top 8
abbrev sIsPath : Stmt := top 9
abbrev sIsPlace : Stmt := top 10
abbrev sSign : Stmt := top 11
abbrev sIsLine : Stmt := top 12
abbrev sIsWord : Stmt := top 13
abbrev sIsLines : Stmt := top 14
abbrev sIsInside : Stmt := top 15
theorem scIsPath : FnScope ["text", "names", "name"] ["text"] (defScope sIsPath) := ⟨rfl, rfl, rfl, by decide +kernel, rfl, by decide +kernel, by decide +kernel⟩
theorem scIsPlace : FnScope ["text"] ["text"] (defScope sIsPlace) := ⟨rfl, rfl, rfl, by decide +kernel, rfl, by decide +kernel, by decide +kernel⟩
theorem scSign : FnScope ["sign"] ["sign"] (defScope sSign) := ⟨rfl, rfl, rfl, by decide +kernel, rfl, by decide +kernel, by decide +kernel⟩
theorem scIsLine : FnScope ["text", "sign"] ["text"] (defScope sIsLine) := ⟨rfl, rfl, rfl, by decide +kernel, rfl, by decide +kernel, by decide +kernel⟩
theorem scIsWord : FnScope ["text", "sign"] ["text"] (defScope sIsWord) := ⟨rfl, rfl, rfl, by decide +kernel, rfl, by decide +kernel, by decide +kernel⟩
theorem scIsLines : FnScope ["lines", "line"] ["lines"] (defScope sIsLines) := ⟨rfl, rfl, rfl, by decide +kernel, rfl, by decide +kernel, by decide +kernel⟩
theorem scIsInside : FnScope ["path", "place"] ["path", "place"] (defScope sIsInside) := ⟨rfl, rfl, rfl, by decide +kernel, rfl, by decide +kernel, by decide +kernel⟩
theorem scIsName : FnScope ["text", "sign"] ["text"] (defScope sIsName) := ⟨rfl, rfl, rfl, by decide +kernel, rfl, by decide +kernel, by decide +kernel⟩
/-- what the module's names hold -/
structure Tx (mg : Str → Option Value) : Prop where
  len : mg "len" = none
  all : mg "all" = none
  ord : mg "ord" = none
  int : mg "int" = none
  range : mg "range" = none
  repr : mg "repr" = none
  tuple : mg "tuple" = none
  nm : ∃ t, mg "NAME_MOST" = some (.int 8 t)
  dm : ∃ t, mg "DEPTH_MOST" = some (.int 3 t)
  lm : ∃ t, mg "LINE_MOST" = some (.int 20 t)
  lsm : ∃ t, mg "LINES_MOST" = some (.int 12 t)
  wm : ∃ t, mg "WORD_MOST" = some (.int 12 t)
  ns : ∃ t, mg "NAME_SIGNS" = some (.str "abcdefghijklmnopqrstuvwxyz0123456789" t)
  pc : ∃ t, mg "PERCENT" = some (.int 37 t)
abbrev nsigns : List Nat := tl "abcdefghijklmnopqrstuvwxyz0123456789"
theorem q34 (c : Nat) : decide (V.str ⟨#[c]⟩ = V.str "\"") = decide (c = 34) := by
  refine decide_eq_decide.mpr ⟨fun h => ?_, fun h => by rw [h]; decide +kernel⟩
  have h2 := congrArg tl (V.str.inj h)
  have h3 : [c] = [34] := h2.trans (by decide +kernel)
  exact (List.cons.inj h3).1
theorem q37 (c : Nat) : decide (V.int (c : Int) = V.int 37) = decide (c = 37) := by
  refine decide_eq_decide.mpr ⟨fun h => ?_, fun h => by rw [h]; rfl⟩
  have h2 : (c : Int) = 37 := V.int.inj h
  omega
def isName (z : Str) : Bool := (decide (1 ≤ ((tl z).length : Int)) && decide (((tl z).length : Int) ≤ 8)) && (tl z).all fun c => decide (c ∈ nsigns)
/-- a text in, a truth out, nothing changed -/
def spStr (p : Str → Bool) : Sp := fun vs H Q _ => ∃ z : Str, vs = [.str z] ∧ (tl z).length ≤ 1000 ∧ ∀ H', Same H H' → Q (.bl (p z)) H'
theorem lenle {z : Str} (h : (tl z).length ≤ 1000) : z.length ≤ sizeLine := by rw [len_tl]; exact Nat.le_trans h (by decide)
section
variable {P : Program} {w : World} {K : PySem.W.Frag} {mg : Str → Option Value} {base : Heap}
theorem ok_is_name {f : Addr} {fd : FuncData} (F : Fun K "is_name" "is_name" sIsName f fd) (T : Tx mg) : FnOk P w K mg base CX0 1 f fd ["text"] (spStr isName) := by
  obtain ⟨t1, m1⟩ := T.nm
  obtain ⟨t2, m2⟩ := T.ns
  refine F.ok scIsName (fun vs H Q E h => ?_) (fun cdv A outer s H vs Q E hr h => ?_)
  · obtain ⟨z, rfl, _⟩ := h
    rfl
  · obtain ⟨z, rfl, hz, q⟩ := h
    refine ⟨_, pss_one (ps_ret (pe_and (pe_chain op_le op_le pe_int (pe_callB call_len_str (by rfl) T.len PySem.boot_len (pa_cons (pv 0) pa_nil)) (pe_glob (v := .int 8) rfl m1 ⟨_, rfl⟩))
      (pe_one (pe_callB (cr_all rfl) (by rfl) T.all (by decide +kernel) (pa_cons
        (pe_lc (own := [("sign", 1)]) rfl scIsName.nd (pi_str (pv 0)) (blkOk_by (N := ["text", "sign"]) (sc := defScope sIsName) (by decide +kernel))
          (fun _ _ _ _ _ => pg_name (i := 1) scIsName.nd rfl (Or.inl rfl)) (fun _ _ _ _ _ => pts_nil) (fun _ _ _ _ _ => pe_cmpR op_in_sign (pv 1) (pe_glob (v := .str "abcdefghijklmnopqrstuvwxyz0123456789") rfl m2 ⟨_, rfl⟩) (by rfl))) pa_nil))))), ?_⟩
    refine ⟨_, rfl, z, rfl, lenle hz, 1, _, rfl, rfl, _, rfl, ?_⟩
    refine ite2 (fun e => ?_) (fun e => ?_)
    · refine ⟨_, _, rfl, rfl, _, rfl, ite2 (fun e2 => ?_) (fun e2 => ?_)⟩
      · refine all_str (p := fun c => decide (c ∈ nsigns)) (by omega) rfl (fun c hc H2 R s k => ?_) fun H' s => ?_
        · exact ⟨_, rfl, c, _, rfl, rfl, k H2 (.refl _)⟩
        · have r := q H' s
          rw [isName, ← len_tl, e, e2, Bool.true_and, Bool.true_and] at r
          exact r
      · have r := q H (.refl _)
        rw [isName, ← len_tl, Bool.eq_false_iff.mpr e2, Bool.and_false, Bool.false_and] at r
        exact r
    · refine ⟨_, rfl, iteF ?_⟩
      have r := q H (.refl _)
      rw [isName, ← len_tl, Bool.eq_false_iff.mpr e, Bool.false_and, Bool.false_and] at r
      exact r
def isPath (z : Str) : Bool := decide (((Txt.split z sl).length : Int) ≤ 3) && (Txt.split z sl).all isName
def strOf : V → Str
  | .str z => z
  | _ => ""
theorem ok_is_path {f f1 : Addr} {fd fd1 : FuncData} (F : Fun K "is_path" "is_path" sIsPath f fd) (T : Tx mg) (G1 : FnOk P w K mg base CX0 1 f1 fd1 ["text"] (spStr isName))
    (g1 : mg "is_name" = some (.ref f1)) (k1 : PySem.W.keepIn K (.ref f1) = true) (b1 : Binds K fd1 ["text"] []) : FnOk P w K mg base CX0 2 f fd ["text"] (spStr isPath) := by
  obtain ⟨t1, m1⟩ := T.dm
  refine F.ok scIsPath (fun vs H Q E h => ?_) (fun cdv A outer s H vs Q E hr h => ?_)
  · obtain ⟨z, rfl, _⟩ := h
    rfl
  · obtain ⟨z, rfl, hz, q⟩ := h
    refine ⟨_, pss_cons (ps_set (i := 1) scIsPath.nd rfl (.inl rfl) (pe_split (pv 0) pe_str))
      (pss_one (ps_ret (pe_and (pe_cmpR op_le (pe_callB call_len_seq (by rfl) T.len PySem.boot_len (pa_cons (pv 1) pa_nil)) (pe_glob (v := .int 3) rfl m1 ⟨_, rfl⟩) (nomark _))
      (pe_one (pe_callB (cr_all rfl) (by rfl) T.all (by decide +kernel) (pa_cons
        (pe_lc (own := [("name", 2)]) rfl scIsPath.nd (pi_list (pv 1)) (blkOk_by (N := ["text", "names", "name"]) (sc := defScope sIsPath) (by decide +kernel))
          (fun _ _ _ _ _ => pg_name (i := 2) scIsPath.nd rfl (Or.inl rfl)) (fun _ _ _ _ _ => pts_nil) (fun _ _ _ _ _ => pe_call G1 hr (by rfl) g1 k1 b1 .nil pass0 (pa_cons (pv 2) pa_nil))) pa_nil)))))), ?_⟩
    refine ⟨_, rfl, ⟨_, rfl⟩, z, sl, rfl, rfl, rfl, ?_, fun p np => ?_⟩
    · rw [len_tl]
      exact Nat.le_trans (Nat.add_le_add_right hz 2) (by decide)
    have s1 : Same H (upd H p (.lst ((Txt.split z sl).map V.str))) := same_upd np
    refine ⟨_, rfl, p, _, rfl, .inl (sqL upd_same), _, _, rfl, rfl, _, rfl, ?_⟩
    rw [List.length_map]
    refine ite2 (fun e => ?_) (fun e => ?_)
    · refine all_list (p := fun v => isName (strOf v)) (var_is rfl) (sqL upd_same) ?_ (fun c hc H2 R s k => ?_) fun H' s => ?_
      · rw [List.length_map]
        have := splitLen z
        omega
      · obtain ⟨y, hy, rfl⟩ := List.mem_map.mp hc
        exact ⟨_, rfl, y, rfl, Nat.le_trans (split_le hy) hz, fun H' s' => k H' s'⟩
      · have r := q H' (s1.trans s)
        rw [isPath, e, Bool.true_and] at r
        rw [List.all_map]
        exact r
    · have r := q _ s1
      rw [isPath, Bool.eq_false_iff.mpr e, Bool.false_and] at r
      exact r
def isPlace (z : Str) : Bool := decide (z = "") || isPath z
theorem ok_is_place {f f1 : Addr} {fd fd1 : FuncData} (F : Fun K "is_place" "is_place" sIsPlace f fd) (G1 : FnOk P w K mg base CX0 2 f1 fd1 ["text"] (spStr isPath))
    (g1 : mg "is_path" = some (.ref f1)) (k1 : PySem.W.keepIn K (.ref f1) = true) (b1 : Binds K fd1 ["text"] []) : FnOk P w K mg base CX0 3 f fd ["text"] (spStr isPlace) := by
  refine F.ok scIsPlace (fun vs H Q E h => ?_) (fun cdv A outer s H vs Q E hr h => ?_)
  · obtain ⟨z, rfl, _⟩ := h
    rfl
  · obtain ⟨z, rfl, hz, q⟩ := h
    refine ⟨_, pss_one (ps_ret (pe_or (pe_cmpR op_eq (pv 0) pe_str (nomark _)) (pe_one (pe_call G1 hr (by rfl) g1 k1 b1 .nil pass0 (pa_cons (pv 0) pa_nil))))), ?_⟩
    refine ⟨_, rfl, rfl, _, rfl, ?_⟩
    refine ite2 (fun e => ?_) (fun e => ?_)
    · have r := q H (.refl _)
      have e2 : z = "" := V.str.inj (of_decide_eq_true e)
      rw [isPlace, decide_eq_true e2, Bool.true_or] at r
      exact r
    · refine ⟨_, rfl, z, rfl, hz, fun H' s' => ?_⟩
      have r := q H' s'
      have e2 : ¬ z = "" := fun x => e (by rw [x]; exact decide_eq_true rfl)
      rw [isPlace, decide_eq_false e2, Bool.false_or] at r
      exact r
def signOk (c : Nat) : Bool := (!decide ([c] < [32])) && (!decide ([126] < [c])) && (!decide (c = 34) && !decide (c = 37))
/-- one sign in, a truth out -/
def spSign : Sp := fun vs H Q _ => ∃ c : Nat, vs = [.str ⟨#[c]⟩] ∧ ∀ H', Same H H' → Q (.bl (signOk c)) H'
theorem ok_sign {f : Addr} {fd : FuncData} (F : Fun K "is_line_sign" "is_line_sign" sSign f fd) (T : Tx mg) : FnOk P w K mg base CX0 1 f fd ["sign"] spSign := by
  obtain ⟨t1, m1⟩ := T.pc
  refine F.ok scSign (fun vs H Q E h => ?_) (fun cdv A outer s H vs Q E hr h => ?_)
  · obtain ⟨z, rfl, _⟩ := h
    rfl
  · obtain ⟨c, rfl, q⟩ := h
    have r := q H (.refl _)
    refine ⟨_, pss_one (ps_ret (pe_and (pe_chain op_le_str op_le_str pe_str (pv 0) pe_str) (pe_and (pe_cmpR op_ne (pv 0) pe_str (nomark _))
      (pe_one (pe_cmpR op_ne (pe_callB call_ord (by rfl) T.ord (by decide +kernel) (pa_cons (pv 0) pa_nil)) (pe_glob (v := .int 37) rfl m1 ⟨_, rfl⟩) (nomark _)))))), ?_⟩
    refine ⟨_, rfl, _, _, rfl, rfl, _, rfl, ?_⟩
    refine ite2 (fun e => ?_) (fun e => ?_)
    · refine ⟨_, _, rfl, rfl, _, rfl, ite2 (fun e2 => ?_) (fun e2 => ?_)⟩
      · refine ⟨_, rfl, rfl, _, rfl, ite2 (fun e3 => ?_) (fun e3 => ?_)⟩
        · refine ⟨_, rfl, _, rfl, rfl, rfl, ?_⟩
          have e' : (!decide ([c] < [32])) = true := e
          have e2' : (!decide ([126] < [c])) = true := e2
          rw [q34] at e3
          rw [signOk, e', e2', e3, Bool.true_and, Bool.true_and, Bool.true_and, ← q37] at r
          exact r
        · have e' : (!decide ([c] < [32])) = true := e
          have e2' : (!decide ([126] < [c])) = true := e2
          rw [q34] at e3
          rw [signOk, e', e2', Bool.eq_false_iff.mpr e3, Bool.true_and, Bool.true_and, Bool.false_and] at r
          exact r
      · have e2' : (!decide ([126] < [c])) = false := Bool.eq_false_iff.mpr e2
        rw [signOk, e2', Bool.and_false, Bool.false_and] at r
        exact r
    · refine ⟨_, rfl, iteF ?_⟩
      have e' : (!decide ([c] < [32])) = false := Bool.eq_false_iff.mpr e
      rw [signOk, e', Bool.false_and, Bool.false_and] at r
      exact r
def isLine (z : Str) : Bool := decide (((tl z).length : Int) ≤ 20) && (tl z).all signOk
theorem ok_is_line {f f1 : Addr} {fd fd1 : FuncData} (F : Fun K "is_line" "is_line" sIsLine f fd) (T : Tx mg) (G1 : FnOk P w K mg base CX0 1 f1 fd1 ["sign"] spSign)
    (g1 : mg "is_line_sign" = some (.ref f1)) (k1 : PySem.W.keepIn K (.ref f1) = true) (b1 : Binds K fd1 ["sign"] []) : FnOk P w K mg base CX0 2 f fd ["text"] (spStr isLine) := by
  obtain ⟨t1, m1⟩ := T.lm
  refine F.ok scIsLine (fun vs H Q E h => ?_) (fun cdv A outer s H vs Q E hr h => ?_)
  · obtain ⟨z, rfl, _⟩ := h
    rfl
  · obtain ⟨z, rfl, hz, q⟩ := h
    refine ⟨_, pss_one (ps_ret (pe_and (pe_cmpR op_le (pe_callB call_len_str (by rfl) T.len PySem.boot_len (pa_cons (pv 0) pa_nil)) (pe_glob (v := .int 20) rfl m1 ⟨_, rfl⟩) (nomark _))
      (pe_one (pe_callB (cr_all rfl) (by rfl) T.all (by decide +kernel) (pa_cons
        (pe_lc (own := [("sign", 1)]) rfl scIsLine.nd (pi_str (pv 0)) (blkOk_by (N := ["text", "sign"]) (sc := defScope sIsLine) (by decide +kernel))
          (fun _ _ _ _ _ => pg_name (i := 1) scIsLine.nd rfl (Or.inl rfl)) (fun _ _ _ _ _ => pts_nil) (fun _ _ _ _ _ => pe_call G1 hr (by rfl) g1 k1 b1 .nil pass0 (pa_cons (pv 1) pa_nil))) pa_nil))))), ?_⟩
    refine ⟨_, rfl, z, rfl, lenle hz, _, _, rfl, rfl, _, rfl, ?_⟩
    refine ite2 (fun e => ?_) (fun e => ?_)
    · refine all_str (p := signOk) (by omega) rfl (fun c hc H2 R s k => ?_) fun H' s => ?_
      · exact ⟨_, rfl, c, rfl, fun H' s' => k H' s'⟩
      · have r := q H' s
        rw [isLine, ← len_tl, e, Bool.true_and] at r
        exact r
    · have r := q H (.refl _)
      rw [isLine, ← len_tl, Bool.eq_false_iff.mpr e, Bool.false_and] at r
      exact r
def isWord (z : Str) : Bool := (decide (1 ≤ ((tl z).length : Int)) && decide (((tl z).length : Int) ≤ 12)) && (tl z).all signOk
theorem ok_is_word {f f1 : Addr} {fd fd1 : FuncData} (F : Fun K "is_word" "is_word" sIsWord f fd) (T : Tx mg) (G1 : FnOk P w K mg base CX0 1 f1 fd1 ["sign"] spSign)
    (g1 : mg "is_line_sign" = some (.ref f1)) (k1 : PySem.W.keepIn K (.ref f1) = true) (b1 : Binds K fd1 ["sign"] []) : FnOk P w K mg base CX0 2 f fd ["text"] (spStr isWord) := by
  obtain ⟨t1, m1⟩ := T.wm
  refine F.ok scIsWord (fun vs H Q E h => ?_) (fun cdv A outer s H vs Q E hr h => ?_)
  · obtain ⟨z, rfl, _⟩ := h
    rfl
  · obtain ⟨z, rfl, hz, q⟩ := h
    refine ⟨_, pss_one (ps_ret (pe_and (pe_chain op_le op_le pe_int (pe_callB call_len_str (by rfl) T.len PySem.boot_len (pa_cons (pv 0) pa_nil)) (pe_glob (v := .int 12) rfl m1 ⟨_, rfl⟩))
      (pe_one (pe_callB (cr_all rfl) (by rfl) T.all (by decide +kernel) (pa_cons
        (pe_lc (own := [("sign", 1)]) rfl scIsWord.nd (pi_str (pv 0)) (blkOk_by (N := ["text", "sign"]) (sc := defScope sIsWord) (by decide +kernel))
          (fun _ _ _ _ _ => pg_name (i := 1) scIsWord.nd rfl (Or.inl rfl)) (fun _ _ _ _ _ => pts_nil) (fun _ _ _ _ _ => pe_call G1 hr (by rfl) g1 k1 b1 .nil pass0 (pa_cons (pv 1) pa_nil))) pa_nil))))), ?_⟩
    refine ⟨_, rfl, z, rfl, lenle hz, 1, _, rfl, rfl, _, rfl, ?_⟩
    refine ite2 (fun e => ?_) (fun e => ?_)
    · refine ⟨_, _, rfl, rfl, _, rfl, ite2 (fun e2 => ?_) (fun e2 => ?_)⟩
      · refine all_str (p := signOk) (by omega) rfl (fun c hc H2 R s k => ?_) fun H' s => ?_
        · exact ⟨_, rfl, c, rfl, fun H' s' => k H' s'⟩
        · have r := q H' s
          rw [isWord, ← len_tl, e, e2, Bool.true_and, Bool.true_and] at r
          exact r
      · have r := q H (.refl _)
        rw [isWord, ← len_tl, Bool.eq_false_iff.mpr e2, Bool.and_false, Bool.false_and] at r
        exact r
    · refine ⟨_, rfl, iteF ?_⟩
      have r := q H (.refl _)
      rw [isWord, ← len_tl, Bool.eq_false_iff.mpr e, Bool.false_and, Bool.false_and] at r
      exact r
/-- rows of texts in a tuple -/
def isLines (l : List Str) : Bool := decide ((l.length : Int) ≤ 12) && l.all isLine
def spLines (K : PySem.W.Frag) : Sp := fun vs H Q _ => ∃ (a : Addr) (l : List Str), vs = [.ref a] ∧ SqT K H a (l.map V.str) ∧ l.length ≤ 1000 ∧ (∀ z ∈ l, (tl z).length ≤ 1000) ∧
  ∀ H', Same H H' → Q (.bl (isLines l)) H'
theorem ok_is_lines {f f1 : Addr} {fd fd1 : FuncData} (F : Fun K "is_lines" "is_lines" sIsLines f fd) (T : Tx mg) (G1 : FnOk P w K mg base CX0 2 f1 fd1 ["text"] (spStr isLine))
    (g1 : mg "is_line" = some (.ref f1)) (k1 : PySem.W.keepIn K (.ref f1) = true) (b1 : Binds K fd1 ["text"] []) : FnOk P w K mg base CX0 3 f fd ["lines"] (spLines K) := by
  obtain ⟨t1, m1⟩ := T.lsm
  refine F.ok scIsLines (fun vs H Q E h => ?_) (fun cdv A outer s H vs Q E hr h => ?_)
  · obtain ⟨a, z, rfl, _⟩ := h
    rfl
  · obtain ⟨a, l, rfl, hT, hl, hz, q⟩ := h
    refine ⟨_, pss_one (ps_ret (pe_and (pe_cmpR op_le (pe_callB call_len_seq (by rfl) T.len PySem.boot_len (pa_cons (pv 0) pa_nil)) (pe_glob (v := .int 12) rfl m1 ⟨_, rfl⟩) (nomark _))
      (pe_one (pe_callB (cr_all rfl) (by rfl) T.all (by decide +kernel) (pa_cons
        (pe_lc (own := [("line", 1)]) rfl scIsLines.nd (pi_tup (pv 0)) (blkOk_by (N := ["lines", "line"]) (sc := defScope sIsLines) (by decide +kernel))
          (fun _ _ _ _ _ => pg_name (i := 1) scIsLines.nd rfl (Or.inl rfl)) (fun _ _ _ _ _ => pts_nil) (fun _ _ _ _ _ => pe_call G1 hr (by rfl) g1 k1 b1 .nil pass0 (pa_cons (pv 1) pa_nil))) pa_nil))))), ?_⟩
    refine ⟨_, rfl, a, _, rfl, .inr hT, _, _, rfl, rfl, _, rfl, ?_⟩
    rw [List.length_map]
    refine ite2 (fun e => ?_) (fun e => ?_)
    · refine all_tup (p := fun v => isLine (strOf v)) (var_is rfl) hT (by rw [List.length_map]; omega) (fun c hc H2 R s k => ?_) fun H' s => ?_
      · obtain ⟨y, hy, rfl⟩ := List.mem_map.mp hc
        exact ⟨_, rfl, y, rfl, hz y hy, fun H' s' => k H' s'⟩
      · have r := q H' s
        rw [isLines, e, Bool.true_and] at r
        rw [List.all_map]
        exact r
    · have r := q H (.refl _)
      rw [isLines, Bool.eq_false_iff.mpr e, Bool.false_and] at r
      exact r
def spInside : Sp := fun vs H Q _ => ∃ x y : Str, vs = [.str x, .str y] ∧ (tl x).length ≤ 1000 ∧ (tl y).length ≤ 1000 ∧ ∀ H', Same H H' → Q (.bl (inside x y)) H'
theorem str_eq (x y : Str) : decide (V.str x = V.str y) = decide (x = y) := decide_eq_decide.mpr ⟨fun h => V.str.inj h, fun h => by rw [h]⟩
theorem ok_is_inside {f : Addr} {fd : FuncData} (F : Fun K "is_inside" "is_inside" sIsInside f fd) : FnOk P w K mg base CX0 1 f fd ["path", "place"] spInside := by
  refine F.ok scIsInside (fun vs H Q E h => ?_) (fun cdv A outer s H vs Q E hr h => ?_)
  · obtain ⟨a, z, rfl, _⟩ := h
    rfl
  · obtain ⟨x, y, rfl, hx, hy, q⟩ := h
    have r := q H (.refl _)
    refine ⟨_, pss_one (ps_ret (pe_or (pe_cmpR op_eq (pv 1) pe_str (nomark _)) (pe_one (pe_m1 PySem.F.slot_str_startswith PySem.F.type_str_startswith mt_startswith (pv 0) (pe_op op_add_str (pv 1) pe_str))))), ?_⟩
    refine ⟨_, rfl, rfl, _, rfl, ?_⟩
    rw [str_eq]
    refine ite2 (fun e => ?_) (fun e => ?_)
    · rw [inside, e, Bool.true_or] at r
      exact r
    · refine ⟨_, rfl, ⟨_, rfl⟩, _, rfl, _, _, rfl, rfl, ?_, x, _, rfl, rfl, ?_⟩
      · show y.length + 1 ≤ _
        rw [len_tl]
        exact Nat.le_trans (Nat.add_le_add_right hy 1) (by decide)
      · rw [inside, Bool.eq_false_iff.mpr e, Bool.false_or, ← inside_starts] at r
        exact r
end
end K01

set_option maxRecDepth 100000
set_option maxHeartbeats 4000000
namespace K01
open PySem PySem.Spec PyProof.Rows L2 TL Ga
abbrev sCell : Stmt := top 17
abbrev sDigits : Stmt := top 18
abbrev sDraw : Stmt := top 19
abbrev sPath : Stmt := top 20
abbrev sLine : Stmt := top 21
theorem scCell : FnScope ["script", "k"] ["script", "k"] (defScope sCell) := ⟨rfl, rfl, rfl, by decide +kernel, rfl, by decide +kernel, by decide +kernel⟩
theorem scDigits : FnScope ["script", "first", "last", "digits", "k", "cell", "turn", "seed"] ["script", "first", "last"] (defScope sDigits) := ⟨rfl, rfl, rfl, by decide +kernel, rfl, by decide +kernel, by decide +kernel⟩
theorem scDraw : FnScope ["box", "many", "at"] ["box", "many"] (defScope sDraw) := ⟨rfl, rfl, rfl, by decide +kernel, rfl, by decide +kernel, by decide +kernel⟩
theorem scPath : FnScope ["box", "depth", "k"] ["box"] (defScope sPath) := ⟨rfl, rfl, rfl, by decide +kernel, rfl, by decide +kernel, by decide +kernel⟩
theorem scLine : FnScope ["box"] ["box"] (defScope sLine) := ⟨rfl, rfl, rfl, by decide +kernel, rfl, by decide +kernel, by decide +kernel⟩
/-- an int out of the script -/
def spCell (K : PySem.W.Frag) : Sp := fun vs H Q _ => ∃ (a : Addr) (ns : List Int) (k : Int), vs = [.ref a, .int k] ∧ SqL K H a (ns.map V.int) ∧ 0 ≤ k ∧ ∀ z : Int, Q (.int z) H
/-- a new list of ints -/
def spDigits (K : PySem.W.Frag) : Sp := fun vs H Q _ => ∃ (a : Addr) (ns : List Int) (u v : Int), vs = [.ref a, .int u, .int v] ∧ SqL K H a (ns.map V.int) ∧ 0 ≤ u ∧ u ≤ 1000 ∧ 0 ≤ v ∧ v ≤ 1000 ∧
  ∀ (p : Addr) (H' : Hp) (ds : List Int), Same H H' → H p = none → H' p = some (.lst (ds.map V.int)) → Q (.ref p) H'
section
variable {P : Program} {w : World} {K : PySem.W.Frag} {mg : Str → Option Value} {base : Heap}
theorem ok_cell {f : Addr} {fd : FuncData} (F : Fun K "_law_cell" "_law_cell" sCell f fd) (T : Tx mg) : FnOk P w K mg base CX0 1 f fd ["script", "k"] (spCell K) := by
  refine F.ok scCell (fun vs H Q E h => ?_) (fun cdv A outer s H vs Q E hr h => ?_)
  · obtain ⟨a, z, k, rfl, _⟩ := h
    rfl
  · obtain ⟨a, ns, k, rfl, hS, hk, q⟩ := h
    refine ⟨_, pss_cons (ps_if (pt_cmpR op_lt (pv 1) (pe_callB call_len_seq (by rfl) T.len PySem.boot_len (pa_cons (pv 0) pa_nil)) (nomark _)) (pss_one (ps_ret (pe_ix ix_list (pv 0) (pv 1) (fun _ _ => rfl)))) pss_nil)
      (pss_one (ps_ret pe_int)), ?_⟩
    refine ⟨_, rfl, _, rfl, a, _, rfl, .inl hS, _, _, rfl, rfl, _, rfl, ite2 (fun e => ?_) (fun e => ?_)⟩
    · have e1 : k < ((ns.map V.int).length : Int) := of_decide_eq_true e
      rw [List.length_map] at e1
      have h1 : k.toNat < ns.length := by omega
      refine ⟨_, rfl, _, rfl, a, _, _, .int ns[k.toNat], rfl, rfl, hS, ?_, q _⟩
      exact at_of (j := k.toNat) (by omega) (by rw [List.getElem?_map, List.getElem?_eq_getElem h1]; rfl)
    · exact q 0
theorem ok_draw {f : Addr} {fd : FuncData} (F : Fun K "_law_draw" "_law_draw" sDraw f fd) (T : Tx mg) : FnOk P w K mg base CX0 1 f fd ["box", "many"] spDraw := by
  refine F.ok scDraw (fun vs H Q E h => ?_) (fun cdv A outer s H vs Q E hr h => ?_)
  · obtain ⟨B, D, m, rfl, _⟩ := h
    rfl
  · obtain ⟨B, D, m, rfl, hm, bx, q⟩ := h
    obtain ⟨ds, i, hB, hi, hne, hD⟩ := bx.ex
    have ix0 : ∀ {X : Cx}, IxR X (rIxL X.K) := ix_list
    refine ⟨_, pss_cons (ps_set (i := 2) scDraw.nd rfl (.inl rfl) (pe_ix ix_list (pv 0) pe_int (fun _ _ => rfl)))
      (pss_cons (ps_asg (pe_op op_add (pv 2) pe_int) (pg_sub (pv 0) pe_int set_list))
      (pss_cons (ps_if (pt_cmpR op_lt (pv 2) (pe_callB call_len_seq (by rfl) T.len PySem.boot_len (pa_cons (pe_ix ix_list (pv 0) pe_int (fun _ _ => rfl)) pa_nil)) (nomark _))
          (pss_one (ps_ret (pe_op op_mod (pe_callTy call_int1 (by rfl) T.int (by decide +kernel) (pa_cons (pe_ix ix_list (pe_ix ix_list (pv 0) pe_int (fun _ _ => rfl)) (pv 2) (fun _ _ => rfl)) pa_nil)) (pv 1)))) pss_nil)
      (pss_one (ps_ret (pe_op op_mod (pe_callTy call_int1 (by rfl) T.int (by decide +kernel) (pa_cons (pe_op op_add (pe_op op_mul (pv 2) pe_int) pe_int) pa_nil)) (pv 1)))))), ?_⟩
    refine ⟨_, rfl, _, _, _, _, rfl, rfl, sqL hB, atI_nat (j := 1) rfl, _, rfl, _, _, rfl, rfl, _, rfl, B, _, _, 1, rfl, rfl, hB, rfl, ?_⟩
    have hB2 : (upd H B (.lst [.ref D, .int (i + 1)])) B = some (.lst [.ref D, .int (i + 1)]) := upd_same
    have hD2 : (upd H B (.lst [.ref D, .int (i + 1)])) D = some (.lst (ds.map V.int)) := by rw [upd_ne hne]; exact hD
    have kp : Kp B H (upd H B (.lst [.ref D, .int (i + 1)])) := fun b o n e => by rw [upd_ne n]; exact e
    have bx2 : Box (upd H B (.lst [.ref D, .int (i + 1)])) B D := ⟨ds, i + 1, hB2, by omega, hne, hD2⟩
    refine ⟨_, rfl, _, rfl, _, _, _, _, rfl, rfl, sqL hB2, atI_nat (j := 0) rfl, D, _, rfl, .inl (sqL hD2), _, _, rfl, rfl, _, rfl, ite2 (fun e => ?_) (fun e => ?_)⟩
    · have e1 : i < ((ds.map V.int).length : Int) := of_decide_eq_true e
      rw [List.length_map] at e1
      have h1 : i.toNat < ds.length := by omega
      refine ⟨_, rfl, _, _, _, _, rfl, rfl, sqL hB2, atI_nat (j := 0) rfl, _, rfl, D, _, _, .int ds[i.toNat], rfl, rfl, sqL hD2, at_of (j := i.toNat) (by omega) (by rw [List.getElem?_map, List.getElem?_eq_getElem h1]; rfl), .inl ⟨_, rfl, ?_⟩⟩
      exact ⟨_, rfl, _, _, rfl, rfl, hm, q _ _ (Int.emod_nonneg _ (by omega)) (Int.emod_lt_of_pos _ hm) kp bx2⟩
    · refine ⟨_, rfl, _, _, rfl, rfl, .inr ⟨by decide, by decide⟩, _, _, rfl, rfl, .inl ⟨_, rfl, ?_⟩⟩
      exact ⟨_, rfl, _, _, rfl, rfl, hm, q _ _ (Int.emod_nonneg _ (by omega)) (Int.emod_lt_of_pos _ hm) kp bx2⟩
theorem ok_digits {f f1 : Addr} {fd fd1 : FuncData} (F : Fun K "_law_digits" "_law_digits" sDigits f fd) (T : Tx mg) (G1 : FnOk P w K mg base CX0 1 f1 fd1 ["script", "k"] (spCell K))
    (g1 : mg "_law_cell" = some (.ref f1)) (k1 : PySem.W.keepIn K (.ref f1) = true) (b1 : Binds K fd1 ["script", "k"] []) : FnOk P w K mg base CX0 2 f fd ["script", "first", "last"] (spDigits K) := by
  refine F.ok scDigits (fun vs H Q E h => ?_) (fun cdv A outer s H vs Q E hr h => ?_)
  · obtain ⟨a, z, u, v, rfl, _⟩ := h
    rfl
  · obtain ⟨a, ns, u, v, rfl, hS, hu, hu2, hv, hv2, q⟩ := h
    refine ⟨_, pss_cons (ps_set (i := 3) scDigits.nd rfl (.inl rfl) (pe_lst pa_nil))
      (pss_cons (ps_for PassesOwn.never rfl (pi_range2 (by rfl) T.range (pa_cons (pv 1) (pa_cons (pv 2) pa_nil))) (pg_name (i := 4) scDigits.nd rfl (Or.inl rfl))
        (pss_cons (ps_set (i := 5) scDigits.nd rfl (.inl rfl) (pe_call G1 hr (by rfl) g1 k1 b1 .nil pass0 (pa_cons (pv 0) (pa_cons (pv 4) pa_nil))))
        (pss_cons (ps_if (pt_cmpR op_lt (pv 5) pe_int (nomark _)) (pss_one (ps_set (i := 5) scDigits.nd rfl (.inl rfl) (pe_op op_sub pe_int (pe_op op_mul pe_int (pv 5))))) pss_nil)
        (pss_one (ps_if (pt_cmpR op_ge (pv 5) pe_int (nomark _))
          (pss_one (ps_for PassesOwn.never rfl (pi_range1 (by rfl) T.range (pa_cons pe_int pa_nil)) (pg_name (i := 6) scDigits.nd rfl (Or.inl rfl))
            (pss_one (ps_if (pt_cmpR op_gt (pv 5) pe_int (nomark _))
              (pss_cons (ps_expr (pe_bm PySem.F.plainAttrs_list PySem.F.slot_list_append PySem.F.type_list_append mt_append (pv 3) (pa_cons (pe_op op_mod (pe_callTy call_int1 (by rfl) T.int (by decide +kernel) (pa_cons (pv 5) pa_nil)) pe_int) pa_nil)))
              (pss_one (ps_set (i := 5) scDigits.nd rfl (.inl rfl) (pe_op op_fdiv (pv 5) pe_int)))) pss_nil))))
          (pss_cons (ps_set (i := 7) scDigits.nd rfl (.inl rfl) (pe_op op_mod (pe_callTy call_int1 (by rfl) T.int (by decide +kernel) (pa_cons (pe_op op_add (pe_op op_add (pe_op op_mul (pv 5) pe_int) (pe_op op_mul (pv 4) pe_int)) pe_int) pa_nil)) pe_int))
          (pss_one (ps_for PassesOwn.never rfl (pi_range1 (by rfl) T.range (pa_cons pe_int pa_nil)) (pg_name (i := 6) scDigits.nd rfl (Or.inl rfl))
            (pss_cons (ps_set (i := 7) scDigits.nd rfl (.inl rfl) (pe_op op_mod (pe_callTy call_int1 (by rfl) T.int (by decide +kernel) (pa_cons (pe_op op_add (pe_op op_add (pe_op op_mul (pv 7) pe_int) (pe_op op_mul pe_int (pv 6))) pe_int) pa_nil)) pe_int))
            (pss_one (ps_expr (pe_bm PySem.F.plainAttrs_list PySem.F.slot_list_append PySem.F.type_list_append mt_append (pv 3) (pa_cons (pe_op op_mod (pe_callTy call_int1 (by rfl) T.int (by decide +kernel) (pa_cons (pe_op op_fdiv (pv 7) pe_int) pa_nil)) pe_int) pa_nil)))))))))))))
      (pss_one (ps_ret (pv 3)))), ?_⟩
    refine ⟨Nat.zero_le _, fun p np => ?_⟩
    have hpow : (2 : Int) ^ 62 = 4611686018427387904 := by decide
    refine ⟨_, rfl, _, rfl, u, v, rfl, ⟨by omega, by omega, by omega, by omega⟩, ?_⟩
    refine for_range (lo := u) (n := (v - u).toNat) (fun i σ H' => ∃ (k' c' t' s' : Option V) (ds : List Int), σ = [some (.ref a), some (.int u), some (.int v), some (.ref p), k', c', t', s'] ∧ Same H H' ∧
      H' p = some (.lst (ds.map V.int)) ∧ ds.length ≤ 60 * i) ⟨none, none, none, none, [], rfl, same_upd np, upd_same, by simp⟩ ?_ ?_
    · rintro i σ H1 hi ⟨k', c', t', s', ds, rfl, s1, hp, hl⟩
      have hi2 : i < 1000 := by omega
      refine ⟨_, rfl, _, rfl, a, ns, _, rfl, s1.seq hS, by omega, fun z0 => ?_⟩
      refine ⟨_, rfl, _, _, rfl, rfl, _, rfl, ite2 (fun e0 => ⟨_, rfl, _, _, rfl, rfl, .inl ⟨by decide, by decide⟩, _, _, rfl, rfl, ?_⟩) (fun e0 => ?_)⟩
      all_goals
        refine ⟨_, rfl, _, _, rfl, rfl, _, rfl, ite2 (fun e1 => ?_) (fun e1 => ?_)⟩
        · refine ⟨60, rfl, by decide, by decide, for_range (lo := 0) (n := 60) (fun j σ H' => ∃ (c' : Int) (t' : Option V) (ds : List Int), σ = [some (.ref a), some (.int u), some (.int v), some (.ref p), some (.int (u + i)), some (.int c'), t', s'] ∧ Same H H' ∧
            H' p = some (.lst (ds.map V.int)) ∧ ds.length ≤ 60 * i + j) ⟨_, _, ds, rfl, s1, hp, by omega⟩ ?_ ?_⟩
          · rintro j σ H2 hj ⟨c2, t2, ds2, rfl, s2, hp2, hl2⟩
            refine ⟨_, rfl, _, _, rfl, rfl, _, rfl, ite2 (fun _ => ?_) (fun _ => ?_)⟩
            · refine ⟨_, rfl, .inl ⟨rfl, _, sqL hp2⟩, _, rfl, .inl ⟨_, rfl, _, _, rfl, rfl, (by show (0 : Int) < 1000; decide), p, _, _, rfl, rfl, hp2, ?_, ?_⟩⟩
              · rw [List.length_map]
                exact Nat.lt_of_le_of_lt (show _ ≤ 100000 by omega) (by decide)
              · refine ⟨_, rfl, _, _, rfl, rfl, ⟨by decide, by decide⟩, ?_⟩
                exact ⟨_, _, ds2 ++ [_], rfl, s2.mut np, by rw [upd_same, List.map_append]; rfl, by rw [List.length_append]; show ds2.length + 1 ≤ _; omega⟩
            · exact ⟨c2, _, ds2, rfl, s2, hp2, by omega⟩
          · rintro σ H2 ⟨c2, t2, ds2, rfl, s2, hp2, hl2⟩
            exact ⟨_, _, _, _, ds2, rfl, s2, hp2, by omega⟩
        · refine ⟨_, rfl, _, _, rfl, rfl, .inr ⟨by decide, by decide⟩, _, rfl, _, _, rfl, rfl, .inr ⟨by decide, by decide⟩, _, _, rfl, rfl, _, _, rfl, rfl, .inl ⟨_, rfl, _, _, rfl, rfl, (by show (0 : Int) < 2147483399; decide), ?_⟩⟩
          refine ⟨12, rfl, by decide, by decide, for_range (lo := 0) (n := 12) (fun j σ H' => ∃ (c' : Int) (t' : Option V) (w : Int) (ds : List Int), σ = [some (.ref a), some (.int u), some (.int v), some (.ref p), some (.int (u + i)), some (.int c'), t', some (.int w)] ∧ Same H H' ∧
            H' p = some (.lst (ds.map V.int)) ∧ ds.length ≤ 60 * i + j) ⟨_, _, _, ds, rfl, s1, hp, by omega⟩ ?_ ?_⟩
          · rintro j σ H2 hj ⟨c2, t2, w2, ds2, rfl, s2, hp2, hl2⟩
            refine ⟨_, rfl, _, _, rfl, rfl, .inr ⟨by decide, by decide⟩, _, rfl, _, _, rfl, rfl, .inl ⟨by decide, by decide⟩, _, _, rfl, rfl, _, _, rfl, rfl, .inl ⟨_, rfl, _, _, rfl, rfl, (by show (0 : Int) < 2147483563; decide), ?_⟩⟩
            refine ⟨_, rfl, .inl ⟨rfl, _, sqL hp2⟩, _, rfl, _, _, rfl, rfl, ⟨by decide, by decide⟩, .inl ⟨_, rfl, _, _, rfl, rfl, (by show (0 : Int) < 1000; decide), p, _, _, rfl, rfl, hp2, ?_, ?_⟩⟩
            · rw [List.length_map]
              exact Nat.lt_of_le_of_lt (show _ ≤ 100000 by omega) (by decide)
            · exact ⟨_, _, _, ds2 ++ [_], rfl, s2.mut np, by rw [upd_same, List.map_append]; rfl, by rw [List.length_append]; show ds2.length + 1 ≤ _; omega⟩
          · rintro σ H2 ⟨c2, t2, w2, ds2, rfl, s2, hp2, hl2⟩
            exact ⟨_, _, _, _, ds2, rfl, s2, hp2, by omega⟩
    · rintro σ H1 ⟨k', c', t', s', ds, rfl, s1, hp, hl⟩
      exact ⟨_, rfl, q p H1 ds s1 np hp⟩
end
end K01

set_option maxRecDepth 100000
set_option maxHeartbeats 4000000
namespace K01
open PySem PySem.Spec PyProof.Rows L2 TL Ga
abbrev sAlike : Stmt := top 27
theorem scAlike : FnScope ["one", "two"] ["one", "two"] (defScope sAlike) := ⟨rfl, rfl, rfl, by decide +kernel, rfl, by decide +kernel, by decide +kernel⟩
/-- two values that are the same datum -/
def spAlike (K : PySem.W.Frag) : Sp := fun vs H Q _ => ∃ (x y : V) (d : PyData), vs = [x, y] ∧ Dp K H x d ∧ Dp K H y d ∧ d.showable = true ∧ d.hasDict = false ∧ d.depth ≤ 40 ∧ d.shown.length ≤ sizeLine ∧ Q (.bl true) H
section
variable {P : Program} {w : World} {K : PySem.W.Frag} {mg : Str → Option Value} {base : Heap}
theorem ok_alike {f : Addr} {fd : FuncData} (F : Fun K "_law_alike" "_law_alike" sAlike f fd) (T : Tx mg) : FnG P w K mg base CX0 1 f fd ["one", "two"] (spAlike K) := by
  refine okG F scAlike (fun vs H Q E h => ?_) (fun cdv A hg outer s H vs Q E hr h => ?_)
  · obtain ⟨x, y, d, rfl, _⟩ := h
    rfl
  · obtain ⟨x, y, d, rfl, dx, dy, h1, h2, h3, h4, q⟩ := h
    refine ⟨_, pss_one (ps_ret (pe_cmpR op_eq (pe_callB (call_reprD hg hr.units) (by rfl) T.repr (by decide +kernel) (pa_cons (pv 0) pa_nil))
      (pe_callB (call_reprD hg hr.units) (by rfl) T.repr (by decide +kernel) (pa_cons (pv 1) pa_nil)) (nomark _))), ?_⟩
    refine ⟨_, rfl, x, d, rfl, dx, h1, h2, h3, h4, _, rfl, y, d, rfl, dy, h1, h2, h3, h4, rfl, ?_⟩
    rw [decide_eq_true rfl]
    exact q
end
end K01

set_option maxRecDepth 100000
set_option maxHeartbeats 4000000
namespace K01
open PySem PySem.Spec PyProof.Rows L2 TL Ga
abbrev sText : Stmt := top 28
abbrev sLIsName : Stmt := top 29
abbrev sLIsPath : Stmt := top 30
abbrev sLInside : Stmt := top 23
theorem scText : FnScope ["box", "kind", "text", "turn"] ["box"] (defScope sText) := ⟨rfl, rfl, rfl, by decide +kernel, rfl, by decide +kernel, by decide +kernel⟩
theorem scLIsName : FnScope ["text", "sign"] ["text"] (defScope sLIsName) := ⟨rfl, rfl, rfl, by decide +kernel, rfl, by decide +kernel, by decide +kernel⟩
theorem scLIsPath : FnScope ["text", "names", "name"] ["text"] (defScope sLIsPath) := ⟨rfl, rfl, rfl, by decide +kernel, rfl, by decide +kernel, by decide +kernel⟩
theorem scLInside : FnScope ["path", "place"] ["path", "place"] (defScope sLInside) := ⟨rfl, rfl, rfl, by decide +kernel, rfl, by decide +kernel, by decide +kernel⟩
/-- signs that a text of the law may have -/
def okc (c : Nat) : Bool := decide (32 ≤ c) && (decide (c ≤ 126) && !decide (c = 37))
def okText (n : Nat) (z : Str) : Prop := (tl z).length ≤ n ∧ (tl z).all okc = true
instance (n : Nat) (z : Str) : Decidable (okText n z) := inferInstanceAs (Decidable (_ ∧ _))
theorem okText.mono {m n : Nat} {z : Str} (h : okText m z) (l : m ≤ n) : okText n z := ⟨Nat.le_trans h.1 l, h.2⟩
theorem okText.app {m n : Nat} {x y : Str} (h : okText m x) (g : okText n y) : okText (m + n) (x ++ y) := by
  refine ⟨?_, ?_⟩
  · rw [tl_append, List.length_append]
    exact Nat.add_le_add h.1 g.1
  · rw [tl_append, List.all_append, h.2, g.2]
    rfl
theorem okText.len {n : Nat} {z : Str} (h : okText n z) (l : n ≤ 100000) : z.length ≤ sizeLine := by
  rw [len_tl]
  exact Nat.le_trans (Nat.le_trans h.1 l) (by decide)
/-- all of these values are texts of at most n signs that may be -/
def menu (n : Nat) (vs : List V) : Bool := vs.all fun v => match v with
  | .str z => decide (okText n z)
  | _ => false
theorem menu_mem {n : Nat} {vs : List V} (h : menu n vs = true) {v : V} (hv : v ∈ vs) : ∃ z, v = .str z ∧ okText n z := by
  have := List.all_eq_true.mp h v hv
  cases v with
  | str z => exact ⟨z, rfl, of_decide_eq_true this⟩
  | _ => cases this
def nats (vs : List V) : Bool := vs.all fun v => match v with
  | .int i => decide (0 ≤ i ∧ i ≤ 100)
  | _ => false
theorem nats_mem {vs : List V} (h : nats vs = true) {v : V} (hv : v ∈ vs) : ∃ i, v = .int i ∧ 0 ≤ i ∧ i ≤ 100 := by
  have := List.all_eq_true.mp h v hv
  cases v with
  | int z => exact ⟨z, rfl, (of_decide_eq_true this).1, (of_decide_eq_true this).2⟩
  | _ => cases this
/-- a text of the law -/
def spTxt (n : Nat) : Sp := spBox fun _ v _ => ∃ z, v = .str z ∧ okText n z
/-- a line of the law -/
def rows (vs : List V) : Bool := vs.all fun v => match v with
  | .str z => decide (okText 20 z) && isLine z
  | _ => false
theorem rows_mem {vs : List V} (h : rows vs = true) {v : V} (hv : v ∈ vs) : ∃ z, v = .str z ∧ okText 20 z ∧ isLine z = true := by
  have := List.all_eq_true.mp h v hv
  cases v with
  | str z =>
    have h2 := Bool.and_eq_true_iff.mp this
    exact ⟨z, rfl, of_decide_eq_true h2.1, h2.2⟩
  | _ => cases this
def spLine : Sp := spBox fun _ v _ => ∃ z, v = .str z ∧ okText 20 z ∧ isLine z = true
section
variable {P : Program} {w : World} {K : PySem.W.Frag} {mg : Str → Option Value} {base : Heap} {fD : Addr} {fdD : FuncData}
theorem ok_line {f : Addr} {fd : FuncData} (F : Fun K "_law_line" "_law_line" sLine f fd) (GD : FnOk P w K mg base CX0 1 fD fdD ["box", "many"] spDraw)
    (gD : mg "_law_draw" = some (.ref fD)) (kD : PySem.W.keepIn K (.ref fD) = true) (bD : Binds K fdD ["box", "many"] []) : FnOk P w K mg base CX0 2 f fd ["box"] spLine := by
  refine F.ok scLine (fun vs H Q E h => ?_) (fun cdv A outer s H vs Q E hr h => ?_)
  · obtain ⟨B, D, rfl, _⟩ := h
    rfl
  · obtain ⟨B, D, rfl, bx, q⟩ := h
    refine ⟨_, pss_one (ps_ret (pe_ix ix_list (pe_lst (pa_consts rfl)) (pe_call GD hr (by rfl) gD kD bD .nil pass0 (pa_cons (pv 0) (pa_cons pe_int pa_nil))) (fun _ _ => rfl))), ?_⟩
    refine pick (B := B) (D := D) (by rfl) (by decide) (by decide) rfl bx fun v hv H' kp b => ?_
    exact q v H' (rows_mem (by decide +kernel) hv) kp b
theorem ok_linside {f : Addr} {fd : FuncData} (F : Fun K "_law_inside" "_law_inside" sLInside f fd) (T : Tx mg) : FnOk P w K mg base CX0 1 f fd ["path", "place"] spInside := by
  refine F.ok scLInside (fun vs H Q E h => ?_) (fun cdv A outer s H vs Q E hr h => ?_)
  · obtain ⟨a, z, rfl, _⟩ := h
    rfl
  · obtain ⟨x, y, rfl, hx, hy, q⟩ := h
    have r := q H (.refl _)
    refine ⟨_, pss_one (ps_ret (pe_or (pe_cmpR op_eq (pv 1) pe_str (nomark _)) (pe_one (pe_cmpR op_eq (pe_slice sl_str (pv 0) po_none
      (po_some (pe_op op_add (pe_callB call_len_str (by rfl) T.len PySem.boot_len (pa_cons (pv 1) pa_nil)) pe_int))) (pe_op op_add_str (pv 1) pe_str) (nomark _))))), ?_⟩
    refine ⟨_, rfl, rfl, _, rfl, ?_⟩
    rw [str_eq]
    refine ite2 (fun e => ?_) (fun e => ?_)
    · rw [inside, e, Bool.true_or] at r
      exact r
    · refine ⟨_, rfl, _, rfl, y, rfl, lenle hy, _, _, rfl, rfl, _, rfl, x, rfl, lenle hx, _, rfl, _, _, rfl, rfl, ?_, rfl, ?_⟩
      · show y.length + 1 ≤ _
        rw [len_tl]
        exact Nat.le_trans (Nat.add_le_add_right hy 1) (by decide)
      · rw [inside, Bool.eq_false_iff.mpr e, Bool.false_or, ← inside_cut] at r
        exact r
theorem ok_lis_name {f : Addr} {fd : FuncData} (F : Fun K "_law_is_name" "_law_is_name" sLIsName f fd) (T : Tx mg) : FnOk P w K mg base CX0 1 f fd ["text"] (spStr isName) := by
  refine F.ok scLIsName (fun vs H Q E h => ?_) (fun cdv A outer s H vs Q E hr h => ?_)
  · obtain ⟨z, rfl, _⟩ := h
    rfl
  · obtain ⟨z, rfl, hz, q⟩ := h
    refine ⟨_, pss_cons (ps_for PassesOwn.never rfl (pi_str (pv 0)) (pg_name (i := 1) scLIsName.nd rfl (Or.inl rfl))
        (pss_one (ps_if (pt_cmpR op_notIn_sign (pv 1) pe_str (by rfl)) (pss_one (ps_ret pe_bl)) pss_nil)))
      (pss_one (ps_ret (pe_chain op_le op_le pe_int (pe_callB call_len_str (by rfl) T.len PySem.boot_len (pa_cons (pv 0) pa_nil)) pe_int))), ?_⟩
    refine ⟨_, rfl, z, rfl, ?_⟩
    refine for_it (walk_str (z := z)) (fun m σ H' => ∃ v : Option V, σ = [some (.str z), v] ∧ H' = H ∧ ((tl z).take m).all (fun c => decide (c ∈ nsigns)) = true) ⟨none, rfl, rfl, rfl⟩ (fun _ _ _ _ _ => trivial) ?_ ?_
    · rintro m x σ H1 H2 hm ⟨v, rfl, rfl, hall⟩ ⟨rfl, c, hc, rfl⟩
      refine ⟨_, rfl, c, _, rfl, rfl, _, rfl, ite2 (fun e => ?_) (fun e => ?_)⟩
      · have e1 : ¬ c ∈ nsigns := fun h => by
          have e2 : (!decide (c ∈ nsigns)) = true := e
          rw [decide_eq_true h] at e2
          cases e2
        have e3 : isName z = false := by
          rw [isName, Bool.and_eq_false_iff]
          refine .inr (Bool.eq_false_iff.mpr fun h => e1 ?_)
          exact of_decide_eq_true (List.all_eq_true.mp h c (List.mem_of_getElem? (get_tl hc)))
        have r := q _ (.refl _)
        rw [e3] at r
        exact r
      · refine ⟨_, rfl, rfl, ?_⟩
        have e2 : decide (c ∈ nsigns) = true := by
          cases e3 : decide (c ∈ nsigns) with
          | true => rfl
          | false =>
            have e4 : (!decide (c ∈ nsigns)) = true := by rw [e3]; rfl
            exact absurd e4 e
        rw [List.take_add_one, get_tl hc, List.all_append, hall]
        show (true && (decide (c ∈ nsigns) && true)) = true
        rw [e2]
        rfl
    · rintro σ H1 ⟨v, rfl, rfl, hall⟩
      rw [size_tl, List.take_length] at hall
      have r := q _ (.refl _)
      rw [isName, hall, Bool.and_true, ← len_tl] at r
      refine ⟨_, rfl, z, rfl, lenle hz, 1, _, rfl, rfl, _, rfl, ite2 (fun e => ?_) (fun e => ?_)⟩
      · rw [e, Bool.true_and] at r
        exact ⟨_, _, rfl, rfl, r⟩
      · rw [Bool.eq_false_iff.mpr e, Bool.false_and] at r
        exact r
theorem strOk_of {z : Str} (h : ∀ c ∈ tl z, okc c = true) : PyData.strOk z = true := by
  show z.cps.all (· < 0x110000) = true
  rw [← Array.all_toList, List.all_eq_true]
  intro c hc
  have h2 := h c hc
  unfold okc at h2
  rw [Bool.and_eq_true, Bool.and_eq_true, decide_eq_true_eq, decide_eq_true_eq] at h2
  exact decide_eq_true (by omega)
theorem split_ok {x p : Str} (h : p ∈ Txt.split x sl) (ho : (tl x).all okc = true) : ∀ c ∈ tl p, okc c = true := fun c hc => by
  have h2 : tl p ∈ (Txt.split x sl).map tl := List.mem_map_of_mem h
  rw [split_eq] at h2
  rcases spl_mem _ _ _ _ _ h2 c hc with h3 | h3
  · cases h3
  · exact List.all_eq_true.mp ho c h3
/-- a text in, a truth out, nothing changed -/
def spTx (p : Str → Bool) : Sp := fun vs H Q _ => ∃ z : Str, vs = [.str z] ∧ okText 1000 z ∧ ∀ H', Same H H' → Q (.bl (p z)) H'
theorem ok_lis_path {f f1 : Addr} {fd fd1 : FuncData} (F : Fun K "_law_is_path" "_law_is_path" sLIsPath f fd) (T : Tx mg) (G1 : FnOk P w K mg base CX0 1 f1 fd1 ["text"] (spStr isName))
    (g1 : mg "_law_is_name" = some (.ref f1)) (k1 : PySem.W.keepIn K (.ref f1) = true) (b1 : Binds K fd1 ["text"] []) : FnOk P w K mg base CX0 2 f fd ["text"] (spTx isPath) := by
  refine F.ok scLIsPath (fun vs H Q E h => ?_) (fun cdv A outer s H vs Q E hr h => ?_)
  · obtain ⟨z, rfl, _⟩ := h
    rfl
  · obtain ⟨z, rfl, ⟨hz, ho⟩, q⟩ := h
    refine ⟨_, pss_cons (ps_set (i := 1) scLIsPath.nd rfl (.inl rfl) (pe_split (pv 0) pe_str))
      (pss_one (ps_ret (pe_and (pe_cmpR op_le (pe_callB call_len_seq (by rfl) T.len PySem.boot_len (pa_cons (pv 1) pa_nil)) pe_int (nomark _))
      (pe_one (pe_cmpR (op_eqD hr.units)
        (pe_lc (own := [("name", 2)]) rfl scLIsPath.nd (pi_list (pv 1)) (blkOk_by (N := ["text", "names", "name"]) (sc := defScope sLIsPath) (by decide +kernel))
          (fun _ _ _ _ _ => pg_name (i := 2) scLIsPath.nd rfl (Or.inl rfl)) (fun _ _ _ _ _ => pts_one (pt_not (pt_val (pe_call G1 hr (by rfl) g1 k1 b1 .nil pass0 (pa_cons (pv 2) pa_nil))))) (fun _ _ _ _ _ => pv 2))
        (pe_lst pa_nil) (nomark _)))))), ?_⟩
    refine ⟨_, rfl, ⟨_, rfl⟩, z, sl, rfl, rfl, rfl, ?_, fun p np => ?_⟩
    · rw [len_tl]
      exact Nat.le_trans (Nat.add_le_add_right hz 2) (by decide)
    have s1 : Same H (upd H p (.lst ((Txt.split z sl).map V.str))) := same_upd np
    generalize hH1 : upd H p (.lst ((Txt.split z sl).map V.str)) = H1 at s1 ⊢
    have hp : H1 p = some (.lst ((Txt.split z sl).map V.str)) := by rw [← hH1, upd_same]
    refine ⟨_, rfl, p, _, rfl, .inl (sqL hp), _, _, rfl, rfl, _, rfl, ?_⟩
    rw [List.length_map]
    refine ite2 (fun e => ?_) (fun e => ?_)
    · refine ⟨_, rfl, p, rfl, ⟨_, sqL hp⟩, fun D nD => ?_⟩
      refine lc_it (walk_list (K := K) (a := p) (xs := (Txt.split z sl).map V.str)) (fun m H' => Same H1 H' ∧ ∃ l : List Str, H' D = some (.lst (l.map V.str)) ∧ (∀ y ∈ l, y ∈ Txt.split z sl) ∧ l.length ≤ m ∧
        l.isEmpty = ((Txt.split z sl).take m).all isName) ⟨same_upd nD, [], upd_same, (fun _ h => nomatch h), Nat.le_refl _, rfl⟩ (fun _ _ _ q => q.1.seq (sqL hp)) ?_ ?_
      · rintro m x H2 H3 hm ⟨s2, l, hD, hl, hlen, hemp⟩ ⟨rfl, hx⟩
        rw [List.getElem?_map] at hx
        cases hy : (Txt.split z sl)[m]? with
        | none =>
          rw [hy] at hx
          cases hx
        | some y =>
          rw [hy] at hx
          cases hx
          have hmem := List.mem_of_getElem? hy
          refine ⟨wipe_set _ _ _, ?_⟩
          refine ⟨_, rfl, y, rfl, Nat.le_trans (split_le hmem) hz, fun H4 s4 => ⟨_, rfl, ?_⟩⟩
          refine ite2 (fun e2 => ?_) (fun e2 => ?_)
          · refine ⟨_, rfl, _, s4 _ _ hD, ?_, (s2.trans s4).mut nD, l ++ [y], ?_, ?_, ?_, ?_⟩
            · rw [List.length_map]
              have := splitLen z
              rw [List.length_map] at hm
              exact Nat.lt_of_le_of_lt (show _ ≤ 100000 by omega) (by decide)
            · rw [upd_same, List.map_append]
              rfl
            · intro u hu
              rcases List.mem_append.mp hu with h | h
              · exact hl u h
              · cases List.mem_singleton.mp h
                exact hmem
            · rw [List.length_append]
              show l.length + 1 ≤ _
              omega
            · rw [List.take_add_one, hy, List.all_append]
              have e3 : isName y = false := by
                cases e4 : isName y with
                | false => rfl
                | true =>
                  rw [e4] at e2
                  cases e2
              show (l ++ [y]).isEmpty = (_ && (isName y && true))
              rw [e3, Bool.false_and, Bool.and_false]
              cases l <;> rfl
          · refine ⟨s2.trans s4, l, s4 _ _ hD, hl, by omega, ?_⟩
            rw [List.take_add_one, hy, List.all_append]
            have e3 : isName y = true := by
              cases e4 : isName y with
              | true => rfl
              | false =>
                rw [e4] at e2
                exact absurd rfl e2
            show l.isEmpty = (_ && (isName y && true))
            rw [e3, ← hemp, Bool.true_and, Bool.and_true]
      · rintro H2 ⟨s2, l, hD, hl, hlen, hemp⟩
        rw [List.length_map, List.take_length] at hemp
        refine ⟨Nat.zero_le _, fun r nr => ?_⟩
        have s3 : Same H2 (upd H2 r (.lst [])) := same_upd nr
        refine ⟨.list (l.map PyData.str), .list [], .lst (sqL (s3 _ _ hD)) (dpAll_strs l), .lst (sqL upd_same) .nil, shaped_strs fun y hy => strOk_of (split_ok (hl y hy) ho), by decide, ?_⟩
        rw [eqv_nil, show (l.map PyData.str).isEmpty = l.isEmpty by cases l <;> rfl, hemp]
        have r := q _ ((s1.trans s2).trans s3)
        rw [isPath, e, Bool.true_and] at r
        exact r
    · have r := q _ s1
      rw [isPath, Bool.eq_false_iff.mpr e, Bool.false_and] at r
      exact r
end
end K01

set_option maxRecDepth 100000
set_option maxHeartbeats 4000000
namespace K01
open PySem PySem.Spec PyProof.Rows L2 TL Ga
theorem all_rep {l : List Nat} {p : Nat → Bool} (h : l.all p = true) : ∀ n : Nat, (List.replicate n l).flatten.all p = true
  | 0 => rfl
  | n + 1 => by rw [List.replicate_succ, List.flatten_cons, List.all_append, h, all_rep h n]; rfl
/-- a path of the law: names joined -/
abbrev pnames : List V := [.str "a", .str "b", .str "ab", .str "x1"]
def isPth (v : V) : Prop := ∃ ps : List Str, v = .str (Txt.join sl ps) ∧ 1 ≤ ps.length ∧ ps.length ≤ 3 ∧ ∀ p ∈ ps, V.str p ∈ pnames
def spPth : Sp := spBox fun _ v _ => isPth v
theorem pname_str {v : V} (h : v ∈ pnames) : ∃ p : Str, v = .str p := by
  rcases menu_mem (n := 2) (vs := pnames) (by decide +kernel) h with ⟨z, e, _⟩
  exact ⟨z, e⟩
theorem pname_len {p : Str} (h : V.str p ∈ pnames) : okText 2 p := by
  obtain ⟨z, e, o⟩ := menu_mem (n := 2) (vs := pnames) (by decide +kernel) h
  cases e
  exact o
theorem strs_of : ∀ {vs : List V}, (∀ v ∈ vs, v ∈ pnames) → ∃ ps : List Str, vs = ps.map V.str ∧ ∀ p ∈ ps, V.str p ∈ pnames
  | [], _ => ⟨[], rfl, fun _ h => nomatch h⟩
  | v :: r, h => by
    obtain ⟨ps, e, g⟩ := strs_of (vs := r) fun u hu => h u (List.mem_cons_of_mem _ hu)
    obtain ⟨p, rfl⟩ := pname_str (h v List.mem_cons_self)
    exact ⟨p :: ps, by rw [e]; rfl, fun u hu => by
      rcases List.mem_cons.mp hu with rfl | hu
      · exact h _ List.mem_cons_self
      · exact g u hu⟩
theorem sum_len : ∀ {ps : List Str}, (∀ p ∈ ps, V.str p ∈ pnames) → (ps.map (·.length)).sum ≤ 2 * ps.length
  | [], _ => by simp
  | p :: r, h => by
    have h1 := (pname_len (h p List.mem_cons_self)).1
    rw [← len_tl] at h1
    have h2 := sum_len (ps := r) fun u hu => h u (List.mem_cons_of_mem _ hu)
    rw [List.map_cons, List.sum_cons, List.length_cons]
    omega
theorem join_ok : ∀ {ps : List Str}, (∀ p ∈ ps, V.str p ∈ pnames) → okText (3 * ps.length) (Str.join sl ps)
  | [], _ => by decide +kernel
  | p :: r, h => by
    have h1 := pname_len (h p List.mem_cons_self)
    have h2 := join_ok (ps := r) fun u hu => h u (List.mem_cons_of_mem _ hu)
    cases r with
    | nil => exact (h1.mono (by decide) : okText (3 * 1) p)
    | cons s r =>
      have h3 := (h1.app (show okText 1 sl by decide +kernel)).app h2
      exact h3.mono (by simp only [List.length_cons]; omega)
section
variable {P : Program} {w : World} {K : PySem.W.Frag} {mg : Str → Option Value} {base : Heap} {fD : Addr} {fdD : FuncData}
theorem ok_path {f : Addr} {fd : FuncData} (F : Fun K "_law_path" "_law_path" sPath f fd) (T : Tx mg) (GD : FnOk P w K mg base CX0 1 fD fdD ["box", "many"] spDraw)
    (gD : mg "_law_draw" = some (.ref fD)) (kD : PySem.W.keepIn K (.ref fD) = true) (bD : Binds K fdD ["box", "many"] []) : FnOk P w K mg base CX0 2 f fd ["box"] spPth := by
  refine F.ok scPath (fun vs H Q E h => ?_) (fun cdv A outer s H vs Q E hr h => ?_)
  · obtain ⟨B, D, rfl, _⟩ := h
    rfl
  · obtain ⟨B, D, rfl, bx, q⟩ := h
    refine ⟨_, pss_cons (ps_set (i := 1) scPath.nd rfl (.inl rfl) (pe_ix ix_list (pe_lst (pa_consts rfl)) (pe_call GD hr (by rfl) gD kD bD .nil pass0 (pa_cons (pv 0) (pa_cons pe_int pa_nil))) (fun _ _ => rfl)))
      (pss_one (ps_ret (pe_join pe_str (pe_lc (own := [("k", 2)]) rfl scPath.nd (pi_range1 (by rfl) T.range (pa_cons (pv 1) pa_nil)) (blkOk_by (N := ["box", "depth", "k"]) (sc := defScope sPath) (by decide +kernel))
          (fun _ _ _ _ _ => pg_name (i := 2) scPath.nd rfl (Or.inl rfl)) (fun _ _ _ _ _ => pts_nil)
          (fun _ _ _ _ _ => pe_ix (ixL (K := K) rfl) (pe_lst (pa_consts rfl)) (pe_call GD hr (by rfl) gD kD bD .nil pass0 (pa_cons (pv 0) (pa_cons pe_int pa_nil))) (fun _ _ => rfl)))))), ?_⟩
    refine pick (B := B) (D := D) (by rfl) (by decide) (by decide) rfl bx fun v hv H1 kp1 bx1 => ?_
    have hv2 : v = .int 1 ∨ v = .int 2 ∨ v = .int 3 := by
      rcases List.mem_cons.mp hv with h | hv
      · exact .inl h
      rcases List.mem_cons.mp hv with h | hv
      · exact .inr (.inl h)
      rcases List.mem_cons.mp hv with h | hv
      · exact .inr (.inl h)
      rcases List.mem_cons.mp hv with h | hv
      · exact .inr (.inr h)
      cases hv
    obtain ⟨n, rfl, n1, n3⟩ : ∃ n : Nat, v = .int (n : Int) ∧ 1 ≤ n ∧ n ≤ 3 := by
      rcases hv2 with h | h | h
      · exact ⟨1, h, by decide, by decide⟩
      · exact ⟨2, h, by decide, by decide⟩
      · exact ⟨3, h, by decide, by decide⟩
    refine ⟨⟨_, rfl⟩, _, rfl, n, rfl, by omega, by omega, fun C nC => ?_⟩
    rw [Int.toNat_natCast]
    refine lc_rng_box (n := n) (R := fun v => v ∈ pnames) nC bx1 (by omega) (fun m H2 Q2 hm b2 kp2 hq => ?_) (fun H' vs kp b hC hl hR => ?_)
    · exact pick (B := B) (D := D) (by rfl) (by decide) (by decide) rfl b2 fun v hv H' kp' b' => hq v H' hv kp' b'
    · obtain ⟨ps, rfl, hps⟩ := strs_of hR
      rw [List.length_map] at hl
      refine ⟨sl, C, ps, rfl, rfl, .inl (sqL hC), ?_, ?_⟩
      · have := sum_len hps
        have e1 : sl.length = 1 := by decide +kernel
        rw [e1]
        omega
      · exact q _ H' ⟨ps, rfl, by omega, by omega, hps⟩ (kp1.trans kp) b
theorem ok_text {f : Addr} {fd : FuncData} (F : Fun K "_law_text" "_law_text" sText f fd) (T : Tx mg) (GD : FnOk P w K mg base CX0 1 fD fdD ["box", "many"] spDraw)
    (gD : mg "_law_draw" = some (.ref fD)) (kD : PySem.W.keepIn K (.ref fD) = true) (bD : Binds K fdD ["box", "many"] []) : FnOk P w K mg base CX0 2 f fd ["box"] (spTxt 100) := by
  refine F.ok scText (fun vs H Q E h => ?_) (fun cdv A outer s H vs Q E hr h => ?_)
  · obtain ⟨B, D, rfl, _⟩ := h
    rfl
  · obtain ⟨B, D, rfl, bx, q⟩ := h
    refine ⟨_, pss_cons (ps_set (i := 1) scText.nd rfl (.inl rfl) (pe_call GD hr (by rfl) gD kD bD .nil pass0 (pa_cons (pv 0) (pa_cons pe_int pa_nil))))
      (pss_cons (ps_if (pt_cmpR op_eq (pv 1) pe_int (nomark _)) (pss_one (ps_ret (pe_ix ix_list (pe_lst (pa_consts rfl)) (pe_call GD hr (by rfl) gD kD bD .nil pass0 (pa_cons (pv 0) (pa_cons pe_int pa_nil))) (fun _ _ => rfl)))) pss_nil)
      (pss_cons (ps_if (pt_cmpR op_eq (pv 1) pe_int (nomark _)) (pss_one (ps_ret (pe_op op_add_str (pe_op op_mulS pe_str (pe_op op_add pe_int (pe_call GD hr (by rfl) gD kD bD .nil pass0 (pa_cons (pv 0) (pa_cons pe_int pa_nil)))))
          (pe_ix ix_list (pe_lst (pa_cons pe_str (pa_cons pe_str (pa_cons (pe_op op_add_str pe_str (pe_op op_mulS pe_str (pe_op op_add pe_int (pe_call GD hr (by rfl) gD kD bD .nil pass0 (pa_cons (pv 0) (pa_cons pe_int pa_nil)))))) pa_nil))))
            (pe_call GD hr (by rfl) gD kD bD .nil pass0 (pa_cons (pv 0) (pa_cons pe_int pa_nil))) (fun _ _ => rfl))))) pss_nil)
      (pss_cons (ps_if (pt_cmpR op_eq (pv 1) pe_int (nomark _)) (pss_one (ps_ret (pe_op op_mulS (pe_ix ix_list (pe_lst (pa_consts rfl)) (pe_call GD hr (by rfl) gD kD bD .nil pass0 (pa_cons (pv 0) (pa_cons pe_int pa_nil))) (fun _ _ => rfl))
          (pe_ix ix_list (pe_lst (pa_consts rfl)) (pe_call GD hr (by rfl) gD kD bD .nil pass0 (pa_cons (pv 0) (pa_cons pe_int pa_nil))) (fun _ _ => rfl))))) pss_nil)
      (pss_cons (ps_if (pt_cmpR op_eq (pv 1) pe_int (nomark _)) (pss_one (ps_ret (pe_op op_add_str pe_str (pe_ix ix_list (pe_lst (pa_consts rfl)) (pe_call GD hr (by rfl) gD kD bD .nil pass0 (pa_cons (pv 0) (pa_cons pe_int pa_nil))) (fun _ _ => rfl))))) pss_nil)
      (pss_cons (ps_set (i := 2) scText.nd rfl (.inl rfl) pe_str)
      (pss_cons (ps_for PassesOwn.never rfl (pi_range1 (by rfl) T.range (pa_cons (pe_call GD hr (by rfl) gD kD bD .nil pass0 (pa_cons (pv 0) (pa_cons pe_int pa_nil))) pa_nil)) (pg_name (i := 3) scText.nd rfl (Or.inl rfl))
        (pss_one (ps_set (i := 2) scText.nd rfl (.inl rfl) (pe_op op_add_str (pv 2) (pe_ix ix_list (pe_lst (pa_consts rfl)) (pe_call GD hr (by rfl) gD kD bD .nil pass0 (pa_cons (pv 0) (pa_cons pe_int pa_nil))) (fun _ _ => rfl))))))
      (pss_one (ps_ret (pv 2))))))))), ?_⟩
    refine draw_is (B := B) (D := D) (by decide) rfl bx fun r H1 r0 r1 kp1 bx1 => ?_
    refine ⟨_, rfl, rfl, _, rfl, ite2 (fun _ => ?_) (fun _ => ?_)⟩
    · refine pick (B := B) (D := D) (by rfl) (by decide) (by decide) rfl bx1 fun v hv H' kp b => ?_
      obtain ⟨z, e, o⟩ := menu_mem (n := 10) (by decide +kernel) hv
      exact q v H' ⟨z, e, o.mono (by decide)⟩ (kp1.trans kp) b
    refine ⟨_, rfl, rfl, _, rfl, ite2 (fun _ => ?_) (fun _ => ?_)⟩
    · refine draw_is (B := B) (D := D) (by decide) rfl bx1 fun r2 H2 r20 r21 kp2 bx2 => ?_
      refine ⟨_, _, rfl, rfl, _, _, rfl, rfl, by omega, by omega, by decide, fun za ea => ?_⟩
      refine draw_is (B := B) (D := D) (by decide) rfl bx2 fun r3 H3 r30 r31 kp3 bx3 => ?_
      refine ⟨_, _, rfl, rfl, _, _, rfl, rfl, by omega, by omega, by decide, fun zc ec => ?_⟩
      have la : okText 10 za := ⟨by rw [ea, flat_len]; show _ * 1 ≤ 10; omega, by rw [ea]; exact all_rep (by decide) _⟩
      have lc : okText 10 zc := ⟨by rw [ec, flat_len]; show _ * 1 ≤ 10; omega, by rw [ec]; exact all_rep (by decide) _⟩
      have l1 : okText 1 sl := by decide +kernel
      refine ⟨_, _, rfl, rfl, ?_, ?_⟩
      · have h1 := l1.1
        have h2 := lc.1
        rw [← len_tl] at h1 h2
        exact Nat.le_trans (Nat.add_le_add h1 h2) (by decide)
      refine ⟨by show 3 ≤ _; decide, fun l nl => ?_⟩
      refine pick_at (B := B) (D := D) (vs := [.str "", .str "/b", .str (sl ++ zc)]) (by rfl) (by decide) upd_same (bx3.ne nl) rfl (bx3.new nl) fun v hv H' kp b => ?_
      have hv2 : ∃ z, v = .str z ∧ okText 11 z := by
        rcases List.mem_cons.mp hv with h | hv
        · exact ⟨_, h, by decide +kernel⟩
        rcases List.mem_cons.mp hv with h | hv
        · exact ⟨_, h, by decide +kernel⟩
        rcases List.mem_cons.mp hv with h | hv
        · exact ⟨_, h, l1.app lc⟩
        cases hv
      obtain ⟨zv, rfl, ov⟩ := hv2
      refine ⟨_, _, rfl, rfl, ?_, ?_⟩
      · have h1 := la.1
        have h2 := ov.1
        rw [← len_tl] at h1 h2
        exact Nat.le_trans (Nat.add_le_add h1 h2) (by decide)
      · exact q _ H' ⟨_, rfl, (la.app ov).mono (by decide)⟩ (((kp1.trans kp2).trans kp3).trans (kp.new nl)) b
    refine ⟨_, rfl, rfl, _, rfl, ite2 (fun _ => ?_) (fun _ => ?_)⟩
    · refine pick (B := B) (D := D) (by rfl) (by decide) (by decide) rfl bx1 fun v hv H2 kp2 bx2 => ?_
      obtain ⟨z, rfl, o⟩ := menu_mem (n := 1) (by decide +kernel) hv
      refine pick (B := B) (D := D) (by rfl) (by decide) (by decide) rfl bx2 fun u hu H3 kp3 bx3 => ?_
      obtain ⟨n, rfl, n0, n1⟩ := nats_mem (by decide +kernel) hu
      refine ⟨_, _, rfl, rfl, n0, by omega, Nat.le_trans o.1 (by decide), fun za ea => ?_⟩
      refine q _ H3 ⟨za, rfl, ?_, ?_⟩ ((kp1.trans kp2).trans kp3) bx3
      · rw [ea, flat_len]
        have := Nat.mul_le_mul (show n.toNat ≤ 100 by omega) o.1
        omega
      · rw [ea]
        exact all_rep o.2 _
    refine ⟨_, rfl, rfl, _, rfl, ite2 (fun _ => ?_) (fun _ => ?_)⟩
    · refine pick (B := B) (D := D) (by rfl) (by decide) (by decide) rfl bx1 fun v hv H2 kp2 bx2 => ?_
      obtain ⟨z, rfl, o⟩ := menu_mem (n := 1) (by decide +kernel) hv
      have l5 : okText 5 "note " := by decide +kernel
      refine ⟨_, _, rfl, rfl, ?_, ?_⟩
      · have h1 := l5.1
        have h2 := o.1
        rw [← len_tl] at h1 h2
        exact Nat.le_trans (Nat.add_le_add h1 h2) (by decide)
      · exact q _ H2 ⟨_, rfl, (l5.app o).mono (by decide)⟩ (kp1.trans kp2) bx2
    refine draw_is (B := B) (D := D) (by decide) rfl bx1 fun r2 H2 r20 r21 kp2 bx2 => ?_
    refine ⟨r2, rfl, by omega, by omega, ?_⟩
    refine for_range (lo := 0) (n := r2.toNat) (fun j σ H' => ∃ (z : Str) (tv : Option V), σ = [some (.ref B), some (.int r), some (.str z), tv] ∧ okText j z ∧ Kp B H H' ∧ Box H' B D)
      ⟨"", none, rfl, by decide +kernel, kp1.trans kp2, bx2⟩ ?_ ?_
    · rintro j σ H3 hj ⟨z, tv, rfl, oz, kp3, bx3⟩
      refine ⟨_, rfl, ?_⟩
      refine pick (B := B) (D := D) (by rfl) (by decide) (by decide) rfl bx3 fun v hv H4 kp4 bx4 => ?_
      obtain ⟨y, rfl, oy⟩ := menu_mem (n := 1) (by decide +kernel) hv
      refine ⟨_, _, rfl, rfl, ?_, ?_⟩
      · have h1 := oz.1
        have h2 := oy.1
        rw [← len_tl] at h1 h2
        have : z.length + y.length ≤ 100000 := by omega
        exact Nat.le_trans this (by decide)
      · exact ⟨_, _, rfl, oz.app oy, kp3.trans kp4, bx4⟩
    · rintro σ H3 ⟨z, tv, rfl, oz, kp3, bx3⟩
      exact ⟨_, rfl, q _ H3 ⟨z, rfl, oz.mono (by omega)⟩ kp3 bx3⟩
end
end K01

set_option maxRecDepth 100000
set_option maxHeartbeats 4000000
namespace K01
open PySem PySem.Spec PyProof.Rows L2 TL Ga
abbrev sLaw : Stmt := top 31
theorem scLaw : FnScope ["script", "box", "turn", "text", "plain", "lines", "path", "place"] ["script"] (defScope sLaw) := ⟨rfl, rfl, rfl, by decide +kernel, rfl, by decide +kernel, by decide +kernel⟩
/-- no double quote in the text -/
def plainT (z : Str) : Bool := !decide (34 ∈ tl z)
theorem all_sign : ∀ l : List Nat, l.all okc = true → l.all signOk = !decide (34 ∈ l)
  | [], _ => rfl
  | c :: r, h => by
    rw [List.all_cons, Bool.and_eq_true] at h
    obtain ⟨h1, h2⟩ := h
    have ih := all_sign r h2
    unfold okc at h1
    rw [Bool.and_eq_true, Bool.and_eq_true, decide_eq_true_eq, decide_eq_true_eq] at h1
    obtain ⟨g1, g2, g3⟩ := h1
    have e1 : decide ([c] < [32]) = false := decide_eq_false fun z => by
      rcases List.cons_lt_cons_iff.mp z with h | ⟨h, h'⟩
      · omega
      · exact absurd h' (List.lt_irrefl _)
    have e2 : decide ([126] < [c]) = false := decide_eq_false fun z => by
      rcases List.cons_lt_cons_iff.mp z with h | ⟨h, h'⟩
      · omega
      · exact absurd h' (List.lt_irrefl _)
    rw [List.all_cons, ih, signOk, e1, e2, g3]
    by_cases h : c = 34
    · subst h
      simp
    · rw [decide_eq_false h]
      have : (34 ∈ c :: r) ↔ 34 ∈ r := by
        rw [List.mem_cons]
        exact ⟨fun z => z.resolve_left fun q => h q.symm, .inr⟩
      rw [decide_eq_decide.mpr this]
      rfl
theorem isLine_eq {n : Nat} {z : Str} (h : okText n z) : isLine z = (plainT z && decide (((z.length : Nat) : Int) ≤ 20)) := by
  rw [isLine, all_sign _ h.2, plainT, Bool.and_comm, len_tl]
theorem isWord_eq {n : Nat} {z : Str} (h : okText n z) : isWord z = (plainT z && (decide (1 ≤ ((z.length : Nat) : Int)) && decide (((z.length : Nat) : Int) ≤ 12))) := by
  rw [isWord, all_sign _ h.2, plainT, Bool.and_comm, len_tl]
/-- data of truths may be shown -/
def Sh (d : PyData) : Prop := d.showable = true ∧ d.hasDict = false ∧ d.depth ≤ 40 ∧ d.shown.length ≤ sizeLine
theorem sh1 (b : Bool) : Sh (.bool b) := by cases b <;> exact ⟨by decide +kernel, by decide +kernel, by decide +kernel, by decide +kernel⟩
theorem sh2 (b c : Bool) : Sh (.tuple [.bool b, .bool c]) := by cases b <;> cases c <;> exact ⟨by decide +kernel, by decide +kernel, by decide +kernel, by decide +kernel⟩
section
variable {K : PySem.W.Frag} {H : Hp} {Q : VK} {σ : L2.St}
theorem alike1 {b : Bool} (q : Q (.bl true) H) : spAlike K [.bl b, .bl b] H Q E0 := by
  obtain ⟨h1, h2, h3, h4⟩ := sh1 b
  exact ⟨_, _, .bool b, rfl, .bl b, .bl b, h1, h2, h3, h4, q⟩
theorem dp2 {p : Addr} {b c : Bool} (h : SqT K H p [.bl b, .bl c]) : Dp K H (.ref p) (.tuple [.bool b, .bool c]) := .tup h (.cons (.bl b) (.cons (.bl c) .nil))
theorem alike2 {p r : Addr} {b c : Bool} (hp : SqT K H p [.bl b, .bl c]) (hr : SqT K H r [.bl b, .bl c]) (q : Q (.bl true) H) : spAlike K [.ref p, .ref r] H Q E0 := by
  obtain ⟨h1, h2, h3, h4⟩ := sh2 b c
  exact ⟨_, _, _, rfl, dp2 hp, dp2 hr, h1, h2, h3, h4, q⟩
theorem andV {ta tb : TE} {p q : Bool} (ha : ∀ R : VK, R (.bl p) H → ta σ H R) (hb : ∀ R : VK, R (.bl q) H → tb σ H R) (hq : Q (.bl (p && q)) H) : tAndV ta tb σ H Q := by
  refine ha _ ⟨p, rfl, ?_⟩
  cases p with
  | true =>
    rw [if_pos rfl]
    exact hb _ hq
  | false =>
    rw [if_neg Bool.false_ne_true]
    exact hq
end
section
variable {K : PySem.W.Frag} {H : Hp} {Q : VK} {σ : L2.St} {v : V} {p q : Bool} {te ta tb tc td : TE}
/-- a value, whatever more stands by then; nothing is changed -/
def EvS (te : TE) (σ : L2.St) (H : Hp) (v : V) : Prop := ∀ H1, Same H H1 → ∀ Q : VK, (∀ H2, Same H1 H2 → Q v H2) → te σ H1 Q
theorem evVar {i : Nat} (h : σ[i]? = some (some v)) : EvS (tVar i) σ H v := fun H1 _ Q q => ⟨v, h, q H1 (.refl _)⟩
theorem evStr {f : Str → Bool} {i : Nat} {z : Str} (h : σ[i]? = some (some (.str z))) (hz : (tl z).length ≤ 1000) : EvS (tCall (spStr f) [] E0 (tCons (tVar i) tNil)) σ H (.bl (f z)) :=
  fun H1 _ Q q => ⟨_, h, z, rfl, hz, q⟩
theorem evTx {f : Str → Bool} {i : Nat} {z : Str} (h : σ[i]? = some (some (.str z))) (hz : okText 1000 z) : EvS (tCall (spTx f) [] E0 (tCons (tVar i) tNil)) σ H (.bl (f z)) :=
  fun H1 _ Q q => ⟨_, h, z, rfl, hz, q⟩
theorem evIns {i j : Nat} {x y : Str} (h : σ[i]? = some (some (.str x))) (g : σ[j]? = some (some (.str y))) (hx : (tl x).length ≤ 1000) (hy : (tl y).length ≤ 1000) :
    EvS (tCall spInside [] E0 (tCons (tVar i) (tCons (tVar j) tNil))) σ H (.bl (inside x y)) := fun H1 _ Q q => ⟨_, h, _, g, x, y, rfl, hx, hy, q⟩
theorem evAnd (ha : EvS ta σ H (.bl p)) (hb : EvS tb σ H (.bl q)) : EvS (tAndV ta tb) σ H (.bl (p && q)) := fun H1 s Q k => by
  refine ha H1 s _ fun H2 s2 => ⟨p, rfl, ?_⟩
  cases p with
  | true =>
    rw [if_pos rfl]
    exact hb H2 (s.trans s2) _ fun H3 s3 => k H3 (s2.trans s3)
  | false =>
    rw [if_neg Bool.false_ne_true]
    exact k H2 s2
theorem evOr (ha : EvS ta σ H (.bl p)) (hb : EvS tb σ H (.bl q)) : EvS (tOrV ta tb) σ H (.bl (p || q)) := fun H1 s Q k => by
  refine ha H1 s _ fun H2 s2 => ⟨p, rfl, ?_⟩
  cases p with
  | true =>
    rw [if_pos rfl]
    exact k H2 s2
  | false =>
    rw [if_neg Bool.false_ne_true]
    exact hb H2 (s.trans s2) _ fun H3 s3 => k H3 (s2.trans s3)
theorem evLines {i : Nat} {t : Addr} {l : List Str} (h : σ[i]? = some (some (.ref t))) (ht : SqT K H t (l.map V.str)) (hl : l.length ≤ 1000) (hz : ∀ z ∈ l, (tl z).length ≤ 1000) :
    EvS (tCall (spLines K) [] E0 (tCons (tVar i) tNil)) σ H (.bl (isLines l)) := fun H1 s Q q => ⟨_, h, t, l, rfl, s.seqT ht, hl, hz, q⟩
theorem rep_strs (y : Str) : ∀ k : Nat, (List.replicate k [V.str y]).flatten = (List.replicate k y).map V.str
  | 0 => rfl
  | k + 1 => by
    rw [List.replicate_succ, List.flatten_cons, rep_strs y k, List.replicate_succ, List.map_cons]
    rfl
theorem all_repl {y : Str} (h : isLine y = true) : ∀ k : Nat, (List.replicate k y).all isLine = true
  | 0 => rfl
  | k + 1 => by rw [List.replicate_succ, List.all_cons, h, all_repl h k]; rfl
theorem cut2 (l : List Str) : cutV (l.map V.str) none (some 2) = (l.take 2).map V.str := by
  unfold cutV
  rw [HT.sIx_none, show HT.sIx (l.map V.str).length (l.map V.str).length (some 2) = min 2 (l.map V.str).length from HT.sIx_nat _ _ 2, List.drop_zero, Nat.sub_zero, List.map_take]
  exact (List.take_eq_take_min).symm
theorem sum_le {n : Nat} : ∀ {l : List Str}, (∀ u ∈ l, (tl u).length ≤ n) → (l.map (·.length)).sum ≤ n * l.length
  | [], _ => by simp
  | p :: r, h => by
    have h1 := h p List.mem_cons_self
    rw [← len_tl] at h1
    have h2 := sum_le (l := r) fun u hu => h u (List.mem_cons_of_mem _ hu)
    rw [List.map_cons, List.sum_cons, List.length_cons, Nat.mul_succ]
    omega
theorem join_le {n : Nat} : ∀ {l : List Str}, (∀ u ∈ l, (tl u).length ≤ n) → (tl (Str.join sl l)).length ≤ (n + 1) * l.length
  | [], _ => Nat.zero_le _
  | [p], h => by
    have h1 := h p List.mem_cons_self
    show (tl p).length ≤ (n + 1) * 1
    omega
  | p :: q :: r, h => by
    have h1 := h p List.mem_cons_self
    have h2 := join_le (l := q :: r) fun u hu => h u (List.mem_cons_of_mem _ hu)
    have e : tl (Str.join sl (p :: q :: r)) = tl p ++ tl sl ++ tl (Str.join sl (q :: r)) := by
      show tl (p ++ sl ++ Str.join sl (q :: r)) = _
      rw [tl_append, tl_append]
    rw [e, List.length_append, List.length_append, tl_sl, List.length_cons (a := p), Nat.mul_succ]
    show (tl p).length + 1 + _ ≤ _
    omega
/-- alike of two truths -/
theorem al1 (ha : EvS ta σ H (.bl p)) (hb : EvS tb σ H (.bl p)) (k : ∀ H', Same H H' → Q (.bl true) H') : tCall (spAlike K) [] E0 (tCons ta (tCons tb tNil)) σ H Q :=
  ha H (.refl _) _ fun H1 s1 => hb H1 s1 _ fun H2 s2 => alike1 (k H2 (s1.trans s2))
theorem al1b (hb : EvS tb σ H (.bl p)) (k : ∀ H', Same H H' → Q (.bl true) H') : tCons tb tNil σ H (fun xs H2 => spAlike K ((V.bl p :: xs) ++ []) H2 Q E0) :=
  hb H (.refl _) _ fun H2 s2 => alike1 (k H2 s2)
/-- alike of two pairs of truths -/
theorem al2 (ha : EvS ta σ H (.bl p)) (hb : EvS tb σ H (.bl q)) (hc : EvS tc σ H (.bl p)) (hd : EvS td σ H (.bl q)) (k : ∀ H', Same H H' → Q (.bl true) H') :
    tCall (spAlike K) [] E0 (tCons (tTup (tCons ta (tCons tb tNil))) (tCons (tTup (tCons tc (tCons td tNil))) tNil)) σ H Q := by
  refine ha H (.refl _) _ fun H1 s1 => hb H1 s1 _ fun H2 s2 => ⟨by show 2 ≤ _; decide, fun x nx => ?_⟩
  have s3 := (s1.trans s2).trans (same_upd (o := .tup [.bl p, .bl q]) nx)
  refine hc _ s3 _ fun H4 s4 => hd H4 (s3.trans s4) _ fun H5 s5 => ⟨by show 2 ≤ _; decide, fun y ny => ?_⟩
  have s6 := (s4.trans s5).trans (same_upd (o := .tup [.bl p, .bl q]) ny)
  exact alike2 (sqT (s6 _ _ upd_same)) (sqT upd_same) (k _ (s3.trans s6))
end
/-- a def of the text that may be called -/
structure Cal (P : Program) (w : World) (K : PySem.W.Frag) (mg : Str → Option Value) (base : Heap) (k : Nat) (x : Str) (ps : List Str) (sp : Sp) : Prop where
  ex : ∃ (f : Addr) (fd : FuncData), FnOk P w K mg base CX0 k f fd ps sp ∧ mg x = some (.ref f) ∧ PySem.W.keepIn K (.ref f) = true ∧ Binds K fd ps []
structure CalG (P : Program) (w : World) (K : PySem.W.Frag) (mg : Str → Option Value) (base : Heap) (k : Nat) (x : Str) (ps : List Str) (sp : Sp) : Prop where
  ex : ∃ (f : Addr) (fd : FuncData), FnG P w K mg base CX0 k f fd ps sp ∧ mg x = some (.ref f) ∧ PySem.W.keepIn K (.ref f) = true ∧ Binds K fd ps []
def spLaw (K : PySem.W.Frag) : Sp := fun vs H Q _ => ∃ (a : Addr) (ns : List Int), vs = [.ref a] ∧ SqL K H a (ns.map V.int) ∧ ns.length ≤ 63 ∧ ∀ H', Q (.bl true) H'
section
variable {P : Program} {w : World} {K : PySem.W.Frag} {mg : Str → Option Value} {base : Heap}
theorem ok_law {f : Addr} {fd : FuncData} (F : Fun K "law" "law" sLaw f fd) (T : Tx mg)
    (C1 : Cal P w K mg base 2 "_law_digits" ["script", "first", "last"] (spDigits K)) (C2 : Cal P w K mg base 1 "_law_draw" ["box", "many"] spDraw)
    (C3 : Cal P w K mg base 2 "_law_path" ["box"] spPth) (C4 : Cal P w K mg base 2 "_law_line" ["box"] spLine) (C5 : Cal P w K mg base 2 "_law_text" ["box"] (spTxt 100))
    (C6 : Cal P w K mg base 1 "_law_inside" ["path", "place"] spInside) (C7 : CalG P w K mg base 1 "_law_alike" ["one", "two"] (spAlike K))
    (C8 : Cal P w K mg base 1 "_law_is_name" ["text"] (spStr isName)) (C9 : Cal P w K mg base 2 "_law_is_path" ["text"] (spTx isPath))
    (C10 : Cal P w K mg base 1 "is_name" ["text"] (spStr isName)) (C11 : Cal P w K mg base 2 "is_path" ["text"] (spStr isPath)) (C12 : Cal P w K mg base 3 "is_place" ["text"] (spStr isPlace))
    (C13 : Cal P w K mg base 2 "is_line" ["text"] (spStr isLine)) (C14 : Cal P w K mg base 2 "is_word" ["text"] (spStr isWord)) (C15 : Cal P w K mg base 3 "is_lines" ["lines"] (spLines K))
    (C16 : Cal P w K mg base 1 "is_inside" ["path", "place"] spInside) : FnG P w K mg base CX0 4 f fd ["script"] (spLaw K) := by
  obtain ⟨f1, d1, G1, g1, k1, b1⟩ := C1.ex
  obtain ⟨f2, d2, G2, g2, k2, b2⟩ := C2.ex
  obtain ⟨f3, d3, G3, g3, k3, b3⟩ := C3.ex
  obtain ⟨f4, d4, G4, g4, k4, b4⟩ := C4.ex
  obtain ⟨f5, d5, G5, g5, k5, b5⟩ := C5.ex
  obtain ⟨f6, d6, G6, g6, k6, b6⟩ := C6.ex
  obtain ⟨f7, d7, G7, g7, k7, b7⟩ := C7.ex
  obtain ⟨f8, d8, G8, g8, k8, b8⟩ := C8.ex
  obtain ⟨f9, d9, G9, g9, k9, b9⟩ := C9.ex
  obtain ⟨f10, d10, G10, g10, k10, b10⟩ := C10.ex
  obtain ⟨f11, d11, G11, g11, k11, b11⟩ := C11.ex
  obtain ⟨f12, d12, G12, g12, k12, b12⟩ := C12.ex
  obtain ⟨f13, d13, G13, g13, k13, b13⟩ := C13.ex
  obtain ⟨f14, d14, G14, g14, k14, b14⟩ := C14.ex
  obtain ⟨f15, d15, G15, g15, k15, b15⟩ := C15.ex
  obtain ⟨f16, d16, G16, g16, k16, b16⟩ := C16.ex
  obtain ⟨t1, m1⟩ := T.nm
  obtain ⟨t2, m2⟩ := T.dm
  obtain ⟨t3, m3⟩ := T.lm
  obtain ⟨t4, m4⟩ := T.lsm
  obtain ⟨t5, m5⟩ := T.wm
  refine okG F scLaw (fun vs H Q E h => ?_) (fun cdv A hg outer s H vs Q E hr h => ?_)
  · obtain ⟨a, ns, rfl, _⟩ := h
    rfl
  · obtain ⟨a, ns, rfl, hS, hlen, q⟩ := h
    have hr1 : Room 1 _ := hr.mono (by decide)
    have hr2 : Room 2 _ := hr.mono (by decide)
    refine ⟨_, pss_cons (ps_set (i := 1) scLaw.nd rfl (.inl rfl) (pe_lst (pa_cons (pe_call G1 hr2 (by rfl) g1 k1 b1 .nil pass0 (pa_cons (pv 0) (pa_cons pe_int (pa_cons pe_int pa_nil)))) (pa_cons pe_int pa_nil))))
      (pss_cons (ps_if (pt_cmpR (op_neD hr.units) (pe_tup (pa_cons (pe_glob (v := .int 8) rfl m1 ⟨_, rfl⟩) (pa_cons (pe_glob (v := .int 3) rfl m2 ⟨_, rfl⟩) (pa_cons (pe_glob (v := .int 20) rfl m3 ⟨_, rfl⟩) (pa_cons (pe_glob (v := .int 12) rfl m4 ⟨_, rfl⟩) (pa_cons (pe_glob (v := .int 12) rfl m5 ⟨_, rfl⟩) pa_nil))))))
          (pe_tup (pa_consts rfl)) (nomark _)) (pss_one (ps_ret pe_bl)) pss_nil)
      (pss_cons (ps_for PassesOwn.never rfl (pi_range1 (by rfl) T.range (pa_cons pe_int pa_nil)) (pg_name (i := 2) scLaw.nd rfl (Or.inl rfl))
        (pss_cons (ps_set (i := 3) scLaw.nd rfl (.inl rfl) (pe_call G5 hr2 (by rfl) g5 k5 b5 .nil pass0 (pa_cons (pv 1) pa_nil)))
        (pss_cons (ps_set (i := 4) scLaw.nd rfl (.inl rfl) (pe_cmpR op_notIn_sign pe_str (pv 3) (by rfl)))
        (pss_cons (ps_if (pt_not (pt_val (pe_callG hg G7 hr1 (by rfl) g7 k7 b7 .nil pass0 (pa_cons
            (pe_tup (pa_cons (pe_call G10 hr1 (by rfl) g10 k10 b10 .nil pass0 (pa_cons (pv 3) pa_nil)) (pa_cons (pe_call G11 hr2 (by rfl) g11 k11 b11 .nil pass0 (pa_cons (pv 3) pa_nil)) pa_nil)))
            (pa_cons (pe_tup (pa_cons (pe_call G8 hr1 (by rfl) g8 k8 b8 .nil pass0 (pa_cons (pv 3) pa_nil)) (pa_cons (pe_call G9 hr2 (by rfl) g9 k9 b9 .nil pass0 (pa_cons (pv 3) pa_nil)) pa_nil))) pa_nil))))) (pss_one (ps_ret pe_bl)) pss_nil)
        (pss_cons (ps_if (pt_not (pt_val (pe_callG hg G7 hr1 (by rfl) g7 k7 b7 .nil pass0 (pa_cons (pe_call G12 hr (by rfl) g12 k12 b12 .nil pass0 (pa_cons (pv 3) pa_nil))
            (pa_cons (pe_or (pe_cmpR op_eq (pv 3) pe_str (nomark _)) (pe_one (pe_call G9 hr2 (by rfl) g9 k9 b9 .nil pass0 (pa_cons (pv 3) pa_nil)))) pa_nil))))) (pss_one (ps_ret pe_bl)) pss_nil)
        (pss_cons (ps_if (pt_not (pt_val (pe_callG hg G7 hr1 (by rfl) g7 k7 b7 .nil pass0 (pa_cons
            (pe_tup (pa_cons (pe_call G13 hr2 (by rfl) g13 k13 b13 .nil pass0 (pa_cons (pv 3) pa_nil)) (pa_cons (pe_call G14 hr2 (by rfl) g14 k14 b14 .nil pass0 (pa_cons (pv 3) pa_nil)) pa_nil)))
            (pa_cons (pe_tup (pa_cons (pe_and (pv 4) (pe_one (pe_cmpR op_le (pe_callB call_len_str (by rfl) T.len PySem.boot_len (pa_cons (pv 3) pa_nil)) pe_int (nomark _))))
              (pa_cons (pe_and (pv 4) (pe_one (pe_chain op_le op_le pe_int (pe_callB call_len_str (by rfl) T.len PySem.boot_len (pa_cons (pv 3) pa_nil)) pe_int))) pa_nil))) pa_nil))))) (pss_one (ps_ret pe_bl)) pss_nil)
        (pss_cons (ps_set (i := 5) scLaw.nd rfl (.inl rfl) (pe_op op_repT (pe_tup (pa_cons (pe_call G4 hr2 (by rfl) g4 k4 b4 .nil pass0 (pa_cons (pv 1) pa_nil)) pa_nil))
            (pe_op op_add pe_int (pe_call G2 hr1 (by rfl) g2 k2 b2 .nil pass0 (pa_cons (pv 1) (pa_cons pe_int pa_nil))))))
        (pss_cons (ps_if (pw_or (pt_not (pt_val (pe_callG hg G7 hr1 (by rfl) g7 k7 b7 .nil pass0 (pa_cons (pe_call G15 hr (by rfl) g15 k15 b15 .nil pass0 (pa_cons (pv 5) pa_nil))
              (pa_cons (pe_cmpR op_le (pe_callB call_len_seq (by rfl) T.len PySem.boot_len (pa_cons (pv 5) pa_nil)) pe_int (nomark _)) pa_nil)))))
            (pw_or1 (pt_not (pt_val (pe_callG hg G7 hr1 (by rfl) g7 k7 b7 .nil pass0 (pa_cons (pe_call G15 hr (by rfl) g15 k15 b15 .nil pass0 (pa_cons
                (pe_ix ix_list (pe_lst (pa_cons (pe_tup (pa_cons (pv 3) (pa_cons pe_str pa_nil))) (pa_cons (pe_tup (pa_cons pe_str (pa_cons (pv 3) pa_nil))) (pa_cons (pe_tup (pa_cons pe_str (pa_cons pe_str (pa_cons (pv 3) pa_nil)))) pa_nil))))
                  (pe_call G2 hr1 (by rfl) g2 k2 b2 .nil pass0 (pa_cons (pv 1) (pa_cons pe_int pa_nil))) (fun _ _ => rfl)) pa_nil))
              (pa_cons (pe_and (pv 4) (pe_one (pe_cmpR op_le (pe_callB call_len_str (by rfl) T.len PySem.boot_len (pa_cons (pv 3) pa_nil)) pe_int (nomark _)))) pa_nil))))))).pt (pss_one (ps_ret pe_bl)) pss_nil)
        (pss_cons (ps_set (i := 6) scLaw.nd rfl (.inl rfl) (pe_call G3 hr2 (by rfl) g3 k3 b3 .nil pass0 (pa_cons (pv 1) pa_nil)))
        (pss_cons (ps_set (i := 7) scLaw.nd rfl (.inl rfl) (pe_ix ix_list (pe_lst (pa_cons pe_str (pa_cons (pe_call G3 hr2 (by rfl) g3 k3 b3 .nil pass0 (pa_cons (pv 1) pa_nil)) (pa_cons (pv 6)
            (pa_cons (pe_ix ix_list (pe_split (pv 6) pe_str) pe_int (fun _ _ => rfl)) (pa_cons (pe_join pe_str (pe_slice sl_list (pe_split (pv 6) pe_str) po_none (po_some pe_int))) pa_nil))))))
            (pe_call G2 hr1 (by rfl) g2 k2 b2 .nil pass0 (pa_cons (pv 1) (pa_cons pe_int pa_nil))) (fun _ _ => rfl)))
        (pss_one (ps_if (pt_not (pt_val (pe_callG hg G7 hr1 (by rfl) g7 k7 b7 .nil pass0 (pa_cons (pe_call G16 hr1 (by rfl) g16 k16 b16 .nil pass0 (pa_cons (pv 6) (pa_cons (pv 7) pa_nil)))
            (pa_cons (pe_call G6 hr1 (by rfl) g6 k6 b6 .nil pass0 (pa_cons (pv 6) (pa_cons (pv 7) pa_nil))) pa_nil))))) (pss_one (ps_ret pe_bl)) pss_nil))))))))))))
      (pss_one (ps_ret (pe_callG hg G7 hr1 (by rfl) g7 k7 b7 .nil pass0 (pa_cons (pe_call G15 hr (by rfl) g15 k15 b15 .nil pass0 (pa_cons (pe_tup pa_nil) pa_nil)) (pa_cons pe_bl pa_nil))))))), ?_⟩
    refine ⟨_, rfl, a, ns, 0, 63, rfl, hS, by decide, by decide, by decide, by decide, fun D H1 ds s1 nD hD => ?_⟩
    refine ⟨by show 2 ≤ _; decide, fun B nB => ?_⟩
    have neDB : D ≠ B := ne_of_none hD nB
    have bx0 : Box (upd H1 B (.lst [.ref D, .int 0])) B D := ⟨ds, 0, upd_same, by decide, neDB, by rw [upd_ne neDB]; exact hD⟩
    generalize upd H1 B (.lst [.ref D, .int 0]) = H2 at bx0 ⊢
    refine ⟨by show 5 ≤ _; decide, fun p np => ⟨by show 5 ≤ _; decide, fun r nr => ?_⟩⟩
    have bx1 := (bx0.new (o := .tup [.int 8, .int 3, .int 20, .int 12, .int 12]) np).new (o := .tup [.int 8, .int 3, .int 20, .int 12, .int 12]) nr
    refine ⟨.tuple [.int 8, .int 3, .int 20, .int 12, .int 12], .tuple [.int 8, .int 3, .int 20, .int 12, .int 12],
      .tup (sqT (same_upd nr _ _ upd_same)) (.cons (.int 8) (.cons (.int 3) (.cons (.int 20) (.cons (.int 12) (.cons (.int 12) .nil))))),
      .tup (sqT upd_same) (.cons (.int 8) (.cons (.int 3) (.cons (.int 20) (.cons (.int 12) (.cons (.int 12) .nil))))), by decide, by decide, _, rfl, ?_⟩
    have e0 : (!PyData.eqv (.tuple [.int 8, .int 3, .int 20, .int 12, .int 12]) (.tuple [.int 8, .int 3, .int 20, .int 12, .int 12])) = false := by decide
    rw [e0]
    refine iteF ?_
    generalize upd (upd H2 p _) r _ = H3 at bx1 ⊢
    refine ⟨12, rfl, by decide, by decide, for_range (lo := 0) (n := 12) (fun i σ H' => ∃ v2 v3 v4 v5 v6 v7 : Option V, σ = [some (.ref a), some (.ref B), v2, v3, v4, v5, v6, v7] ∧ Box H' B D) ⟨none, none, none, none, none, none, rfl, bx1⟩ ?_ ?_⟩
    · rintro i σ H4 hi ⟨v2, v3, v4, v5, v6, v7, rfl, bx⟩
      -- text, plain
      refine ⟨_, rfl, B, D, rfl, bx, ?_⟩
      rintro _ H5 ⟨z, rfl, oz⟩ kp5 bx5
      have z1000 : (tl z).length ≤ 1000 := Nat.le_trans oz.1 (by decide)
      have zk : okText 1000 z := oz.mono (by decide)
      refine ⟨_, rfl, 34, z, rfl, rfl, ?_⟩
      refine al2 (evStr rfl z1000) (evStr rfl z1000) (evStr rfl z1000) (evTx rfl zk) fun H6 s6 => ⟨_, rfl, iteF ?_⟩
      -- is_place
      refine al1 (p := isPlace z) (evStr rfl z1000) (evOr (p := decide (z = "")) (q := isPath z) (fun H1 _ Q q => ⟨_, rfl, rfl, by rw [str_eq]; exact q H1 (.refl _)⟩) (evTx rfl zk)) fun H7 s7 => ⟨_, rfl, iteF ?_⟩
      -- is_line, is_word
      refine al2 (p := isLine z) (q := isWord z) (evStr rfl z1000) (evStr rfl z1000) (by
          rw [isLine_eq oz]
          exact evAnd (evVar rfl) fun H1 _ Q q => ⟨_, rfl, z, rfl, lenle z1000, _, _, rfl, rfl, q H1 (.refl _)⟩) (by
          rw [isWord_eq oz]
          refine evAnd (evVar rfl) fun H1 _ Q q => ⟨_, rfl, z, rfl, lenle z1000, 1, _, rfl, rfl, _, rfl, ite2 (fun e => ?_) (fun e => ?_)⟩
          · refine ⟨_, _, rfl, rfl, ?_⟩
            have r := q H1 (.refl _)
            rw [e, Bool.true_and] at r
            exact r
          · have r := q H1 (.refl _)
            rw [Bool.eq_false_iff.mpr e, Bool.false_and] at r
            exact r) fun H8 s8 => ⟨_, rfl, iteF ?_⟩
      have bx8 := ((bx5.same s6).same s7).same s8
      -- lines
      refine ⟨_, rfl, B, D, rfl, bx8, ?_⟩
      rintro _ H9 ⟨y, rfl, oy, ly⟩ kp9 bx9
      refine ⟨by show 1 ≤ _; decide, fun p np => ?_⟩
      refine draw_is (B := B) (D := D) (by decide) rfl (bx9.new np) fun r H10 r0 r1 kp10 bx10 => ?_
      refine ⟨10, r, rfl, rfl, p, _, [.str y], rfl, rfl, sqT (kp10 _ _ (bx9.ne np) upd_same), List.cons_ne_nil _ _, by omega, by omega, by show 1 ≤ _; decide, fun t nt => ?_⟩
      have hk : (10 + r).toNat ≤ 13 := by omega
      have hk2 : 10 + r = (((10 + r).toNat : Nat) : Int) := by omega
      generalize (10 + r).toNat = k at hk hk2 ⊢
      rw [rep_strs]
      have bx11 := bx10.new (o := .tup ((List.replicate k y).map V.str)) nt
      have ht : (upd H10 t (.tup ((List.replicate k y).map V.str))) t = some (.tup ((List.replicate k y).map V.str)) := upd_same
      generalize upd H10 t (.tup ((List.replicate k y).map V.str)) = H11 at bx11 ht ⊢
      refine al1 (p := isLines (List.replicate k y)) (evLines rfl (sqT ht) (by rw [List.length_replicate]; omega) fun u hu => by
          rw [(List.mem_replicate.mp hu).2]
          exact Nat.le_trans oy.1 (by decide)) (fun H1 s Q q => ?_) fun H12 s12 => ⟨_, rfl, iteF ?_⟩
      · refine ⟨_, rfl, t, _, rfl, .inr (sqT (s _ _ ht)), _, _, rfl, rfl, ?_⟩
        have r := q H1 (.refl _)
        rw [isLines, all_repl ly, Bool.and_true] at r
        rw [List.length_map]
        exact r
      have bx12 := bx11.same s12
      refine ⟨_, rfl, by show 2 ≤ _; decide, fun p1 n1 => ?_⟩
      refine ⟨_, rfl, by show 2 ≤ _; decide, fun p2 n2 => ?_⟩
      refine ⟨_, rfl, by show 3 ≤ _; decide, fun p3 n3 => ?_⟩
      refine ⟨by show 3 ≤ _; decide, fun l nl => ?_⟩
      have b1 := bx12.new (o := .tup [.str z, .str "x"]) n1
      have b2 := b1.new (o := .tup [.str "x", .str z]) n2
      have b3 := b2.new (o := .tup [.str "x", .str "", .str z]) n3
      have b4 := b3.new (o := .lst [.ref p1, .ref p2, .ref p3]) nl
      have e3 := same_upd (o := .lst [.ref p1, .ref p2, .ref p3]) nl
      have e2 := (same_upd (o := .tup [.str "x", .str "", .str z]) n3).trans e3
      have e1 := (same_upd (o := .tup [.str "x", .str z]) n2).trans e2
      have h1 := e1 _ _ (upd_same (H := H12) (a := p1) (o := .tup [.str z, .str "x"]))
      have h2 := e2 _ _ (upd_same (a := p2) (o := .tup [.str "x", .str z]))
      have h3 := e3 _ _ (upd_same (a := p3) (o := .tup [.str "x", .str "", .str z]))
      refine pick_at (B := B) (D := D) (vs := [.ref p1, .ref p2, .ref p3]) (by rfl) (by decide) upd_same (b3.ne nl) rfl b4 fun v hv H13 kp13 bx13 => ?_
      have hv2 : ∃ (t2 : Addr) (l2 : List Str), v = .ref t2 ∧ SqT K H13 t2 (l2.map V.str) ∧ l2.length ≤ 3 ∧ (∀ u ∈ l2, (tl u).length ≤ 1000) ∧ isLines l2 = isLine z := by
        have x1 : isLine "x" = true := by decide +kernel
        have x0 : isLine "" = true := by decide +kernel
        have lx : (tl "x").length ≤ 1000 := by decide +kernel
        have l0 : (tl "").length ≤ 1000 := by decide +kernel
        rcases List.mem_cons.mp hv with h | hv
        · refine ⟨p1, [z, "x"], h, sqT (kp13 _ _ (bx12.ne n1) h1), (show 2 ≤ 3 by decide), fun u hu => ?_, ?_⟩
          · rcases List.mem_cons.mp hu with rfl | hu
            · exact z1000
            · rw [List.mem_singleton.mp hu]
              exact lx
          · show (true && (isLine z && (isLine "x" && true))) = _
            rw [x1, Bool.true_and, Bool.and_true, Bool.and_true]
        rcases List.mem_cons.mp hv with h | hv
        · refine ⟨p2, ["x", z], h, sqT (kp13 _ _ (b1.ne n2) h2), (show 2 ≤ 3 by decide), fun u hu => ?_, ?_⟩
          · rcases List.mem_cons.mp hu with rfl | hu
            · exact lx
            · rw [List.mem_singleton.mp hu]
              exact z1000
          · show (true && (isLine "x" && (isLine z && true))) = _
            rw [x1, Bool.true_and, Bool.true_and, Bool.and_true]
        · have h := List.mem_singleton.mp hv
          refine ⟨p3, ["x", "", z], h, sqT (kp13 _ _ (b2.ne n3) h3), (show 3 ≤ 3 by decide), fun u hu => ?_, ?_⟩
          · rcases List.mem_cons.mp hu with rfl | hu
            · exact lx
            rcases List.mem_cons.mp hu with rfl | hu
            · exact l0
            · rw [List.mem_singleton.mp hu]
              exact z1000
          · show (true && (isLine "x" && (isLine "" && (isLine z && true)))) = _
            rw [x1, x0, Bool.true_and, Bool.true_and, Bool.true_and, Bool.and_true]
      obtain ⟨t2, l2, rfl, ht2, hl2, hz2, e2⟩ := hv2
      refine ⟨t2, l2, rfl, ht2, by omega, hz2, fun H14 s14 => ?_⟩
      rw [e2, isLine_eq oz]
      refine al1b (evAnd (p := plainT z) (q := decide (((z.length : Nat) : Int) ≤ 20)) (evVar rfl) fun H1 _ Q q => ⟨_, rfl, z, rfl, lenle z1000, _, _, rfl, rfl, q H1 (.refl _)⟩) fun H15 s15 => ⟨_, rfl, iteF ?_⟩
      have bx15 := (bx13.same s14).same s15
      -- path
      refine ⟨_, rfl, B, D, rfl, bx15, ?_⟩
      rintro _ H16 ⟨ps, rfl, hp1, hp3, hps⟩ kp16 bx16
      rw [join_eq]
      have ox : okText 9 (Str.join sl ps) := (join_ok hps).mono (by omega)
      generalize Str.join sl ps = x at ox ⊢
      have x1000 : (tl x).length ≤ 1000 := Nat.le_trans ox.1 (by decide)
      have xl : x.length + 2 ≤ sizeLine := by
        rw [len_tl]
        exact Nat.le_trans (Nat.add_le_add_right ox.1 2) (by decide)
      -- place
      refine ⟨_, rfl, B, D, rfl, bx16, ?_⟩
      rintro _ H17 ⟨ps2, rfl, hq1, hq3, hqs⟩ kp17 bx17
      rw [join_eq]
      have oy2 : okText 9 (Str.join sl ps2) := (join_ok hqs).mono (by omega)
      generalize Str.join sl ps2 = x2 at oy2 ⊢
      obtain ⟨s0, rest, es⟩ : ∃ s0 rest, Txt.split x sl = s0 :: rest := by
        cases e : Txt.split x sl with
        | nil => exact absurd e (split_ne x)
        | cons s0 rest => exact ⟨s0, rest, rfl⟩
      have m0 : s0 ∈ Txt.split x sl := by rw [es]; exact List.mem_cons_self
      refine ⟨_, rfl, _, rfl, ⟨_, rfl⟩, x, sl, rfl, rfl, rfl, xl, fun q1 w1 => ⟨q1, _, 0, .str s0, rfl, rfl, sqL upd_same, at_of (j := 0) rfl (by rw [es]; rfl), ?_⟩⟩
      refine ⟨⟨_, rfl⟩, _, rfl, ⟨_, rfl⟩, x, sl, rfl, rfl, rfl, xl, fun q2 w2 => ⟨2, rfl, q2, _, rfl, sqL upd_same, fun q3 w3 => ?_⟩⟩
      refine ⟨sl, q3, (Txt.split x sl).take 2, rfl, rfl, .inl (sqL (by rw [upd_same, cut2])), ?_, ?_⟩
      · have := sum_le (l := (Txt.split x sl).take 2) (n := 9) fun u hu => Nat.le_trans (split_le (List.mem_of_mem_take hu)) ox.1
        have h2 : ((Txt.split x sl).take 2).length ≤ 2 := by rw [List.length_take]; exact Nat.min_le_left _ _
        have e1 : sl.length = 1 := by decide +kernel
        rw [e1]
        omega
      rw [join_eq]
      have oj : (tl (Str.join sl ((Txt.split x sl).take 2))).length ≤ 1000 := by
        have := join_le (l := (Txt.split x sl).take 2) (n := 9) fun u hu => Nat.le_trans (split_le (List.mem_of_mem_take hu)) ox.1
        have h2 : ((Txt.split x sl).take 2).length ≤ 2 := by rw [List.length_take]; exact Nat.min_le_left _ _
        omega
      generalize Str.join sl ((Txt.split x sl).take 2) = jj at oj ⊢
      refine ⟨by show 5 ≤ _; decide, fun l5 nl5 => ?_⟩
      have c1 := bx17.new (o := .lst ((Txt.split x sl).map V.str)) w1
      have c2 := c1.new (o := .lst ((Txt.split x sl).map V.str)) w2
      have c3 := c2.new (o := .lst (cutV ((Txt.split x sl).map V.str) none (some 2))) w3
      have c4 := c3.new (o := .lst [.str "", .str x2, .str x, .str s0, .str jj]) nl5
      refine pick_at (B := B) (D := D) (vs := [.str "", .str x2, .str x, .str s0, .str jj]) (by rfl) (by decide) upd_same (c3.ne nl5) rfl c4 fun v hv H18 kp18 bx18 => ?_
      obtain ⟨y5, rfl, o5⟩ : ∃ y5 : Str, v = .str y5 ∧ (tl y5).length ≤ 1000 := by
        rcases List.mem_cons.mp hv with h | hv
        · exact ⟨_, h, by decide +kernel⟩
        rcases List.mem_cons.mp hv with h | hv
        · exact ⟨_, h, Nat.le_trans oy2.1 (by decide)⟩
        rcases List.mem_cons.mp hv with h | hv
        · exact ⟨_, h, x1000⟩
        rcases List.mem_cons.mp hv with h | hv
        · exact ⟨_, h, Nat.le_trans (split_le m0) x1000⟩
        · exact ⟨_, List.mem_singleton.mp hv, oj⟩
      refine al1 (p := inside x y5) (evIns rfl rfl x1000 o5) (evIns rfl rfl x1000 o5) fun H19 s19 => ⟨_, rfl, iteF ?_⟩
      exact ⟨_, _, _, _, _, _, rfl, bx18.same s19⟩
    · rintro σ H4 ⟨v2, v3, v4, v5, v6, v7, rfl, bx⟩
      refine ⟨Nat.zero_le _, fun p np => ?_⟩
      refine ⟨p, [], rfl, sqT upd_same, Nat.zero_le _, (fun _ h => nomatch h), fun H5 s5 => ?_⟩
      have e : isLines [] = true := by decide
      rw [e]
      exact alike1 (q _)
end
end K01

set_option maxRecDepth 100000
set_option maxHeartbeats 4000000
namespace K01
open PySem PySem.Spec PyProof.Rows L2 TL Ga
/-- a def that the top has left -/
structure FnIn (K : PySem.W.Frag) (x : Str) (st : Stmt) : Prop where
  ex : ∃ (f : Addr) (od an : Option Addr) (sl : Array (Option Value)) (oc kV dc pm cd ct : Value), PySem.W.nsIn K mainGlobals x = some (some (.ref f)) ∧
    K.lookup f = some ⟨oc, od, .func (PySem.W.fnOf x x (defArgs st) (defBody st) (defScope st) .none kV dc pm an cd ct), sl⟩ ∧ PySem.W.codeIn K cd x = true ∧ PySem.W.keepIn K (.ref f) = true
theorem fnIn {K : PySem.W.Frag} {x : Str} {st : Stmt} {f : Addr} {od an : Option Addr} {sl : Array (Option Value)} {oc kV dc pm cd ct : Value} (a : PySem.W.nsIn K mainGlobals x = some (some (.ref f)))
    (l : K.lookup f = some ⟨oc, od, .func (PySem.W.fnOf x x (defArgs st) (defBody st) (defScope st) .none kV dc pm an cd ct), sl⟩) (c : PySem.W.codeIn K cd x = true) (k : PySem.W.keepIn K (.ref f) = true) : FnIn K x st :=
  ⟨f, od, an, sl, oc, kV, dc, pm, cd, ct, a, l, c, k⟩
theorem intIn {K : PySem.W.Frag} {x : Str} {i : Int} {t : Tok} (a : PySem.W.nsIn K mainGlobals x = some (some (.int i t))) : ∃ t, PySem.W.nsIn K mainGlobals x = some (some (.int i t)) := ⟨t, a⟩
theorem strIn {K : PySem.W.Frag} {x : Str} {i : Str} {t : Tok} (a : PySem.W.nsIn K mainGlobals x = some (some (.str i t))) : ∃ t, PySem.W.nsIn K mainGlobals x = some (some (.str i t)) := ⟨t, a⟩
/-- such a def by its body -/
theorem FnIn.fn {K : PySem.W.Frag} {x : Str} {st : Stmt} {mg : Str → Option Value} {h : Heap} (F : FnIn K x st) (X : K.In h) (G : h.Ns mainGlobals mg) :
    ∃ (f : Addr) (kV dc pm : Value) (an : Option Addr) (cd ct : Value), Fun K x x st f (PySem.W.fnOf x x (defArgs st) (defBody st) (defScope st) .none kV dc pm an cd ct) ∧ mg x = some (.ref f) := by
  obtain ⟨f, od, an, sl, oc, kV, dc, pm, cd, ct, a, l, c, k⟩ := F.ex
  exact ⟨f, kV, dc, pm, an, cd, ct, fun_mk l c k, PySem.W.mg_of X G a⟩
/-- what the top has left -/
structure Tops (K : PySem.W.Frag) : Prop where
  f0 : FnIn K "is_name" sIsName
  f1 : FnIn K "is_path" sIsPath
  f2 : FnIn K "is_place" sIsPlace
  f3 : FnIn K "is_line_sign" sSign
  f4 : FnIn K "is_line" sIsLine
  f5 : FnIn K "is_word" sIsWord
  f6 : FnIn K "is_lines" sIsLines
  f7 : FnIn K "is_inside" sIsInside
  f8 : FnIn K "_law_cell" sCell
  f9 : FnIn K "_law_digits" sDigits
  f10 : FnIn K "_law_draw" sDraw
  f11 : FnIn K "_law_path" sPath
  f12 : FnIn K "_law_line" sLine
  f13 : FnIn K "_law_inside" sLInside
  f14 : FnIn K "_law_alike" sAlike
  f15 : FnIn K "_law_text" sText
  f16 : FnIn K "_law_is_name" sLIsName
  f17 : FnIn K "_law_is_path" sLIsPath
  f18 : FnIn K "law" sLaw
  nm : ∃ t, PySem.W.nsIn K mainGlobals "NAME_MOST" = some (some (.int 8 t))
  dm : ∃ t, PySem.W.nsIn K mainGlobals "DEPTH_MOST" = some (some (.int 3 t))
  lm : ∃ t, PySem.W.nsIn K mainGlobals "LINE_MOST" = some (some (.int 20 t))
  lsm : ∃ t, PySem.W.nsIn K mainGlobals "LINES_MOST" = some (some (.int 12 t))
  wm : ∃ t, PySem.W.nsIn K mainGlobals "WORD_MOST" = some (some (.int 12 t))
  ns : ∃ t, PySem.W.nsIn K mainGlobals "NAME_SIGNS" = some (some (.str "abcdefghijklmnopqrstuvwxyz0123456789" t))
  pc : ∃ t, PySem.W.nsIn K mainGlobals "PERCENT" = some (some (.int 37 t))
  b_len : PySem.W.nsIn K mainGlobals "len" = some none
  b_all : PySem.W.nsIn K mainGlobals "all" = some none
  b_ord : PySem.W.nsIn K mainGlobals "ord" = some none
  b_int : PySem.W.nsIn K mainGlobals "int" = some none
  b_range : PySem.W.nsIn K mainGlobals "range" = some none
  b_repr : PySem.W.nsIn K mainGlobals "repr" = some none
  b_tuple : PySem.W.nsIn K mainGlobals "tuple" = some none
theorem Tops.tx {K : PySem.W.Frag} {mg : Str → Option Value} {h : Heap} (O : Tops K) (X : K.In h) (G : h.Ns mainGlobals mg) : Tx mg := by
  obtain ⟨t_nm, e_nm⟩ := O.nm
  obtain ⟨t_dm, e_dm⟩ := O.dm
  obtain ⟨t_lm, e_lm⟩ := O.lm
  obtain ⟨t_lsm, e_lsm⟩ := O.lsm
  obtain ⟨t_wm, e_wm⟩ := O.wm
  obtain ⟨t_ns, e_ns⟩ := O.ns
  obtain ⟨t_pc, e_pc⟩ := O.pc
  exact ⟨PySem.W.mg_none_of X G O.b_len, PySem.W.mg_none_of X G O.b_all, PySem.W.mg_none_of X G O.b_ord, PySem.W.mg_none_of X G O.b_int, PySem.W.mg_none_of X G O.b_range, PySem.W.mg_none_of X G O.b_repr, PySem.W.mg_none_of X G O.b_tuple, ⟨_, PySem.W.mg_of X G e_nm⟩, ⟨_, PySem.W.mg_of X G e_dm⟩, ⟨_, PySem.W.mg_of X G e_lm⟩, ⟨_, PySem.W.mg_of X G e_lsm⟩, ⟨_, PySem.W.mg_of X G e_wm⟩, ⟨_, PySem.W.mg_of X G e_ns⟩, ⟨_, PySem.W.mg_of X G e_pc⟩⟩
theorem all_mk {l : PySem.W.OpenLaw} {w : World} {K : PySem.W.Frag} {h : Heap} {mg : Str → Option Value} {fa : Addr} (X : K.In h) (G : h.Ns mainGlobals mg) (hfa : mg "law" = some (.ref fa)) (O : Tops K) :
    ∃ fd : FuncData, (∀ (s : Shared) (v : Value), BindsTo s fd ⟨[v], []⟩ [("script", v)]) ∧ ∀ base : Heap, K.In base → base.Ns mainGlobals mg → FnG l.prog w K mg base CX0 4 fa fd ["script"] (spLaw K) := by
  have T := O.tx X G
  obtain ⟨a0, u0, v0, x0, y0, z0, c0, F0, m0⟩ := O.f0.fn X G
  have b0 := F0.binds (ps := ["text"]) fun _ _ _ _ _ _ us hl => match us, hl with | [_], _ => rfl
  obtain ⟨a1, u1, v1, x1, y1, z1, c1, F1, m1⟩ := O.f1.fn X G
  have b1 := F1.binds (ps := ["text"]) fun _ _ _ _ _ _ us hl => match us, hl with | [_], _ => rfl
  obtain ⟨a2, u2, v2, x2, y2, z2, c2, F2, m2⟩ := O.f2.fn X G
  have b2 := F2.binds (ps := ["text"]) fun _ _ _ _ _ _ us hl => match us, hl with | [_], _ => rfl
  obtain ⟨a3, u3, v3, x3, y3, z3, c3, F3, m3⟩ := O.f3.fn X G
  have b3 := F3.binds (ps := ["sign"]) fun _ _ _ _ _ _ us hl => match us, hl with | [_], _ => rfl
  obtain ⟨a4, u4, v4, x4, y4, z4, c4, F4, m4⟩ := O.f4.fn X G
  have b4 := F4.binds (ps := ["text"]) fun _ _ _ _ _ _ us hl => match us, hl with | [_], _ => rfl
  obtain ⟨a5, u5, v5, x5, y5, z5, c5, F5, m5⟩ := O.f5.fn X G
  have b5 := F5.binds (ps := ["text"]) fun _ _ _ _ _ _ us hl => match us, hl with | [_], _ => rfl
  obtain ⟨a6, u6, v6, x6, y6, z6, c6, F6, m6⟩ := O.f6.fn X G
  have b6 := F6.binds (ps := ["lines"]) fun _ _ _ _ _ _ us hl => match us, hl with | [_], _ => rfl
  obtain ⟨a7, u7, v7, x7, y7, z7, c7, F7, m7⟩ := O.f7.fn X G
  have b7 := F7.binds (ps := ["path", "place"]) fun _ _ _ _ _ _ us hl => match us, hl with | [_, _], _ => rfl
  obtain ⟨a8, u8, v8, x8, y8, z8, c8, F8, m8⟩ := O.f8.fn X G
  have b8 := F8.binds (ps := ["script", "k"]) fun _ _ _ _ _ _ us hl => match us, hl with | [_, _], _ => rfl
  obtain ⟨a9, u9, v9, x9, y9, z9, c9, F9, m9⟩ := O.f9.fn X G
  have b9 := F9.binds (ps := ["script", "first", "last"]) fun _ _ _ _ _ _ us hl => match us, hl with | [_, _, _], _ => rfl
  obtain ⟨a10, u10, v10, x10, y10, z10, c10, F10, m10⟩ := O.f10.fn X G
  have b10 := F10.binds (ps := ["box", "many"]) fun _ _ _ _ _ _ us hl => match us, hl with | [_, _], _ => rfl
  obtain ⟨a11, u11, v11, x11, y11, z11, c11, F11, m11⟩ := O.f11.fn X G
  have b11 := F11.binds (ps := ["box"]) fun _ _ _ _ _ _ us hl => match us, hl with | [_], _ => rfl
  obtain ⟨a12, u12, v12, x12, y12, z12, c12, F12, m12⟩ := O.f12.fn X G
  have b12 := F12.binds (ps := ["box"]) fun _ _ _ _ _ _ us hl => match us, hl with | [_], _ => rfl
  obtain ⟨a13, u13, v13, x13, y13, z13, c13, F13, m13⟩ := O.f13.fn X G
  have b13 := F13.binds (ps := ["path", "place"]) fun _ _ _ _ _ _ us hl => match us, hl with | [_, _], _ => rfl
  obtain ⟨a14, u14, v14, x14, y14, z14, c14, F14, m14⟩ := O.f14.fn X G
  have b14 := F14.binds (ps := ["one", "two"]) fun _ _ _ _ _ _ us hl => match us, hl with | [_, _], _ => rfl
  obtain ⟨a15, u15, v15, x15, y15, z15, c15, F15, m15⟩ := O.f15.fn X G
  have b15 := F15.binds (ps := ["box"]) fun _ _ _ _ _ _ us hl => match us, hl with | [_], _ => rfl
  obtain ⟨a16, u16, v16, x16, y16, z16, c16, F16, m16⟩ := O.f16.fn X G
  have b16 := F16.binds (ps := ["text"]) fun _ _ _ _ _ _ us hl => match us, hl with | [_], _ => rfl
  obtain ⟨a17, u17, v17, x17, y17, z17, c17, F17, m17⟩ := O.f17.fn X G
  have b17 := F17.binds (ps := ["text"]) fun _ _ _ _ _ _ us hl => match us, hl with | [_], _ => rfl
  obtain ⟨a18, u18, v18, x18, y18, z18, c18, F18, m18⟩ := O.f18.fn X G
  have e := hfa.symm.trans m18
  cases e
  refine ⟨PySem.W.fnOf "law" "law" (defArgs sLaw) (defBody sLaw) (defScope sLaw) .none u18 v18 x18 y18 z18 c18, fun s v => .of_eq rfl, fun base _ _ => ?_⟩
  have G0 := ok_is_name (P := l.prog) (w := w) (base := base) F0 T
  have G1 := ok_is_path (P := l.prog) (w := w) (base := base) F1 T G0 m0 F0.kp b0
  have G2 := ok_is_place (P := l.prog) (w := w) (base := base) F2 G1 m1 F1.kp b1
  have G3 := ok_sign (P := l.prog) (w := w) (base := base) F3 T
  have G4 := ok_is_line (P := l.prog) (w := w) (base := base) F4 T G3 m3 F3.kp b3
  have G5 := ok_is_word (P := l.prog) (w := w) (base := base) F5 T G3 m3 F3.kp b3
  have G6 := ok_is_lines (P := l.prog) (w := w) (base := base) F6 T G4 m4 F4.kp b4
  have G7 := ok_is_inside (P := l.prog) (w := w) (base := base) (K := K) (mg := mg) F7
  have G8 := ok_cell (P := l.prog) (w := w) (base := base) F8 T
  have G9 := ok_digits (P := l.prog) (w := w) (base := base) F9 T G8 m8 F8.kp b8
  have G10 := ok_draw (P := l.prog) (w := w) (base := base) (K := K) F10 T
  have G11 := ok_path F11 T G10 m10 F10.kp b10
  have G12 := ok_line F12 G10 m10 F10.kp b10
  have G15 := ok_text F15 T G10 m10 F10.kp b10
  have G13 := ok_linside (P := l.prog) (w := w) (base := base) (K := K) F13 T
  have G14 := ok_alike (P := l.prog) (w := w) (base := base) F14 T
  have G16 := ok_lis_name (P := l.prog) (w := w) (base := base) (K := K) F16 T
  have G17 := ok_lis_path F17 T G16 m16 F16.kp b16
  exact ok_law F18 T ⟨_, _, G9, m9, F9.kp, b9⟩ ⟨_, _, G10, m10, F10.kp, b10⟩ ⟨_, _, G11, m11, F11.kp, b11⟩ ⟨_, _, G12, m12, F12.kp, b12⟩ ⟨_, _, G15, m15, F15.kp, b15⟩ ⟨_, _, G13, m13, F13.kp, b13⟩ ⟨_, _, G14, m14, F14.kp, b14⟩ ⟨_, _, G16, m16, F16.kp, b16⟩ ⟨_, _, G17, m17, F17.kp, b17⟩ ⟨_, _, G0, m0, F0.kp, b0⟩ ⟨_, _, G1, m1, F1.kp, b1⟩ ⟨_, _, G2, m2, F2.kp, b2⟩ ⟨_, _, G4, m4, F4.kp, b4⟩ ⟨_, _, G5, m5, F5.kp, b5⟩ ⟨_, _, G6, m6, F6.kp, b6⟩ ⟨_, _, G7, m7, F7.kp, b7⟩
end K01

open PySem PySem.W PyProof.Rows
set_option maxRecDepth 100000 in
set_option maxHeartbeats 0 in
theorem PySem.Challenge.cw_sameanswers_k01_names_paths_and_lines_holds : PySem.Challenge.rw_sameanswers_k01_names_paths_and_lines.Holds := by
  w_on; o_law; k_head; (case hw => w_witness2)
  k_fill
  refine Ga.walk_G (l := PySem.Challenge.rw_sameanswers_k01_names_paths_and_lines) (n := 63) (k := 4) (x := "script") (sp := fun w => K01.spLaw _) rfl (by decide) rfl ⟨rfl, by decide, by decide⟩ (fun w h Y => PySem.W.kIn_of Y) ?F (fun _ _ a ns hl _ hS => ⟨a, ns, rfl, hS, hl, fun _ => rfl⟩)
  case F =>
    intro w mg fa h KX G hmg
    refine K01.all_mk KX G hmg ?O
    constructor
    · refine' K01.fnIn ?a ?l ?c ?k
      (case a => k_is)
      (case l => k_is)
      (case c => k_is)
      (case k => k_is)
    · refine' K01.fnIn ?a ?l ?c ?k
      (case a => k_is)
      (case l => k_is)
      (case c => k_is)
      (case k => k_is)
    · refine' K01.fnIn ?a ?l ?c ?k
      (case a => k_is)
      (case l => k_is)
      (case c => k_is)
      (case k => k_is)
    · refine' K01.fnIn ?a ?l ?c ?k
      (case a => k_is)
      (case l => k_is)
      (case c => k_is)
      (case k => k_is)
    · refine' K01.fnIn ?a ?l ?c ?k
      (case a => k_is)
      (case l => k_is)
      (case c => k_is)
      (case k => k_is)
    · refine' K01.fnIn ?a ?l ?c ?k
      (case a => k_is)
      (case l => k_is)
      (case c => k_is)
      (case k => k_is)
    · refine' K01.fnIn ?a ?l ?c ?k
      (case a => k_is)
      (case l => k_is)
      (case c => k_is)
      (case k => k_is)
    · refine' K01.fnIn ?a ?l ?c ?k
      (case a => k_is)
      (case l => k_is)
      (case c => k_is)
      (case k => k_is)
    · refine' K01.fnIn ?a ?l ?c ?k
      (case a => k_is)
      (case l => k_is)
      (case c => k_is)
      (case k => k_is)
    · refine' K01.fnIn ?a ?l ?c ?k
      (case a => k_is)
      (case l => k_is)
      (case c => k_is)
      (case k => k_is)
    · refine' K01.fnIn ?a ?l ?c ?k
      (case a => k_is)
      (case l => k_is)
      (case c => k_is)
      (case k => k_is)
    · refine' K01.fnIn ?a ?l ?c ?k
      (case a => k_is)
      (case l => k_is)
      (case c => k_is)
      (case k => k_is)
    · refine' K01.fnIn ?a ?l ?c ?k
      (case a => k_is)
      (case l => k_is)
      (case c => k_is)
      (case k => k_is)
    · refine' K01.fnIn ?a ?l ?c ?k
      (case a => k_is)
      (case l => k_is)
      (case c => k_is)
      (case k => k_is)
    · refine' K01.fnIn ?a ?l ?c ?k
      (case a => k_is)
      (case l => k_is)
      (case c => k_is)
      (case k => k_is)
    · refine' K01.fnIn ?a ?l ?c ?k
      (case a => k_is)
      (case l => k_is)
      (case c => k_is)
      (case k => k_is)
    · refine' K01.fnIn ?a ?l ?c ?k
      (case a => k_is)
      (case l => k_is)
      (case c => k_is)
      (case k => k_is)
    · refine' K01.fnIn ?a ?l ?c ?k
      (case a => k_is)
      (case l => k_is)
      (case c => k_is)
      (case k => k_is)
    · refine' K01.fnIn ?a ?l ?c ?k
      (case a => k_is)
      (case l => k_is)
      (case c => k_is)
      (case k => k_is)
    · refine' K01.intIn ?z
      (case z => k_is)
    · refine' K01.intIn ?z
      (case z => k_is)
    · refine' K01.intIn ?z
      (case z => k_is)
    · refine' K01.intIn ?z
      (case z => k_is)
    · refine' K01.intIn ?z
      (case z => k_is)
    · refine' K01.strIn ?z
      (case z => k_is)
    · refine' K01.intIn ?z
      (case z => k_is)
    · k_is
    · k_is
    · k_is
    · k_is
    · k_is
    · k_is
    · k_is
