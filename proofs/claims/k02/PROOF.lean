import PyProof.Rows.All
import Wide.All
import OpenK.AllK
import Wide.FinOn
import HandS.ForMost
import HandS.Walk
import HandS.TupMul
import HandS.Strs
import HandS.DictComp
import HandS.More
import HandS.Iter
import HandS.TupLen
import HandS.TupAny
import HandS.Exc
import KE.KExcSuper
import HandS.ExcInit
import HandS.ExcIs
import HandS.ExcOwn
import HandS.Nested
import HandS.FStr
import HandS.Defaults
import KE.KExcIs
import HandS.ExcField
import HandS.Style
import HandS.SortOrd
import HandS.SortRule
import HandS.WordsExc
import HandS.WordsDict
import HandS.DeepEq
import PySem.Challenge.RW_sameanswers_k02_trees
set_option Elab.async false
set_option linter.all false
set_option maxRecDepth 100000
set_option maxHeartbeats 4000000
/-! Ga: defs that are called where no repr is under way (the guards are known to be none), and repr of data. -/
namespace Ga
open PySem PySem.Spec PyProof.Rows L2

/-- one call of a def by its body, at one place -/
theorem body_run {CX : CXT} {P : Program} {w : World} {K : PySem.W.Frag} {mg : Str → Option Value} {base : Heap} {k : Nat}
    {f : Addr} {name qual : Str} {params : Arguments} {body : List Stmt} {scope : Scope} {dV kV doc pm cdv ct oc : Value}
    {an od : Option Addr} {osl : Array (Option Value)} {N ps : List Str} {A : Around} {outer : List Env} {s : Shared} {H : Hp}
    {args : Args} {us : List Value} {vs : List V} {Q : VK} {E : XK} {t : TS}
    (lk : K.lookup f = some ⟨oc, od, .func (PySem.W.fnOf name qual params body scope dV kV doc pm an cdv ct), osl⟩)
    (hcd : PySem.W.codeIn K cdv qual = true) (S : FnScope N ps scope) (hl : vs.length = ps.length) (hr : Room (k + 1) A)
    (e0 : Env0 P w K mg base A outer s H) (hb : BindsTo s (PySem.W.fnOf name qual params body scope dV kV doc pm an cdv ct) args (ps.zip us))
    (r : Vals vs us) (ht : PSs (cxOf CX P w K mg base N qual scope f cdv A outer s H E) body t)
    (hq : t { nx := fun _ H' => Q .non H', rt := Q } (start N vs) H) :
    codeAny (model P w) A (.call (.ref f) args) (CR CX outer P w H s Q E) s := by
  have keep : ∀ b o, base.get? b = some o → s.heap.get? b = some o := fun b o e => (e0.bs b o e).1
  have KX := e0.mod.kin.keeps keep
  have lim := e0.mod.nolimit.keeps keep
  have kinds : ∀ y ∈ ps.zip us, scope.names.lookup y.1 = some .local ∨
      (scope.names.lookup y.1 = some .cell ∧ ((cellsFrom (s.heap.objs.size + 1) scope.names []).lookup y.1).isSome = true) := by
    rintro ⟨n, v⟩ hy
    rcases S.par n (List.of_mem_zip hy).1 with q | q
    · exact Or.inl q
    · exact Or.inr ⟨q, PySem.W.cellsFrom_some _ _ _ (Or.inl q)⟩
  apply codeAny_call_function hr.depth (KX _ _ lk) rfl S.co S.gen rfl (PySem.W.codeRec_of KX hcd)
  apply hb
  apply wpAny_newFunctionEnv_cells S.kind kinds
  rintro env rfl s1 x
  refine ⟨lim.keeps x.toInCall.keep, codeAny_func ?_⟩
  have I := inv_start (CX := CX) (E := E) (cd := cdv) (qual := qual) (f := f) S hr.hd e0 hl r x
  apply wpAny_mono (ht.run [] s1 (start N vs) H _ I hq)
  · intro fl s' hs
    cases fl with
    | ret u =>
      obtain ⟨v, σ', H', J, rv, q⟩ := hs
      exact ⟨v, H', J.os, J.bare, J.base, J.hok, rv, q⟩
    | next =>
      obtain ⟨σ', H', J, q⟩ := hs
      exact ⟨V.non, H', J.os, J.bare, J.base, J.hok, rfl, q⟩
    | brk =>
      obtain ⟨_, _, _, q⟩ := hs
      exact q.elim
    | cont =>
      obtain ⟨_, _, _, q⟩ := hs
      exact q.elim
  · exact fun e s' hs => hs

/-- a def's promise where the guards are none -/
structure FnG (P : Program) (w : World) (K : PySem.W.Frag) (mg : Str → Option Value) (base : Heap) (CX : CXT) (k : Nat) (f : Addr)
    (fd : FuncData) (ps : List Str) (sp : Sp) : Prop where
  len : ∀ vs H Q E, sp vs H Q E → vs.length = ps.length
  run : ∀ (A : Around), A.guards = some [] → ∀ (outer : List Env) (s : Shared) (H : Hp) (args : Args) (us : List Value) (vs : List V)
    (Q : VK) (E : XK), Room k A → Env0 P w K mg base A outer s H → BindsTo s fd args (ps.zip us) → Vals vs us → sp vs H Q E →
    codeAny (model P w) A (.call (.ref f) args) (CR CX outer P w H s Q E) s

section
variable {P : Program} {w : World} {K : PySem.W.Frag} {mg : Str → Option Value} {base : Heap}
theorem FnG.of {CX : CXT} {k : Nat} {f : Addr} {fd : FuncData} {ps : List Str} {sp : Sp} (F : FnOk P w K mg base CX k f fd ps sp) :
    FnG P w K mg base CX k f fd ps sp := ⟨F.len, fun A _ => F.run A⟩
/-- the rule for such a def, no exception leaves it -/
theorem okG {x qual : Str} {st : Stmt} {f : Addr} {fd : FuncData} {N ps : List Str} {k : Nat} {sp : Sp} (F : Fun K x qual st f fd)
    (S : FnScope N ps (defScope st)) (len : ∀ vs H Q E, sp vs H Q E → vs.length = ps.length)
    (hbody : ∀ (cdv : Value) (A : Around), A.guards = some [] → ∀ (outer : List Env) (s : Shared) (H : Hp) (vs : List V) (Q : VK) (E : XK),
      Room k (A.deeper (envOfC qual (defScope st) s.heap.objs.size f cdv)) → sp vs H Q E →
      ∃ t, PSs (cxOf CX0 P w K mg base N qual (defScope st) f cdv A outer s H E).nox (defBody st) t ∧
        t { nx := fun _ H' => Q .non H', rt := Q } (start N vs) H) :
    FnG P w K mg base CX0 (k + 1) f fd ps sp := by
  obtain ⟨oc, od, kV, doc, pm, an, cdv, ct, osl, rfl, lk, hcd⟩ := F.ex
  refine ⟨len, fun A hg outer s H args us vs Q E hr e0 hb r hsp => ?_⟩
  obtain ⟨t, h, q⟩ := hbody cdv A hg outer s H vs Q E (hr.deeper _) hsp
  exact body_run lk hcd S (len _ _ _ _ hsp) hr e0 hb r h.nox q
end

section
variable {X : Cx} {CX : CXT} {k : Nat} {f : Addr} {fd : FuncData} {ps : List Str} {sp : Sp} {dvs : List V} {ds : List Value} {E : XK}
  {x : Str} {p pos : Pos} {e : Expr} {es : List Expr} {t : TA}
/-- a call of such a def -/
theorem pe_callG (hgd : X.A.guards = some []) (F : FnG X.prog X.w X.K X.mg X.base CX k f fd ps sp) (hr : Room k X.A) (hg : Gl X x)
    (hm : X.mg x = some (.ref f)) (hk : PySem.W.keepIn X.K (.ref f) = true) (hb : Binds X.K fd ps ds) (hd : Vals dvs ds)
    (hx : Passes CX X E) (ha : PA X (e :: es) t) (hdb : (x == ("__debug__" : Str)) = false := by decide)
    (he : starEach (e :: es) X.env = (false, eval e X.env) :: starEach es X.env := by rfl)
    (hpl : (backTo pos (starEach es X.env)).any (·.1) = false := by rfl) :
    PE X (.Call (.Name x p) (e :: es) [] pos) (tCall sp dvs E t) := by
  refine ⟨fun pins s σ H Q I h => wpAny_Call_Name_kw (ld_glob I hg hm ?_ hdb)⟩
  refine PySem.W.callWith_K (h₀ := X.base) I.ok.mod.kin hk ?_ he hpl
  refine thn (ha.run pos pins s σ H _ I h) ?_
  rintro us s1 ⟨vs, H1, J, r, q⟩
  have r2 := r.append hd
  have hl : (us ++ ds).length = ps.length := r2.length.symm.trans (F.len _ _ _ _ q)
  refine ⟨J.kIn, wpAny_call (codeAny_mono (F.run X.A hgd X.stack s1 H1 ⟨us, []⟩ _ _ Q E hr J.env0 (hb s1 us J.kIn hl) r2 q) ?_)⟩
  rintro (e | fl) s' hq
  · exact hx pins σ H1 s1 e s' J hq
  · cases fl with
    | ret u => exact J.after hq
    | next => exact hq.elim
    | brk => exact hq.elim
    | cont => exact hq.elim
end

/-! ### repr of data -/
def rRepr (K : PySem.W.Frag) : List V → Hp → VK → Prop := fun xs H Q => ∃ x d, xs = [x] ∧ Dp K H x d ∧ d.showable = true ∧ d.hasDict = false ∧
  d.depth ≤ 40 ∧ d.shown.length ≤ sizeLine ∧ Q (.str d.shown) H
theorem call_reprD {X : Cx} (hgd : X.A.guards = some []) (hu : X.A.units + 64 < cLine) : CallR X (.builtin "repr") (rRepr X.K) := by
  intro pins s σ H xs us Q I r h
  obtain ⟨x, d, rfl, hd, h1, h2, h3, h4, q⟩ := h
  obtain ⟨u, rfl, ru⟩ := vals1 r
  obtain ⟨as, rd⟩ := Dp.reads I d x u hd ru
  cases hd with
  | non =>
    cases ru
    exact PySem.P.repr_of_none ⟨.str _, H, I.tok _, ⟨_, rfl⟩, q⟩
  | bl b =>
    cases ru
    exact PySem.P.repr_of_bool ⟨.str _, H, I.tok _, ⟨_, rfl⟩, q⟩
  | int i =>
    obtain ⟨t, rfl⟩ := ru
    exact PySem.P.repr_of_int (by simpa [PyData.showable] using h1) ⟨.str _, H, I.tok _, ⟨_, rfl⟩, q⟩
  | str z =>
    obtain ⟨t, rfl⟩ := ru
    exact PySem.P.repr_of_str ⟨.str _, H, I.tok _, ⟨_, rfl⟩, q⟩ h4
  | lst hs ha =>
    cases ru
    exact repr_of_reads' rd h1 (fun z => absurd (z.symm.trans h2) (by decide)) hgd (by omega) (fun _ _ e => e)
      (fun h' u tk kp => ⟨.str _, H, I.kept kp, ⟨_, rfl⟩, q⟩) h4
  | tup hs ha =>
    cases ru
    exact repr_of_reads' rd h1 (fun z => absurd (z.symm.trans h2) (by decide)) hgd (by omega) (fun _ _ e => e)
      (fun h' u tk kp => ⟨.str _, H, I.kept kp, ⟨_, rfl⟩, q⟩) h4

end Ga

set_option maxRecDepth 100000
set_option maxHeartbeats 4000000
namespace Ga
open PySem PySem.Spec PyProof.Rows L2

/-- the law's call behind the top, from an abstract heap that tracks the script at most -/
theorem call_at {P : Program} {w : World} {K : PySem.W.Frag} {mg mb : Str → Option Value} {k : Nat} {fa a : Addr} {fd : FuncData} {x : Str}
    {sp : Sp} {s1 : Shared} {vs : List Value} {H : Hp} (KX : K.In s1.heap) (hns : s1.heap.Ns mainGlobals mg)
    (hb : s1.heap.Ns builtinsNs mb) (hbb : ∀ x : Str, x ≠ "__name__" → mb x = bootBuiltins x) (hlim : s1.heap.NoLimit) (hg : s1.gens = #[])
    (ha : s1.heap.get? a = some { cls := .type "list", data := .seq vs.toArray }) (hr : Room k callerA)
    (F : ∀ base : Heap, K.In base → base.Ns mainGlobals mg → FnG P w K mg base CX0 k fa fd [x] sp)
    (hbind : ∀ (s : Shared) (u : Value), BindsTo s fd ⟨[u], []⟩ [(x, u)])
    (hsp : sp [.ref a] H (fun v _ => v = .bl true) E0) (hO : Only H) (hok : HOk P w H s1.heap)
    (hA : ∀ b u, H b = some u → b = a ∧ K.lookup a = none) :
    codeAny (model P w) callerA (.call (.ref fa) ⟨[.ref a], []⟩)
      (fun r s' => r = .ok (.ret (.bool true)) ∧ OldK s1.heap s'.heap ∧ s'.os = s1.os ∧ AllBare s'.gens) s1 := by
  have other : ∀ {b : Addr} {o : Obj}, s1.heap.get? b = some o → (b = a → False) → (hidT s1.heap H).get? b = some o := by
    intro b o e n
    apply hidT_get e
    cases q : H b with
    | none => rfl
    | some u => exact (n (hA b u q).1).elim
  have spaces : ∀ {b : Addr} {m : Str → Option Value}, s1.heap.Ns b m → (hidT s1.heap H).Ns b m := by
    rintro b m ⟨o, es, ep, e, d, r⟩
    refine ⟨o, es, ep, other e fun z => ?_, d, r⟩
    subst z
    rw [ha] at e
    cases e
    cases d
  have hK : K.In (hidT s1.heap H) := by
    intro b o e
    apply hidT_get (KX b o e)
    cases q : H b with
    | none => rfl
    | some u =>
      obtain ⟨z, n⟩ := hA b u q
      subst z
      rw [n] at e
      cases e
  obtain ⟨mc, c1, c2⟩ := hlim
  have M : Mod K mg (hidT s1.heap H) := ⟨hK, spaces hns, ⟨mb, spaces hb, hbb⟩, mc, spaces c1, c2⟩
  have e0 : Env0 P w K mg (hidT s1.heap H) callerA [] s1 H :=
    { frames := rfl, mod := M, bs := fun b o => of_hidT, bsz := Nat.le_of_eq (hidT_size _ _), funs := trivial, frf := fun b z => (List.not_mem_nil z).elim,
      hok := hok, bare := .of_eq hg }
  have R := (F _ hK (spaces hns)).run callerA rfl [] s1 H ⟨[.ref a], []⟩ [.ref a] [.ref a] _ E0 hr e0 (hbind s1 _) (Paired.cons rfl .nil) hsp
  apply codeAny_mono R
  rintro (e | fl) s' h
  · exact h.elim
  · cases fl with
    | next => exact h.elim
    | brk => exact h.elim
    | cont => exact h.elim
    | ret u =>
      obtain ⟨v, H', os, bare, un, ok2, rv, rfl⟩ := h
      cases rv
      refine ⟨rfl, .of_keep fun b o e => ?_, os, bare⟩
      rcases hO b with n | ⟨ob, xs, y⟩
      · exact un.keep b o e n List.not_mem_nil List.not_mem_nil
      · have g1 := (hok b _ y).1
        have g2 := (ok2 b _ (un.frzs b ob _ y)).1
        rw [e] at g1
        cases g1
        exact g2

/-- what k_head leaves, from the promise of the law's def -/
theorem walk_G {l : PySem.W.OpenLaw} {n k : Nat} {q : Program} {loose : List Str} {XP : (Str → Option Value) → Heap → Prop}
    {YP : World → Heap → Prop} {d : DefRec} {K : Params → PySem.W.Frag} {sp : World → Sp} {x : Str}
    (hn : l.most = some n) (hz : n ≤ sizeLine) (hdf : d.params.defaults = []) (hr : Room k callerA)
    (hY : ∀ (w : World) (h : Heap), YP w h → (K w.params).In h)
    (F : ∀ (w : World) (mg : Str → Option Value) (fa : Addr) (h : Heap), (K w.params).In h → h.Ns mainGlobals mg → mg d.name = some (.ref fa) →
      ∃ fd : FuncData, (∀ (s : Shared) (u : Value), BindsTo s fd ⟨[u], []⟩ [(x, u)]) ∧ ∀ base : Heap, (K w.params).In base →
        base.Ns mainGlobals mg → FnG l.prog w (K w.params) mg base CX0 k fa fd [x] (sp w))
    (hsp : ∀ (w : World) (H : Hp) (a : Addr) (ns : List Int), ns.length ≤ n → Only H → SqL (K w.params) H a (ns.map V.int) →
      sp w [.ref a] H (fun v _ => v = .bl true) E0) :
    PySem.W.WalkO q loose XP YP l.row.toRowW d [] (fun f vs => PySem.call f vs) := by
  apply Att.attach_call hn hdf
  intro w s0 s1 mg mb fa o pm cd doc a vs ns G Y ho hd hcd hmg hobj hi hlen hg
  have KX := hY w _ Y
  obtain ⟨fd, hb, hF⟩ := F w mg fa _ KX G.T.g hmg
  have rv := vals_ints hi
  have hm : (ns.map V.int).length ≤ sizeLine := by rw [List.length_map]; omega
  cases hk : (K w.params).lookup a with
  | some ob =>
    have e := KX a ob hk
    rw [hobj] at e
    cases e
    refine call_at (H := fun _ => none) KX G.T.g G.T.b G.T.builtins G.T.nolimit hg hobj hr hF hb ?_ (fun _ => Or.inl rfl) (fun b u z => nomatch z) (fun b u z => nomatch z)
    refine hsp w _ a ns hlen (fun _ => Or.inl rfl) (Or.inr ⟨_, vs.toArray, _, hk, rfl, rfl, rfl, ?_, ?_⟩)
    · rw [List.size_toArray, hi.length]; omega
    · simpa using rv
  | none =>
    let ob : Obj := { cls := .type "list", data := .seq vs.toArray }
    let H : Hp := fun b => if b = a then some (.frz ob (.lst (ns.map V.int))) else none
    have at_a : ∀ b u, H b = some u → b = a ∧ u = .frz ob (.lst (ns.map V.int)) := by
      intro b u z
      by_cases hb : b = a
      · have z2 := (if_pos hb).symm.trans z
        cases z2
        exact ⟨hb, rfl⟩
      · have z2 := (if_neg hb).symm.trans z
        cases z2
    have only : Only H := by
      intro b
      by_cases hb : b = a
      · exact Or.inr ⟨ob, ns.map V.int, if_pos hb⟩
      · exact Or.inl (if_neg hb)
    refine call_at (H := H) KX G.T.g G.T.b G.T.builtins G.T.nolimit hg hobj hr hF hb ?_ only ?_ fun b u z => ⟨(at_a b u z).1, hk⟩
    · exact hsp w H a ns hlen only (Or.inl (Or.inr ⟨ob, if_pos rfl⟩))
    · intro b u z
      obtain ⟨rfl, rfl⟩ := at_a b u z
      exact ⟨hobj, hm, vs, _, rv, hobj⟩
end Ga

set_option maxRecDepth 100000
set_option maxHeartbeats 4000000
namespace Ga
open PySem PySem.Spec PyProof.Rows L2 TL

theorem same_upd {H : Hp} {p : Addr} {o : HO} (h : H p = none) : Same H (upd H p o) := fun b x e => by
  rw [upd_ne (ne_of_none e h)]; exact e
theorem _root_.L2.Same.mut {H H' : Hp} {p : Addr} {o : HO} (s : Same H H') (h : H p = none) : Same H (upd H' p o) := fun b x e => by
  rw [upd_ne (ne_of_none e h)]; exact s b x e
theorem _root_.L2.Same.lst {H H' : Hp} {p : Addr} {xs : List V} (s : Same H H') (h : H p = some (.lst xs)) : H' p = some (.lst xs) := s _ _ h
theorem _root_.L2.Same.seqT {K : PySem.W.Frag} {H H' : Hp} {a : Addr} {xs : List V} (e : Same H H') (h : SqT K H a xs) : SqT K H' a xs := by
  rcases h with (h | ⟨o, h⟩) | h
  · exact .inl (.inl (e _ _ h))
  · exact .inl (.inr ⟨o, e _ _ h⟩)
  · exact .inr h
theorem sqL {K : PySem.W.Frag} {H : Hp} {a : Addr} {xs : List V} (h : H a = some (.lst xs)) : SqL K H a xs := .inl (.inl h)
theorem sqT {K : PySem.W.Frag} {H : Hp} {a : Addr} {xs : List V} (h : H a = some (.tup xs)) : SqT K H a xs := .inl (.inl h)
theorem wipe_set (σ : L2.St) (i : Nat) (v : Option V) : wipe ((wipe σ [i]).set i v) [i] = wipe σ [i] := by
  show ((σ.set i none).set i v).set i none = σ.set i none
  rw [List.set_set, List.set_set]
theorem size_tl (z : Str) : z.cps.size = (tl z).length := by simp [tl]
theorem get_tl {z : Str} {i c : Nat} (h : z.cps[i]? = some c) : (tl z)[i]? = some c := by simpa [tl] using h
theorem take_map_succ {α : Type} {f : α → V} {l : List α} {i : Nat} {c : α} (h : l[i]? = some c) : (l.take (i + 1)).map f = (l.take i).map f ++ [f c] := by
  rw [List.take_add_one, h, List.map_append]; rfl

section
variable {K : PySem.W.Frag} {σ : L2.St} {H : Hp} {Q : VK} {te ta tb : TE}
/-- a comprehension [e for c in text] whose element is a value of the sign -/
theorem lc_str {z : Str} {i j : Nat} {f : Nat → V} (hz : (tl z).length ≤ 100000) (hj : σ[j]? = some (some (.str z)))
    (he : ∀ c ∈ tl z, ∀ (H2 : Hp) (R : VK), Same H H2 → (∀ H3, Same H2 H3 → R (f c) H3) → te ((wipe σ [i]).set i (some (.str ⟨#[c]⟩))) H2 R)
    (hq : ∀ D H', Same H H' → H D = none → H' D = some (.lst ((tl z).map f)) → Q (.ref D) H') :
    tLc (iStr (tVar j)) (gName i) tYes te [i] σ H Q := by
  refine ⟨_, hj, z, rfl, fun D nD => ?_⟩
  refine lc_it (walk_str (z := z)) (fun m H' => Same H H' ∧ H' D = some (.lst (((tl z).take m).map f))) ⟨same_upd nD, upd_same⟩ (fun _ _ _ _ => trivial) ?_ ?_
  · rintro m x H2 H3 hm ⟨s, d⟩ ⟨rfl, c, hc, rfl⟩
    have hg := get_tl hc
    refine ⟨wipe_set _ _ _, ?_⟩
    dsimp only [tYes]
    rw [if_pos rfl]
    refine he c (List.mem_of_getElem? hg) _ _ s fun H4 s4 => ?_
    refine ⟨_, s4 _ _ d, ?_, (s.trans s4).mut nD, ?_⟩
    · rw [List.length_map, List.length_take]
      exact Nat.lt_of_le_of_lt (Nat.le_trans (Nat.min_le_right _ _) hz) (by decide)
    · rw [upd_same, take_map_succ hg]
  · rintro H2 ⟨s, d⟩
    rw [size_tl, List.take_length] at d
    exact hq D _ s nD d
/-- the same over a list, a tuple -/
theorem lc_seq {xs : List V} {i : Nat} {f : V → V} {J : It} (w : Walk J xs.length (fun H' => Same H H') (YAt xs)) (hz : xs.length ≤ 100000)
    (he : ∀ c ∈ xs, ∀ (H2 : Hp) (R : VK), Same H H2 → (∀ H3, Same H2 H3 → R (f c) H3) → te ((wipe σ [i]).set i (some c)) H2 R)
    (hq : ∀ D H', Same H H' → H D = none → H' D = some (.lst (xs.map f)) → Q (.ref D) H') (D : Addr) (nD : H D = none) :
    ∃ W : Nat → Nat → Hp → Prop, (∃ m, W 0 m (upd H D (.lst []))) ∧ ∀ i' m H', W i' m H' →
      (J.stop i' H' ∧ Q (.ref D) H') ∨ (J.go i' H' ∧ ∃ Nx : Hp → Prop, (∀ H', Nx H' → ∃ m', m' < m ∧ W (i' + 1) m' H') ∧ ∀ x H2, J.yld i' H' x H2 → gName i x (wipe σ [i]) H2 fun σ2 H2 => wipe σ2 [i] = wipe σ [i] ∧ tYes σ2 H2 fun b H3 =>
        if b = true then te σ2 H3 fun y H4 => ∃ acc, H4 D = some (.lst acc) ∧ acc.length < sizeLine ∧ Nx (upd H4 D (.lst (acc ++ [y]))) else Nx H3) := by
  refine lc_it w (fun m H' => Same H H' ∧ H' D = some (.lst ((xs.take m).map f))) ⟨same_upd nD, upd_same⟩ (fun _ _ _ q => q.1) ?_ ?_
  · rintro m x H2 H3 hm ⟨s, d⟩ ⟨rfl, hg⟩
    refine ⟨wipe_set _ _ _, ?_⟩
    dsimp only [tYes]
    rw [if_pos rfl]
    refine he x (List.mem_of_getElem? hg) _ _ s fun H4 s4 => ?_
    refine ⟨_, s4 _ _ d, ?_, (s.trans s4).mut nD, ?_⟩
    · rw [List.length_map, List.length_take]
      exact Nat.lt_of_le_of_lt (Nat.le_trans (Nat.min_le_right _ _) hz) (by decide)
    · rw [upd_same, take_map_succ hg]
  · rintro H2 ⟨s, d⟩
    rw [List.take_length] at d
    exact hq D _ s nD d
theorem same_walkL {a : Addr} {xs : List V} (h : SqL K H a xs) : Walk (Itl K a) xs.length (fun H' => Same H H') (YAt xs) :=
  walk_list.mono (fun _ s => s.seq h) fun _ _ _ _ _ _ y => y
theorem same_walkT {a : Addr} {xs : List V} (h : SqT K H a xs) : Walk (Itt K a) xs.length (fun H' => Same H H') (YAt xs) :=
  walk_tup.mono (fun _ s => s.seqT h) fun _ _ _ _ _ _ y => y
/-- all([e for c in text]) -/
theorem all_str {z : Str} {i j : Nat} {p : Nat → Bool} (hz : (tl z).length ≤ 100000) (hj : σ[j]? = some (some (.str z)))
    (he : ∀ c ∈ tl z, ∀ (H2 : Hp) (R : VK), Same H H2 → (∀ H3, Same H2 H3 → R (.bl (p c)) H3) → te ((wipe σ [i]).set i (some (.str ⟨#[c]⟩))) H2 R)
    (hq : ∀ H', Same H H' → Q (.bl ((tl z).all p)) H') :
    tCB (rAll K) (tCons (tLc (iStr (tVar j)) (gName i) tYes te [i]) tNil) σ H Q := by
  show tLc (iStr (tVar j)) (gName i) tYes te [i] σ H fun x H1 => rAll K [x] H1 Q
  refine lc_str (f := fun c => .bl (p c)) hz hj he fun D H' s nD e => ?_
  refine ⟨D, (tl z).map p, rfl, sqL (by rw [e, List.map_map]; rfl), ?_⟩
  rw [List.all_map]
  exact hq _ s
/-- all([e for c in xs]), xs a list or a tuple -/
theorem all_list {a : Addr} {xs : List V} {i : Nat} {p : V → Bool} {tl0 : TE} (hl : ∀ R : VK, R (.ref a) H → tl0 σ H R) (hs : SqL K H a xs) (hz : xs.length ≤ 100000)
    (he : ∀ c ∈ xs, ∀ (H2 : Hp) (R : VK), Same H H2 → (∀ H3, Same H2 H3 → R (.bl (p c)) H3) → te ((wipe σ [i]).set i (some c)) H2 R)
    (hq : ∀ H', Same H H' → Q (.bl (xs.all p)) H') :
    tCB (rAll K) (tCons (tLc (iList K tl0) (gName i) tYes te [i]) tNil) σ H Q := by
  refine hl _ ⟨a, rfl, ⟨xs, hs⟩, fun D nD => ?_⟩
  refine lc_seq (f := fun c => .bl (p c)) (Q := fun x H1 => rAll K [x] H1 Q) (same_walkL hs) hz he (fun D H' s nD e => ?_) D nD
  refine ⟨D, xs.map p, rfl, sqL (by rw [e, List.map_map]; rfl), ?_⟩
  rw [List.all_map]
  exact hq _ s
theorem all_tup {a : Addr} {xs : List V} {i : Nat} {p : V → Bool} {tl0 : TE} (hl : ∀ R : VK, R (.ref a) H → tl0 σ H R) (hs : SqT K H a xs) (hz : xs.length ≤ 100000)
    (he : ∀ c ∈ xs, ∀ (H2 : Hp) (R : VK), Same H H2 → (∀ H3, Same H2 H3 → R (.bl (p c)) H3) → te ((wipe σ [i]).set i (some c)) H2 R)
    (hq : ∀ H', Same H H' → Q (.bl (xs.all p)) H') :
    tCB (rAll K) (tCons (tLc (iTup K tl0) (gName i) tYes te [i]) tNil) σ H Q := by
  refine hl _ ⟨a, rfl, ⟨xs, hs⟩, fun D nD => ?_⟩
  refine lc_seq (f := fun c => .bl (p c)) (Q := fun x H1 => rAll K [x] H1 Q) (same_walkT hs) hz he (fun D H' s nD e => ?_) D nD
  refine ⟨D, xs.map p, rfl, sqL (by rw [e, List.map_map]; rfl), ?_⟩
  rw [List.all_map]
  exact hq _ s
theorem var_is {i : Nat} {v : V} (h : σ[i]? = some (some v)) : ∀ R : VK, R v H → tVar i σ H R := fun R q => ⟨v, h, q⟩
end
end Ga

set_option maxRecDepth 100000
set_option maxHeartbeats 4000000
namespace Ga
open PySem PySem.Spec PyProof.Rows L2 TL
theorem spl_le (S : List Nat) : ∀ (l : List Nat) (k : Nat) (acc p : List Nat), p ∈ spl S k acc l → p.length ≤ acc.length + l.length
  | [], k, acc, p, h => by
    rw [spl_nil] at h
    cases List.mem_singleton.mp h
    exact Nat.le_add_right _ _
  | c :: r, 0, acc, p, h => by
    cases e : pre S (c :: r) with
    | true =>
      rw [spl_hit e] at h
      rcases List.mem_cons.mp h with rfl | h
      · exact Nat.le_add_right _ _
      · have := spl_le S r _ _ p h
        simp at this ⊢
        omega
    | false =>
      rw [spl_miss e] at h
      have := spl_le S r _ _ p h
      simp at this ⊢
      omega
  | c :: r, k + 1, acc, p, h => by
    have := spl_le S r k acc p h
    simp at this ⊢
    omega
theorem spl_len (S : List Nat) : ∀ (l : List Nat) (k : Nat) (acc : List Nat), (spl S k acc l).length ≤ l.length + 1
  | [], k, acc => by rw [spl_nil]; exact Nat.le_refl _
  | c :: r, 0, acc => by
    cases e : pre S (c :: r) with
    | true =>
      rw [spl_hit e]
      have := spl_len S r (S.length - 1) []
      simp
      omega
    | false =>
      rw [spl_miss e]
      have := spl_len S r 0 (acc ++ [c])
      simp
      omega
  | c :: r, k + 1, acc => by
    have := spl_len S r k acc
    show (spl S k acc r).length ≤ _
    simp
    omega
theorem spl_ne (S : List Nat) : ∀ (l : List Nat) (k : Nat) (acc : List Nat), spl S k acc l ≠ []
  | [], k, acc => by rw [spl_nil]; exact List.cons_ne_nil _ _
  | c :: r, 0, acc => by
    cases e : pre S (c :: r) with
    | true => rw [spl_hit e]; exact List.cons_ne_nil _ _
    | false => rw [spl_miss e]; exact spl_ne S r _ _
  | c :: r, k + 1, acc => spl_ne S r k acc
theorem spl_mem (S : List Nat) : ∀ (l : List Nat) (k : Nat) (acc p : List Nat), p ∈ spl S k acc l → ∀ c ∈ p, c ∈ acc ∨ c ∈ l
  | [], k, acc, p, h => by
    rw [spl_nil] at h
    cases List.mem_singleton.mp h
    exact fun c hc => .inl hc
  | d :: r, 0, acc, p, h => by
    cases e : pre S (d :: r) with
    | true =>
      rw [spl_hit e] at h
      rcases List.mem_cons.mp h with rfl | h
      · exact fun c hc => .inl hc
      · intro c hc
        rcases spl_mem S r _ _ p h c hc with h1 | h1
        · cases h1
        · exact .inr (List.mem_cons_of_mem _ h1)
    | false =>
      rw [spl_miss e] at h
      intro c hc
      rcases spl_mem S r _ _ p h c hc with h1 | h1
      · rcases List.mem_append.mp h1 with h2 | h2
        · exact .inl h2
        · cases List.mem_singleton.mp h2
          exact .inr List.mem_cons_self
      · exact .inr (List.mem_cons_of_mem _ h1)
  | d :: r, k + 1, acc, p, h => fun c hc => by
    rcases spl_mem S r k acc p h c hc with h1 | h1
    · exact .inl h1
    · exact .inr (List.mem_cons_of_mem _ h1)
abbrev sl : Str := "/"
theorem tl_sl : tl sl = [47] := by decide +kernel
theorem split_eq (x : Str) : (Txt.split x sl).map tl = spl (tl sl) 0 [] (tl x) := split_spl x sl (by rw [tl_sl]; exact List.cons_ne_nil _ _) (kind_ok (by decide +kernel))
theorem split_le {x p : Str} (h : p ∈ Txt.split x sl) : (tl p).length ≤ (tl x).length := by
  have h2 : tl p ∈ (Txt.split x sl).map tl := List.mem_map_of_mem h
  rw [split_eq] at h2
  have := spl_le _ _ _ _ _ h2
  simp at this
  omega
theorem splitLen (x : Str) : (Txt.split x sl).length ≤ (tl x).length + 1 := by
  have h := congrArg List.length (split_eq x)
  rw [List.length_map] at h
  rw [h]
  exact spl_len _ _ _ _
theorem split_ne (x : Str) : Txt.split x sl ≠ [] := fun e => by
  have h := split_eq x
  rw [e] at h
  exact spl_ne _ _ _ _ h.symm
theorem starts_pre (x y : Str) (hy : tl y ≠ []) : Txt.startswith x y = pre (tl y) (tl x) := by
  have h := at_iff (x := x) (y := y) hy 0
  rw [List.drop_zero] at h
  rw [Bool.eq_iff_iff, ← h]
  unfold Txt.startswith
  rw [Bool.and_eq_true, decide_eq_true_eq]
  exact Iff.rfl
/-- a path lies inside a place -/
def inside (path place : Str) : Bool := decide (place = "") || pre (tl (place ++ sl)) (tl path)
theorem tl_ps (place : Str) : tl (place ++ sl) = tl place ++ [47] := by rw [tl_append, tl_sl]
theorem inside_starts (path place : Str) : Txt.startswith path (place ++ sl) = pre (tl (place ++ sl)) (tl path) :=
  starts_pre _ _ (by rw [tl_ps]; simp)
theorem tl_cut (z : Str) (n : Nat) : tl (cutS z none (some (n : Int))) = (tl z).take n := by
  unfold cutS
  rw [HT.sIx_none, show HT.sIx z.length z.length (some (n : Int)) = min n z.length from HT.sIx_nat z.length z.length n, tl_mk, List.drop_zero, Nat.sub_zero]
  rw [len_tl]
  exact (List.take_eq_take_min).symm
theorem inside_cut (path place : Str) : decide (V.str (cutS path none (some ((place.length : Int) + 1))) = V.str (place ++ sl)) = pre (tl (place ++ sl)) (tl path) := by
  have e1 : ((place.length : Int) + 1) = ((place.length + 1 : Nat) : Int) := by omega
  have e2 : (tl (place ++ sl)).length = place.length + 1 := by rw [tl_ps, List.length_append, ← len_tl]; rfl
  rw [Bool.eq_iff_iff, decide_eq_true_eq, e1]
  unfold pre
  rw [e2, beq_iff_eq, ← tl_cut]
  exact ⟨fun h => by rw [V.str.inj h], fun h => by rw [ext_tl h]⟩
end Ga

set_option maxRecDepth 100000
set_option maxHeartbeats 4000000
namespace Ga
open PySem PySem.Spec PyProof.Rows L2 TL
/-- all but the object at B stays -/
def Kp (B : Addr) (H H' : Hp) : Prop := ∀ b o, b ≠ B → H b = some o → H' b = some o
theorem Kp.refl (B : Addr) (H : Hp) : Kp B H H := fun _ _ _ h => h
theorem Kp.trans {B : Addr} {H H1 H2 : Hp} (a : Kp B H H1) (b : Kp B H1 H2) : Kp B H H2 := fun c o n h => b c o n (a c o n h)
theorem Kp.same {B : Addr} {H H1 : Hp} (a : Same H H1) : Kp B H H1 := fun c o _ h => a c o h
theorem Kp.new {B l : Addr} {H H1 : Hp} {o : HO} (h : H l = none) (a : Kp B (upd H l o) H1) : Kp B H H1 := fun c u n e =>
  a c u n (by rw [upd_ne (ne_of_none e h)]; exact e)
theorem Kp.back {B l : Addr} {H H1 : Hp} {o : HO} (a : Kp B H H1) (h : H l = none) : Kp B H (upd H1 l o) := fun c u n e => by
  rw [upd_ne (ne_of_none e h)]; exact a c u n e
theorem Kp.seqL {K : PySem.W.Frag} {B a : Addr} {H H' : Hp} {xs : List V} (k : Kp B H H') (n : a ≠ B) (h : SqL K H a xs) : SqL K H' a xs := by
  rcases h with (h | ⟨o, h⟩) | h
  · exact .inl (.inl (k _ _ n h))
  · exact .inl (.inr ⟨o, k _ _ n h⟩)
  · exact .inr h
theorem Kp.seqT {K : PySem.W.Frag} {B a : Addr} {H H' : Hp} {xs : List V} (k : Kp B H H') (n : a ≠ B) (h : SqT K H a xs) : SqT K H' a xs := by
  rcases h with (h | ⟨o, h⟩) | h
  · exact .inl (.inl (k _ _ n h))
  · exact .inl (.inr ⟨o, k _ _ n h⟩)
  · exact .inr h
/-- the box of the law at B: its digits, how many are drawn -/
structure Box (H : Hp) (B D : Addr) : Prop where
  ex : ∃ (ds : List Int) (i : Int), H B = some (.lst [.ref D, .int i]) ∧ 0 ≤ i ∧ D ≠ B ∧ H D = some (.lst (ds.map V.int))
theorem Box.same {H H' : Hp} {B D : Addr} (b : Box H B D) (s : Same H H') : Box H' B D := by
  obtain ⟨ds, i, h1, h2, h3, h4⟩ := b.ex
  exact ⟨ds, i, s _ _ h1, h2, h3, s _ _ h4⟩
theorem Box.ne {H : Hp} {B D l : Addr} (b : Box H B D) (h : H l = none) : l ≠ B := fun e => by
  obtain ⟨ds, i, h1, h2, h3, h4⟩ := b.ex
  rw [← e, h] at h1
  cases h1
theorem Box.neD {H : Hp} {B D l : Addr} (b : Box H B D) (h : H l = none) : l ≠ D := fun e => by
  obtain ⟨ds, i, h1, h2, h3, h4⟩ := b.ex
  rw [← e, h] at h4
  cases h4
theorem Box.put {H : Hp} {B D l : Addr} {o : HO} (b : Box H B D) (h1 : l ≠ B) (h2 : l ≠ D) : Box (upd H l o) B D := by
  obtain ⟨ds, i, g1, g2, g3, g4⟩ := b.ex
  exact ⟨ds, i, by rw [upd_ne h1.symm]; exact g1, g2, g3, by rw [upd_ne h2.symm]; exact g4⟩
theorem Box.new {H : Hp} {B D l : Addr} {o : HO} (b : Box H B D) (h : H l = none) : Box (upd H l o) B D := b.same (same_upd h)
/-- a draw below m -/
def spDraw : Sp := fun vs H Q _ => ∃ (B D : Addr) (m : Int), vs = [.ref B, .int m] ∧ 0 < m ∧ Box H B D ∧ ∀ (r : Int) (H' : Hp), 0 ≤ r → r < m → Kp B H H' → Box H' B D → Q (.int r) H'
/-- a value out of the box -/
def spBox (R : Hp → V → Hp → Prop) : Sp := fun vs H Q _ => ∃ B D : Addr, vs = [.ref B] ∧ Box H B D ∧ ∀ (v : V) (H' : Hp), R H v H' → Kp B H H' → Box H' B D → Q v H'

/-! ### displays of constants -/
def constsOf : List Expr → Option (List V)
  | [] => some []
  | .Constant (.str z) _ _ :: r => (constsOf r).map (V.str z :: ·)
  | .Constant (.int i) _ _ :: r => (constsOf r).map (V.int i :: ·)
  | _ => none
def tVals (vs : List V) : TA := fun _ H Q => Q vs H
theorem pa_consts {X : Cx} : ∀ {es : List Expr} {vs : List V}, constsOf es = some vs → PA X es (tVals vs)
  | [], vs, h => by
    cases h
    exact pa_nil
  | .Constant (.str z) k p :: r, vs, h => by
    have h2 : (constsOf r).map (V.str z :: ·) = some vs := h
    cases e : constsOf r with
    | none => rw [e] at h2; cases h2
    | some l =>
      rw [e] at h2
      cases h2
      exact pa_cons pe_str (pa_consts e)
  | .Constant (.int i) k p :: r, vs, h => by
    have h2 : (constsOf r).map (V.int i :: ·) = some vs := h
    cases e : constsOf r with
    | none => rw [e] at h2; cases h2
    | some l =>
      rw [e] at h2
      cases h2
      exact pa_cons pe_int (pa_consts e)
/-! ### text * number -/
def rMulS : R2 := fun x y H Q => ∃ (z : Str) (n : Int), x = .str z ∧ y = .int n ∧ 0 ≤ n ∧ n ≤ 1000 ∧ (tl z).length ≤ 1000 ∧ ∀ r : Str, tl r = (List.replicate n.toNat (tl z)).flatten → Q (.str r) H
theorem flat_arr (z : Array Nat) : ∀ (n : Nat) (acc : Array Nat), ((List.replicate n z).foldl (· ++ ·) acc).toList = acc.toList ++ (List.replicate n z.toList).flatten
  | 0, acc => by simp
  | n + 1, acc => by
    rw [List.replicate_succ, List.foldl_cons, flat_arr z n, List.replicate_succ, List.flatten_cons, Array.toList_append, List.append_assoc]
theorem flat_len {α : Type} (l : List α) : ∀ n : Nat, (List.replicate n l).flatten.length = n * l.length
  | 0 => by simp
  | n + 1 => by rw [List.replicate_succ, List.flatten_cons, List.length_append, flat_len l n, Nat.succ_mul, Nat.add_comm]
theorem op_mulS {X : Cx} : OpR X (binaryOp .Mult) rMulS := by
  intro pins s σ H x y v u Q I rx ry h
  obtain ⟨z, n, rfl, rfl, h0, h1, hz, q⟩ := h
  obtain ⟨t, rfl⟩ := rx
  obtain ⟨t2, rfl⟩ := ry
  have hl : z.length = (tl z).length := len_tl z
  have e63 : (2 : Int) ^ 63 = 9223372036854775808 := by decide
  refine PySem.P.mul_str ?_ (fun a b => ?_) (fun a b => ?_) ?_
  · rw [decide_eq_false (by omega), decide_eq_false (by omega)]
    rfl
  · have : (2 ^ 63 - 1 : Int) / n ≥ (2 ^ 63 - 1 : Int) / 1000 := by
      rw [e63]
      apply Int.le_ediv_of_mul_le (by omega)
      have : (9223372036854775808 - 1 : Int) / 1000 = 9223372036854775 := by decide
      rw [this]
      have := Int.mul_le_mul_of_nonneg_left h1 (show (0 : Int) ≤ 9223372036854775 by decide)
      omega
    have e2 : (2 ^ 63 - 1 : Int) / 1000 = 9223372036854775 := by decide
    omega
  · have : z.length * n.toNat ≤ 1000 * 1000 := Nat.mul_le_mul (by omega) (by omega)
    have s1 : sizeLine = 16777216 := by decide
    exact decide_eq_false (by omega)
  · split
    · have e0 : n.toNat = 0 := by omega
      refine ⟨by decide, .str Str.empty, H, I.tok _, ⟨_, rfl⟩, q _ ?_⟩
      rw [e0]
      rfl
    · split
      · rename_i g1 g2
        refine ⟨.str z, H, I, ⟨_, rfl⟩, q z ?_⟩
        rw [Bool.or_eq_true, beq_iff_eq, beq_iff_eq] at g2
        rcases g2 with g2 | g2
        · rw [g2]
          show tl z = tl z ++ []
          rw [List.append_nil]
        · have e0 : tl z = [] := List.length_eq_zero_iff.mp (by rw [← hl]; exact g2)
          have := flat_len (tl z) n.toNat
          rw [e0] at this ⊢
          exact (List.length_eq_zero_iff.mp (by simpa using this)).symm
      · have e : tl ⟨(List.replicate n.toNat z.cps).foldl (· ++ ·) #[]⟩ = (List.replicate n.toNat (tl z)).flatten := flat_arr z.cps n.toNat #[]
        have s1 : sizeLine = 16777216 := by decide
        refine ⟨?_, .str _, H, I.tok _, ⟨_, rfl⟩, q _ e⟩
        rw [len_tl, e, flat_len]
        have : n.toNat * (tl z).length ≤ 1000 * 1000 := Nat.mul_le_mul (by omega) (by omega)
        omega
/-! ### picks out of a written list -/
section
variable {K : PySem.W.Frag} {σ : L2.St} {H : Hp} {Q : VK} {i : Nat} {B D : Addr} {n : Int} {vs : List V}
theorem draw_is (h0 : 0 < n) (hB : σ[i]? = some (some (.ref B))) (bx : Box H B D) (hq : ∀ (r : Int) (H' : Hp), 0 ≤ r → r < n → Kp B H H' → Box H' B D → Q (.int r) H') :
    tCall spDraw [] E0 (tCons (tVar i) (tCons (tC (.int n)) tNil)) σ H Q := ⟨_, hB, B, D, n, rfl, h0, bx, hq⟩
theorem pick_at {l : Addr} (hn : n = (vs.length : Int)) (h0 : 0 < n) (hl : H l = some (.lst vs)) (ne : l ≠ B) (hB : σ[i]? = some (some (.ref B))) (bx : Box H B D)
    (hq : ∀ v ∈ vs, ∀ H', Kp B H H' → Box H' B D → Q v H') :
    tCall spDraw [] E0 (tCons (tVar i) (tCons (tC (.int n)) tNil)) σ H fun y H2 => rIxL K (.ref l) y H2 Q := by
  refine draw_is h0 hB bx fun r H' r0 rn kp bx' => ?_
  have hr : r.toNat < vs.length := by omega
  have er : r = ((r.toNat : Nat) : Int) := by omega
  refine ⟨l, vs, r, vs[r.toNat], rfl, rfl, sqL (kp l _ ne hl), ?_, hq _ (List.getElem_mem hr) H' kp bx'⟩
  exact at_of er (List.getElem?_eq_getElem hr)
theorem pick (hn : n = (vs.length : Int)) (h0 : 0 < n) (hz : vs.length ≤ 1000) (hB : σ[i]? = some (some (.ref B))) (bx : Box H B D)
    (hq : ∀ v ∈ vs, ∀ H', Kp B H H' → Box H' B D → Q v H') :
    tOp (rIxL K) (tLst (tVals vs)) (tCall spDraw [] E0 (tCons (tVar i) (tCons (tC (.int n)) tNil))) σ H Q := by
  refine ⟨Nat.le_of_lt (small1000 hz), fun l nl => ?_⟩
  exact pick_at hn h0 upd_same (bx.ne nl) hB (bx.new nl) fun v hv H' kp b => hq v hv H' (kp.new nl) b
end
end Ga

set_option maxRecDepth 100000
set_option maxHeartbeats 4000000
namespace Ga
open PySem PySem.Spec PyProof.Rows L2 TL
section
variable {K : PySem.W.Frag} {σ : L2.St} {H : Hp} {Q : VK} {B Dg : Addr} {te : TE}
/-- [e for k in range(n)], e drawn out of the box -/
theorem lc_rng_box {n i : Nat} {R : V → Prop} {Qd : Hp → Prop} {D : Addr} (nD : H D = none) (bx : Box H B Dg) (hz : n ≤ 100000)
    (he : ∀ (m : Nat) (H2 : Hp) (Q2 : VK), m < n → Box H2 B Dg → Kp B H H2 → (∀ v H3, R v → Kp B H2 H3 → Box H3 B Dg → Q2 v H3) → te ((wipe σ [i]).set i (some (.int (0 + m)))) H2 Q2)
    (hq : ∀ H' vs, Kp B H H' → Box H' B Dg → H' D = some (.lst vs) → vs.length = n → (∀ v ∈ vs, R v) → Qd H') :
    ∃ W : Nat → Nat → Hp → Prop, (∃ m, W 0 m (upd H D (.lst []))) ∧ ∀ i' m H', W i' m H' →
      ((Itr 0 n).stop i' H' ∧ Qd H') ∨ ((Itr 0 n).go i' H' ∧ ∃ Nx : Hp → Prop, (∀ H', Nx H' → ∃ m', m' < m ∧ W (i' + 1) m' H') ∧ ∀ x H2, (Itr 0 n).yld i' H' x H2 → gName i x (wipe σ [i]) H2 fun σ2 H2 => wipe σ2 [i] = wipe σ [i] ∧ tYes σ2 H2 fun b H3 =>
        if b = true then te σ2 H3 fun y H4 => ∃ acc, H4 D = some (.lst acc) ∧ acc.length < sizeLine ∧ Nx (upd H4 D (.lst (acc ++ [y]))) else Nx H3) := by
  have neD : D ≠ B := bx.ne nD
  refine lc_it (walk_range (lo := 0) (n := n)) (fun m H' => Kp B H H' ∧ Box H' B Dg ∧ ∃ vs, H' D = some (.lst vs) ∧ vs.length = m ∧ ∀ v ∈ vs, R v)
    ⟨fun b o _ e => same_upd nD b o e, bx.new nD, [], upd_same, rfl, fun _ h => nomatch h⟩ (fun _ _ _ _ => trivial) ?_ ?_
  · rintro m x H2 H3 hm ⟨kp, b2, vs, hD, hl, hR⟩ ⟨rfl, rfl⟩
    refine ⟨wipe_set _ _ _, ?_⟩
    dsimp only [tYes]
    rw [if_pos rfl]
    refine he m H3 _ hm b2 kp fun v H4 rv kp4 b4 => ?_
    refine ⟨vs, kp4 _ _ neD hD, Nat.lt_of_le_of_lt (show vs.length ≤ 100000 by omega) (by decide), (kp.trans kp4).back nD, b4.put neD (bx.neD nD), vs ++ [v], upd_same, by rw [List.length_append, hl]; rfl, ?_⟩
    · intro u hu
      rcases List.mem_append.mp hu with h | h
      · exact hR u h
      · cases List.mem_singleton.mp h
        exact rv
  · rintro H2 ⟨kp, b2, vs, hD, hl, hR⟩
    exact hq H2 vs kp b2 hD hl hR
end
theorem ixL {X : Cx} {K : PySem.W.Frag} (h : X.K = K) : IxR X (rIxL K) := by
  subst h
  exact ix_list
/-! ### lists of texts as data -/
theorem canAll : ∀ l : List Str, (∀ z ∈ l, PyData.strOk z = true) → PyData.canLayAll0 (l.map PyData.str) = true
  | [], _ => rfl
  | z :: r, h => by
    show (PyData.strOk z && PyData.canLayAll0 (r.map PyData.str)) = true
    rw [h z List.mem_cons_self, canAll r fun y hy => h y (List.mem_cons_of_mem _ hy)]
    rfl
theorem depthAll0 : ∀ l : List Str, PyData.depthAll (l.map PyData.str) = 0
  | [] => rfl
  | z :: r => by
    show max 0 (PyData.depthAll (r.map PyData.str)) = 0
    rw [depthAll0 r]
    rfl
theorem shaped_strs {l : List Str} (h : ∀ z ∈ l, PyData.strOk z = true) : SeqAt.shaped (.list (l.map PyData.str)) = true := by
  unfold SeqAt.shaped
  rw [show PyData.canLay0 (.list (l.map PyData.str)) = PyData.canLayAll0 (l.map PyData.str) from rfl, canAll l h,
    show PyData.depth (.list (l.map PyData.str)) = PyData.depthAll (l.map PyData.str) + 1 from rfl, depthAll0]
  rfl
theorem dpAll_strs {K : PySem.W.Frag} {H : Hp} : ∀ l : List Str, DpAll K H (l.map V.str) (l.map PyData.str)
  | [] => .nil
  | z :: r => .cons (.str z) (dpAll_strs r)
theorem eqv_nil : ∀ l : List PyData, PyData.eqv (.list l) (.list []) = l.isEmpty
  | [] => rfl
  | _ :: _ => rfl
end Ga

set_option maxRecDepth 100000
set_option maxHeartbeats 4000000
/-! Gs: set(xs) of a list of texts, as many as there are. -/
namespace Ga
open PySem PySem.Spec PyProof.Rows L2 TL
/-- how many different ones stand among the first i -/
def cnt (xs : List Str) : Nat → Nat
  | 0 => 0
  | i + 1 => if xs.getD i Str.empty ∈ xs.take i then cnt xs i else cnt xs i + 1
theorem cnt_le (xs : List Str) : ∀ i, cnt xs i ≤ i
  | 0 => Nat.le_refl _
  | i + 1 => by
    have := cnt_le xs i
    unfold cnt
    split <;> omega
theorem getD_get {xs : List Str} {i : Nat} (h : i < xs.length) : xs.getD i Str.empty = xs[i] := by
  rw [List.getD_eq_getElem?_getD, List.getElem?_eq_getElem h]; rfl
theorem take_snoc {xs : List Str} {i : Nat} (h : i < xs.length) : xs.take (i + 1) = xs.take i ++ [xs.getD i Str.empty] := by
  rw [getD_get h, List.take_add_one, List.getElem?_eq_getElem h]; rfl
theorem cnt_nodup (xs : List Str) : ∀ i, i ≤ xs.length → (cnt xs i = i ↔ (xs.take i).Nodup)
  | 0, _ => ⟨fun _ => List.nodup_nil, fun _ => rfl⟩
  | i + 1, hi => by
    have ih := cnt_nodup xs i (by omega)
    have hle := cnt_le xs i
    rw [take_snoc hi, List.nodup_append]
    unfold cnt
    by_cases hm : xs.getD i Str.empty ∈ xs.take i
    · rw [if_pos hm]
      refine ⟨fun e => by omega, fun ⟨_, _, h⟩ => absurd rfl (h _ hm _ List.mem_cons_self)⟩
    · rw [if_neg hm]
      refine ⟨fun e => ⟨ih.mp (by omega), by simp, fun a ha b hb e2 => hm ?_⟩, fun ⟨h, _, _⟩ => by rw [ih.mpr h]⟩
      rw [← List.mem_singleton.mp hb, ← e2]
      exact ha
theorem TL_strs : ∀ {ys : List Str} {us : List Value}, Vals (ys.map V.str) us → StrsAre us ys
  | [], _, .nil => .nil
  | y :: r, _, .cons h t => by
    obtain ⟨k, rfl⟩ := h
    exact .cons y k (TL_strs t)
abbrev inTake (xs : List Str) (i : Nat) : Str → Bool := fun k => decide (k ∈ xs.take i)
section
variable {prog : Program} {w : World} {A : Around} {R : Result → Shared → Prop} {J : Addr} {fp wr : List Addr} {G : Array GenState → Array GenState → Prop}
  {n : Nat} {P : Nat → Value → Prop} {St : Nat → Shared → Prop}
theorem txt_at : ∀ {us : List Value} {xs : List Str}, StrsAre us xs → ∀ (i : Nat) (v : Value), us[i]? = some v → ∃ t, v = .str (xs.getD i Str.empty) t := by
  intro us xs h
  induction h with
  | nil => intro i v e; simp at e
  | cons x t r ih =>
    intro i v e
    cases i with
    | zero => exact ⟨t, by simp at e; rw [← e]; rfl⟩
    | succ i =>
      obtain ⟨u, q⟩ := ih i v (by simpa using e)
      exact ⟨u, q⟩
theorem upd_loop (W : WalksS prog w A.in1 J fp wr G n P St) (Z : Addr) (nf : Z ∉ fp) (xs : List Str) (hx : xs.length = n)
    (hv : ∀ i v, P i v → ∃ t, v = .str (xs.getD i Str.empty) t) (hb : n + 1 < scanBound) (m : Nat) :
    ∀ (i : Nat) (s : Shared), n - i = m → i ≤ n → St i s → s.heap.SetOf (PySem.strKind prog w) Z (inTake xs i) (cnt xs i) →
      (∀ s', Moved (Z :: wr) G s s' → s'.heap.SetOf (PySem.strKind prog w) Z (inTake xs n) (cnt xs n) → R (.ok (.ret .none)) s') →
      codeAny (model prog w) A (.builtin "set.update.loop" ⟨[.ref Z, .ref J], []⟩) R s := by
  have nw : Z ∉ wr := fun z => nf (W.sub _ z)
  have more : ∀ b ∈ wr, b ∈ Z :: wr := fun b => List.mem_cons_of_mem _
  induction m with
  | zero =>
    intro i s e1 e2 st SZ fin
    obtain rfl : i = n := by omega
    apply codeAny_builtin PyProof.Rows.F.entry_set_update_loop
    rw [Around.under_plainId PyProof.Rows.F.plain_set_update_loop]
    change wpAny _ A.in1 (pyNext (.ref J) >>= _) _ _ s
    apply wpAny_bind
    refine W.done s _ _ st fun s' mv => ?_
    refine wpAny_pure (fin s' (mv.mono more) ?_)
    obtain ⟨o, es, ep, t, ho, r⟩ := SZ
    exact ⟨o, es, ep, t, mv.heap Z _ nw ho, r⟩
  | succ m ih =>
    intro i s e1 e2 st SZ fin
    have lt : i < n := by omega
    apply codeAny_builtin PyProof.Rows.F.entry_set_update_loop
    rw [Around.under_plainId PyProof.Rows.F.plain_set_update_loop]
    change wpAny _ A.in1 (pyNext (.ref J) >>= _) _ _ s
    apply wpAny_bind
    refine W.item i s _ _ lt st fun v s' pv' st' mv => ?_
    obtain ⟨t, rfl⟩ := hv i v pv'
    have SZ' : s'.heap.SetOf (PySem.strKind prog w) Z (inTake xs i) (cnt xs i) := by
      obtain ⟨o, es, ep, tb, ho, r⟩ := SZ
      exact ⟨o, es, ep, tb, mv.heap Z _ nw ho, r⟩
    change wpAny _ A.in1 (holding [Value.str (xs.getD i Str.empty) t] (setAdd Z (.str (xs.getD i Str.empty) t)) >>= _) _ _ s'
    apply wpAny_bind
    apply wpAny_holding
    unfold setAdd
    apply wpAny_holding
    apply wpAny_bind
    refine (PySem.strKind prog w).pyHash (k := xs.getD i Str.empty) (strKind_is _ _ _ _) ?_
    have room : cnt xs i + 1 < scanBound := by have := cnt_le xs i; omega
    refine wpAny_setAddHashed_of (knd := PySem.strKind prog w) (s := { s' with toks := s'.toks + 1 }) (strKind_is _ _ _ _) rfl SZ' room fun h' sb S2 => ?_
    have S3 : h'.SetOf (PySem.strKind prog w) Z (inTake xs (i + 1)) (cnt xs (i + 1)) := by
      refine SetOf_congr S2 (fun k => ?_) ?_
      · show (decide (k ∈ xs.take i) || decide (k = xs.getD i Str.empty)) = decide (k ∈ xs.take (i + 1))
        rw [take_snoc (by omega), Bool.eq_iff_iff, Bool.or_eq_true, decide_eq_true_eq, decide_eq_true_eq, decide_eq_true_eq, List.mem_append, List.mem_singleton]
      · show (if decide (xs.getD i Str.empty ∈ xs.take i) = true then cnt xs i else cnt xs i + 1) = cnt xs (i + 1)
        simp only [decide_eq_true_eq]
        rfl
    have apart : ∀ b ∈ fp, b ≠ Z := fun b hb e => nf (e ▸ hb)
    refine wpAny_pure ⟨plainId_quiet PyProof.Rows.F.plain_set_update_loop _, ih (i + 1) _ (by omega) lt ?_ S3 fun s2 mv2 SN => ?_⟩
    · exact W.frame _ s' _ _ st' (Nat.le_succ _) fun b hb o e => (sb.2 b (apart b hb)).trans e
    · exact fin s2 (Moved.trans W.gtrans ((mv.mono more).then_heap (Nat.le_succ _) fun b o hb e => (sb.2 b fun z => hb (z ▸ List.mem_cons_self)).trans e) mv2) SN
end
section
open PyProof.Rows
variable {prog : Program} {w : World} {A : Around} {E : Value → Shared → Prop} {s : Shared}
set_option maxHeartbeats 6400000 in
/-- set(xs) -/
theorem set_txt {l : Addr} {its : Array Value} {xs : List Str} {Q : Value → Shared → Prop} (hh : A.handled = none) (hl : s.heap.IsList l its)
    (hx : StrsAre its.toList xs) (hb : its.size + 1 < scanBound)
    (fin : ∀ (h' : Heap) (tk : Nat), h'.SetOf (PySem.strKind prog w) s.heap.objs.size (inTake xs its.size) (cnt xs its.size) →
      (∀ b o, b < s.heap.objs.size → s.heap.get? b = some o → h'.get? b = some o) → Q (.ref s.heap.objs.size) { s with heap := h', toks := tk }) :
    wpAny (model prog w) A (call (.type "set") [.ref l]) Q E s := by
  obtain ⟨c0, tl0, mro0⟩ := PySem.F.called_set.mro
  have made := PySem.F.called_set.made
  have subs := PySem.F.called_set.sub
  have ntyp := PySem.F.called_set.notType
  have cans := PySem.F.called_set.canCreate
  have tcal := PySem.F.typeCall_set_1 (.ref l)
  have len : xs.length = its.size := by rw [← Array.length_toList]; exact (hx.length).symm
  apply wpAny_call
  apply codeAny_of_tree
  change wpAny _ _ (callAny (.type "set") _) _ _ _
  refine wpAny_pure ⟨Code.quiet_builtin _ (by decide +kernel), codeAny_builtin PySem.F.entry_type_call ?_⟩
  rw [Around.under_plain (weight_type_call_type "set" [.ref l] []) rfl]
  repeat (any_goals (first | assumption | wp_step))
  let Z : Addr := s.heap.objs.size
  let fresh : Bool → Obj := fun led => { cls := .type "set", dict := none, data := .set #[] 0 (.fresh 0 0 led) }
  refine codeAny_mono (code_set_new_1 (.ref l) (E := E) (Q₁ := fun ob s1 => ∃ led : Bool, ob = .ref Z ∧ s1 = { s with heap := s.heap.push (fresh led) })
    fun led => ⟨led, rfl, rfl⟩) ?_
  rintro (e | fl) s1 hr
  · exact hr
  cases fl with
  | next => exact hr.elim
  | brk => exact hr.elim
  | cont => exact hr.elim
  | ret ob =>
    obtain ⟨led, rfl, rfl⟩ := hr
    have atZ : (s.heap.push (fresh led)).get? Z = some (fresh led) := Heap.get?_push_size _ rfl
    have tyZ : Shared.TypeIs { s with heap := s.heap.push (fresh led) } (.ref Z) "set" := ⟨_, atZ, rfl⟩
    have ini := PySem.F.called_set.init.lookup
    have bnd := PySem.F.called_set.init.bind (.ref Z)
    repeat (any_goals (first | assumption | wp_step))
    refine codeAny_mono (codeAny_call_builtin (R := wants (fun r s2 => r = .none ∧ ∃ h' tk, s2 = { s with heap := h', toks := tk } ∧
        h'.SetOf (PySem.strKind prog w) Z (inTake xs its.size) (cnt xs its.size) ∧ (∀ b o, b < Z → s.heap.get? b = some o → h'.get? b = some o)) E)
      PySem.F.called_set.init.plain PySem.F.entry_set_init (check_set_init_1 tyZ ?_)) ?_
    · obtain ⟨⟨cl, dd, da, sl⟩, hol, hcl, nl, hdl⟩ := hl
      simp only at hcl hdl
      subst hcl
      subst hdl
      have hol1 : (s.heap.push (fresh led)).get? l = some { cls := .type "list", dict := dd, data := .seq its nl, slots := sl } := Heap.get?_push_of_some _ hol
      have n1 := PySem.F.sub_list_set
      have n2 := PySem.F.sub_list_frozenset
      have n3 : (Value.type "list" == Value.type "dict") = false := by decide
      have isl : (s.heap.push (fresh led)).IsList l its := ⟨_, hol1, rfl, nl, rfl⟩
      unfold Builtin.«set.__init__» noKeywords Builtin.Frozenset.updateFrom
      generalize hPI : pyIter = PI
      wp_walk
      subst hPI
      apply wpAny_pyIter_list isl
      apply wpAny_bind
      apply wpAny_runValue
      have lZ : l < Z := Heap.lt_size hol
      have size1 : (s.heap.push (fresh led)).objs.size = Z + 1 := Heap.size_push _ _
      have calm : A.in1.in1.in1.handled = none := by simp [hh]
      have neJ : l ≠ (s.heap.push (fresh led)).objs.size := by rw [size1]; exact Nat.ne_of_lt (Nat.lt_succ_of_lt lZ)
      have notin : Z ∉ [(s.heap.push (fresh led)).objs.size, l] := by
        rw [size1]
        simp only [List.mem_cons, List.not_mem_nil, or_false, not_or]
        exact ⟨Nat.ne_of_lt (Nat.lt_succ_self _), Nat.ne_of_gt lZ⟩
      refine upd_loop (Walks.list calm _ l neJ its).toS Z notin xs len (fun i v hv => txt_at hx i v (by rw [Array.getElem?_toList]; exact hv)) hb (its.size - 0) 0 _
        (by omega) (Nat.zero_le _) ⟨⟨_, Heap.get?_push_size _ rfl, rfl, rfl⟩, isl.push _⟩ ?zero ?last
      case zero =>
        have g := Heap.get?_push_of_some ({ cls := .type "list_iterator", data := .fields #[.ref l, .int 0 0] } : Obj) atZ
        exact SetOf_congr ((setObjOf_fresh (knd := PySem.strKind prog w) led).setOf g (by unfold scanBound; omega)) (fun _ => rfl) rfl
      case last =>
        rintro ⟨h', g', d', tk', os'⟩ mv SN
        obtain rfl : g' = s.gens := mv.gens
        obtain rfl : d' = s.drawn := mv.drawn
        obtain rfl : os' = s.os := mv.os
        change wpAny _ _ _ _ _ _
        apply wpAny_pure
        change wpAny _ _ (ret Value.none) _ _ _
        refine wpAny_pure ⟨rfl, h', tk', rfl, SN, fun b o hb e => mv.heap b o ?_ (Heap.get?_push_of_some _ (Heap.get?_push_of_some _ e))⟩
        simp only [List.mem_cons, List.not_mem_nil, or_false, not_or]
        rw [size1]
        exact ⟨Nat.ne_of_lt hb, Nat.ne_of_lt (Nat.lt_succ_of_lt hb)⟩
    · rintro (e | fl2) s2 hr2
      · exact hr2
      cases fl2 with
      | next => exact hr2.elim
      | brk => exact hr2.elim
      | cont => exact hr2.elim
      | ret r =>
        obtain ⟨rfl, h', tk, rfl, SN, kp⟩ := hr2
        repeat (any_goals (first | assumption | wp_step))
        exact fin _ _ SN kp
end
/-- len(set(xs)) of a list of texts -/
def tLenSetT (K : PySem.W.Frag) (ta : TE) : TE := fun σ H Q => ta σ H fun x H1 => ∃ (l : Addr) (xs : List Str), x = .ref l ∧ SqL K H1 l (xs.map V.str) ∧ xs.length ≤ 4000 ∧ Q (.int (cnt xs xs.length : Nat)) H1
theorem pe_lenSetT {X : Cx} {a : Expr} {ta : TE} {p p2 q pos : Pos} (hg : Gl X "len") (hm : X.mg "len" = none) (gs : Gl X "set") (ms : X.mg "set" = none)
    (ha : PE X a ta) (hc : X.calm = true := by rfl) (na : starEach [a] X.env = (false, eval a X.env) :: starEach [] X.env := by rfl) :
    PE X (.Call (.Name "len" p) [.Call (.Name "set" p2) [a] [] q] [] pos) (tLenSetT X.K ta) := by
  refine ⟨fun pins s σ H Q I h => Call_ (ld_blt I hg hm boot_len ?_)⟩
  refine callWith_builtin1 (args_cons (Call_ (ld_blt I gs ms boot_set ?_)) rfl) rfl rfl
  refine callWith_type1 (args_cons (thn (ha.run pins s σ H _ I h) ?_) na) na rfl
  rintro v s1 ⟨x, H1, I1, r1, l, xs, rfl, hq, hl, q1⟩
  apply args_nil
  cases r1
  obtain ⟨its, r, pl, hz⟩ := I1.list hq
  have size : its.toArray.size = xs.length := by rw [List.size_toArray, ← r.length, List.length_map]
  refine set_txt (I1.ok.hd hc) pl.isList (by simpa using TL_strs r) (by rw [size]; unfold scanBound; omega) fun h' tk hS hk => ?_
  apply args_nil
  rw [size] at hS
  obtain ⟨o, es, ep, t, ho, hex, hd, _, _, _, hf, hn⟩ := hS
  have I2 : Inv X pins σ H1 { s1 with heap := h', toks := tk } := I1.kept fun b o e => hk b o (Heap.lt_size e) e
  have := cnt_le xs xs.length
  exact call_len_set ho hex hd hf (by rw [hn]; omega) ⟨.int (cnt xs xs.length : Nat), H1, I2.tok _, ⟨_, by rw [hn]⟩, q1⟩
end Ga

set_option maxRecDepth 100000
set_option maxHeartbeats 4000000
/-! Gt: rows of (path, lines), comprehensions over them, tables of them. -/
namespace Ga
open PySem PySem.Spec PyProof.Rows L2 TL
/-- all tuples stay -/
def SameT (H H' : Hp) : Prop := ∀ b xs, (H b = some (.tup xs) → H' b = some (.tup xs)) ∧ ∀ o, H b = some (.frz o (.tup xs)) → H' b = some (.frz o (.tup xs))
theorem SameT.refl (H : Hp) : SameT H H := fun _ _ => ⟨id, fun _ => id⟩
theorem SameT.trans {H H1 H2 : Hp} (a : SameT H H1) (b : SameT H1 H2) : SameT H H2 := fun c xs => ⟨fun h => (b c xs).1 ((a c xs).1 h), fun o h => (b c xs).2 o ((a c xs).2 o h)⟩
theorem _root_.L2.Same.t {H H' : Hp} (s : Same H H') : SameT H H' := fun b xs => ⟨fun h => s _ _ h, fun o h => s _ _ h⟩
/-- what is written here is no tuple -/
def NoTup : HO → Bool
  | .tup _ => false
  | .frz _ (.tup _) => false
  | _ => true
theorem SameT.put {H : Hp} {a : Addr} {u v : HO} (h : H a = some u) (n : NoTup u = true) : SameT H (upd H a v) := fun b xs => by
  refine ⟨fun e => ?_, fun o e => ?_⟩
  all_goals
    have ne : b ≠ a := fun z => by
      subst z
      rw [h] at e
      cases e
      cases n
    rw [upd_ne ne]
    exact e
theorem SameT.new {H : Hp} {a : Addr} {v : HO} (h : H a = none) : SameT H (upd H a v) := (same_upd h).t
theorem SameT.box {H H' : Hp} {B D : Addr} (k : Kp B H H') (bx : Box H B D) : SameT H H' := fun b xs => by
  obtain ⟨ds, i, h1, _⟩ := bx.ex
  refine ⟨fun e => ?_, fun o e => ?_⟩
  all_goals
    refine k b _ (fun z => ?_) e
    rw [z, h1] at e
    cases e
section
variable {K : PySem.W.Frag} {H H' : Hp}
theorem SameT.sq {a : Addr} {xs : List V} (e : SameT H H') (h : SqT K H a xs) : SqT K H' a xs := by
  rcases h with (h | ⟨o, h⟩) | h
  · exact .inl (.inl ((e a xs).1 h))
  · exact .inl (.inr ⟨o, (e a xs).2 o h⟩)
  · exact .inr h
abbrev File := Str × List Str
/-- the lines of a file, a tuple of texts -/
def LinesAt (K : PySem.W.Frag) (H : Hp) (v : V) (l : List Str) : Prop := ∃ a, v = .ref a ∧ SqT K H a (l.map V.str)
/-- a row: (path, lines) -/
def RowAt (K : PySem.W.Frag) (H : Hp) (v : V) (f : File) : Prop := ∃ t w, v = .ref t ∧ SqT K H t [.str f.1, w] ∧ LinesAt K H w f.2
theorem LinesAt.st {v : V} {l : List Str} (h : LinesAt K H v l) (e : SameT H H') : LinesAt K H' v l := by
  obtain ⟨a, rfl, h⟩ := h
  exact ⟨a, rfl, e.sq h⟩
theorem RowAt.st {v : V} {f : File} (h : RowAt K H v f) (e : SameT H H') : RowAt K H' v f := by
  obtain ⟨t, w, rfl, h, l⟩ := h
  exact ⟨t, w, rfl, e.sq h, l.st e⟩
def dL (l : List Str) : PyData := .tuple (l.map PyData.str)
def dF (f : File) : PyData := .tuple [.str f.1, dL f.2]
theorem LinesAt.dp {v : V} {l : List Str} (h : LinesAt K H v l) : Dp K H v (dL l) := by
  obtain ⟨a, rfl, h⟩ := h
  exact .tup h (dpAll_strs l)
theorem RowAt.dp {v : V} {f : File} (h : RowAt K H v f) : Dp K H v (dF f) := by
  obtain ⟨t, w, rfl, h, l⟩ := h
  exact .tup h (.cons (.str _) (.cons l.dp .nil))
abbrev RowsAt (K : PySem.W.Frag) (H : Hp) (vs : List V) (fs : List File) : Prop := Paired (RowAt K H) vs fs
theorem RowsAt.dp {vs : List V} {fs : List File} (h : RowsAt K H vs fs) : DpAll K H vs (fs.map dF) := by
  induction h with
  | nil => exact .nil
  | cons a _ ih => exact .cons a.dp ih
theorem RowsAt.st {vs : List V} {fs : List File} (h : RowsAt K H vs fs) (e : SameT H H') : RowsAt K H' vs fs := h.mono fun _ _ r => r.st e
theorem paired_get {α β : Type} {F : α → β → Prop} : ∀ {l : List α} {m : List β}, Paired F l m → ∀ (i : Nat) (a : α), l[i]? = some a → ∃ b, m[i]? = some b ∧ F a b
  | _, _, .nil, i, a, e => by simp at e
  | _, _, .cons h t, 0, a, e => by
    cases e
    exact ⟨_, rfl, h⟩
  | _, _, .cons h t, i + 1, a, e => paired_get t i a (by simpa using e)
theorem paired_get2 {α β : Type} {F : α → β → Prop} : ∀ {l : List α} {m : List β}, Paired F l m → ∀ (i : Nat) (b : β), m[i]? = some b → ∃ a, l[i]? = some a ∧ F a b
  | _, _, .nil, i, a, e => by simp at e
  | _, _, .cons h t, 0, a, e => by
    cases e
    exact ⟨_, rfl, h⟩
  | _, _, .cons h t, i + 1, a, e => paired_get2 t i a (by simpa using e)
theorem paired_mem {α β : Type} {F : α → β → Prop} {l : List α} {m : List β} (h : Paired F l m) {a : α} (e : a ∈ l) : ∃ b ∈ m, F a b := by
  obtain ⟨i, hi⟩ := List.getElem?_of_mem e
  obtain ⟨b, hb, f⟩ := paired_get h i a hi
  exact ⟨b, List.mem_of_getElem? hb, f⟩
theorem paired_take {α β : Type} {F : α → β → Prop} : ∀ {l : List α} {m : List β}, Paired F l m → ∀ n, Paired F (l.take n) (m.take n)
  | _, _, .nil, n => by simp; exact .nil
  | _, _, .cons h t, 0 => .nil
  | _, _, .cons h t, n + 1 => .cons h (paired_take t n)
/-! ### comprehensions over a list or a tuple of anything -/
variable {σ : L2.St}
theorem filter_take_succ {α : Type} {p : α → Bool} {l : List α} {i : Nat} {c : α} (h : l[i]? = some c) : (l.take (i + 1)).filter p = (l.take i).filter p ++ if p c = true then [c] else [] := by
  rw [List.take_add_one, h, List.filter_append]
  cases hp : p c <;> simp [hp]
theorem lc_rel {α : Type} {J : It} {xs : List V} {as : List α} {g : TG} {tt : TT} {te : TE} {vs : List Nat} {R : Hp → α → V → Prop} {p : α → Bool} {Qd : Hp → Prop} {D : Addr} (nD : H D = none) (w : Walk J xs.length (fun H' => Same H H') (YAt xs)) (hal : xs.length = as.length) (hz : xs.length ≤ 100000)
    (hR : ∀ {H1 H2 : Hp} {c : α} {y : V}, SameT H1 H2 → R H1 c y → R H2 c y)
    (he : ∀ (i : Nat) (c : V) (a : α), xs[i]? = some c → as[i]? = some a → ∀ (H2 : Hp) (Rk : VK) (Rn : Hp → Prop), Same H H2 → (∀ y H3, p a = true → Same H2 H3 → R H3 a y → Rk y H3) → (∀ H3, p a = false → Same H2 H3 → Rn H3) →
      g c (wipe σ vs) H2 fun σ2 H3 => wipe σ2 vs = wipe σ vs ∧ tt σ2 H3 fun b H4 => if b = true then te σ2 H4 Rk else Rn H4)
    (hq : ∀ H' ys, Same H H' → H' D = some (.lst ys) → Paired (R H') (as.filter p) ys → Qd H') :
    ∃ W : Nat → Nat → Hp → Prop, (∃ m, W 0 m (upd H D (.lst []))) ∧ ∀ i' m H', W i' m H' →
      (J.stop i' H' ∧ Qd H') ∨ (J.go i' H' ∧ ∃ Nx : Hp → Prop, (∀ H', Nx H' → ∃ m', m' < m ∧ W (i' + 1) m' H') ∧ ∀ x H2, J.yld i' H' x H2 → g x (wipe σ vs) H2 fun σ2 H2 => wipe σ2 vs = wipe σ vs ∧ tt σ2 H2 fun b H3 =>
        if b = true then te σ2 H3 fun y H4 => ∃ acc, H4 D = some (.lst acc) ∧ acc.length < sizeLine ∧ Nx (upd H4 D (.lst (acc ++ [y]))) else Nx H3) := by
  refine lc_it w (fun m H' => Same H H' ∧ ∃ ys, H' D = some (.lst ys) ∧ Paired (R H') ((as.take m).filter p) ys) ⟨same_upd nD, [], upd_same, by simp; exact .nil⟩ (fun _ _ _ q => q.1) ?_ ?_
  · rintro m x H2 H3 hm ⟨s, ys, d, pr⟩ ⟨rfl, hg⟩
    obtain ⟨a, ha⟩ : ∃ a, as[m]? = some a := ⟨_, List.getElem?_eq_getElem (by omega)⟩
    refine he m x a hg ha H3 _ _ s (fun y H4 px s4 r => ?_) (fun H4 px s4 => ?_)
    · refine ⟨ys, s4 _ _ d, ?_, (s.trans s4).mut nD, ys ++ [y], upd_same, ?_⟩
      · rw [← pr.length]
        refine Nat.lt_of_le_of_lt (Nat.le_trans (List.length_filter_le _ _) (Nat.le_trans ?_ hz)) (by decide)
        rw [List.length_take, hal]
        exact Nat.min_le_right _ _
      · rw [filter_take_succ ha, if_pos px]
        have st : SameT H4 (upd H4 D (.lst (ys ++ [y]))) := .put (s4 _ _ d) rfl
        exact Paired.snoc (pr.mono fun _ _ q => hR (s4.t.trans st) q) (hR st r)
    · refine ⟨s.trans s4, ys, s4 _ _ d, ?_⟩
      rw [filter_take_succ ha, px, if_neg Bool.false_ne_true, List.append_nil]
      exact pr.mono fun _ _ q => hR s4.t q
  · rintro H2 ⟨s, ys, d, pr⟩
    rw [hal, List.take_length] at pr
    exact hq H2 ys s d pr
/-- {k: v for target in tuple or list} : keys are texts of R -/
theorem dc_rel {α : Type} {J : It} {xs : List V} {as : List α} {g : TG} {tt : TT} {tk tv : TE} {vs : List Nat} {R : Hp → α → Key × V → Prop} {p : α → Bool} {Qd : Hp → Prop} {D : Addr} (nD : H D = none) (w : Walk J xs.length (fun H' => Same H H') (YAt xs)) (hal : xs.length = as.length) (hz : xs.length ≤ 100000)
    (hR : ∀ {H1 H2 : Hp} {c : α} {y : Key × V}, SameT H1 H2 → R H1 c y → R H2 c y) (ky : α → Key) (hky : ∀ {H1 : Hp} {c : α} {y : Key × V}, R H1 c y → y.1 = ky c) (hnd : ((as.filter p).map ky).Nodup)
    (he : ∀ (i : Nat) (c : V) (a : α), xs[i]? = some c → as[i]? = some a → ∀ (H2 : Hp) (Rk : V → V → Hp → Prop) (Rn : Hp → Prop), Same H H2 → (∀ y H3, p a = true → Same H2 H3 → R H3 a y → Rk (kV y.1) y.2 H3) → (∀ H3, p a = false → Same H2 H3 → Rn H3) →
      g c (wipe σ vs) H2 fun σ2 H3 => wipe σ2 vs = wipe σ vs ∧ tt σ2 H3 fun b H4 => if b = true then tk σ2 H4 fun y H5 => tv σ2 H5 fun z H6 => Rk y z H6 else Rn H4)
    (hq : ∀ H' ys, Same H H' → H' D = some (.dK ys) → Paired (R H') (as.filter p) ys → Qd H') :
    ∃ W : Nat → Nat → Hp → Prop, (∃ m, W 0 m (upd H D (.dK []))) ∧ ∀ i' m H', W i' m H' →
      (J.stop i' H' ∧ Qd H') ∨ (J.go i' H' ∧ ∃ Nx : Hp → Prop, (∀ H', Nx H' → ∃ m', m' < m ∧ W (i' + 1) m' H') ∧ ∀ x H2, J.yld i' H' x H2 → g x (wipe σ vs) H2 fun σ2 H2 => wipe σ2 vs = wipe σ vs ∧ tt σ2 H2 fun b H3 =>
        if b = true then tk σ2 H3 fun y H4 => tv σ2 H4 fun z H5 => ∃ kvs k, y = kV k ∧ H5 D = some (.dK kvs) ∧ kvs.length < sizeLine ∧ Nx (upd H5 D (.dK (putK kvs k z))) else Nx H3) := by
  have keyOf : ∀ {H1 : Hp} {l : List α} {ys : List (Key × V)}, Paired (R H1) l ys → ys.map (·.1) = l.map ky := by
    intro H1 l ys h
    induction h with
    | nil => rfl
    | cons a _ ih => rw [List.map_cons, List.map_cons, ih, hky a]
  refine ⟨fun i m H' => m = xs.length - i ∧ i ≤ xs.length ∧ Same H H' ∧ ∃ ys, H' D = some (.dK ys) ∧ Paired (R H') ((as.take i).filter p) ys, ⟨xs.length, by simp, Nat.zero_le _, same_upd nD, [], upd_same, by simp; exact .nil⟩, ?_⟩
  rintro i m H2 ⟨rfl, hi, s, ys, d, pr⟩
  by_cases hlt : i < xs.length
  · refine .inr ⟨w.goes i H2 hlt s, fun H' => i + 1 ≤ xs.length ∧ Same H H' ∧ ∃ ys, H' D = some (.dK ys) ∧ Paired (R H') ((as.take (i + 1)).filter p) ys, fun H' q => ⟨xs.length - (i + 1), by omega, rfl, q.1, q.2⟩, fun x H3 y => ?_⟩
    obtain ⟨rfl, hg⟩ := w.yields i H2 x H3 hlt s y
    obtain ⟨a, ha⟩ : ∃ a, as[i]? = some a := ⟨_, List.getElem?_eq_getElem (by omega)⟩
    refine he i x a hg ha H3 (fun a b H5 => ∃ kvs k, a = kV k ∧ H5 D = some (.dK kvs) ∧ kvs.length < sizeLine ∧ _) _ s (fun y H4 px s4 r => ?_) (fun H4 px s4 => ?_)
    · have hl : ys.length ≤ i := by
        rw [← pr.length]
        refine Nat.le_trans (List.length_filter_le _ _) ?_
        rw [List.length_take]
        exact Nat.min_le_left _ _
      have hn : valV ys y.1 = none := by
        cases e : valV ys y.1 with
        | none => rfl
        | some v =>
          have m1 := valV_in e
          rw [keyOf pr, hky r] at m1
          exfalso
          have nd2 : (((as.take (i + 1)).filter p).map ky).Nodup := hnd.sublist (List.Sublist.map ky (List.Sublist.filter p (List.take_sublist _ _)))
          rw [filter_take_succ ha, if_pos px, List.map_append, List.nodup_append] at nd2
          exact nd2.2.2 _ m1 _ (List.mem_singleton.mpr rfl) rfl
      refine ⟨ys, y.1, rfl, s4 _ _ d, Nat.lt_of_le_of_lt (Nat.le_trans hl (Nat.le_trans hi hz)) (by decide), hlt, (s.trans s4).mut nD, ys ++ [y], ?_, ?_⟩
      · rw [upd_same, putK_new _ hn]
      · rw [filter_take_succ ha, if_pos px]
        have st : SameT H4 (upd H4 D (.dK (putK ys y.1 y.2))) := .put (s4 _ _ d) rfl
        exact Paired.snoc (pr.mono fun _ _ q => hR (s4.t.trans st) q) (hR st r)
    · refine ⟨hlt, s.trans s4, ys, s4 _ _ d, ?_⟩
      rw [filter_take_succ ha, px, if_neg Bool.false_ne_true, List.append_nil]
      exact pr.mono fun _ _ q => hR s4.t q
  · have e : i = xs.length := by omega
    rw [e, hal, List.take_length] at pr
    exact .inl ⟨e ▸ w.stops H2 s, hq H2 ys s d pr⟩
/-- [e for a in xs for b in xs], e a truth of a and b -/
theorem wipe2 {i j : Nat} {v : Option V} (ij : i ≠ j) : wipe ((wipe σ [i, j]).set i v) [i, j] = wipe σ [i, j] := by
  show ((((σ.set j none).set i none).set i v).set j none).set i none = (σ.set j none).set i none
  rw [List.set_set, List.set_comm _ _ ij, List.set_set, List.set_set]
theorem lc2_bl {J J1 : It} {xs : List V} {wi1 : TI} {te : TE} {i j : Nat} {p : V → V → Bool} {Qd : Hp → Prop} {D : Addr} (nD : H D = none) (w : Walk J xs.length (fun H' => Same H H') (YAt xs)) (w1 : Walk J1 xs.length (fun H' => Same H H') (YAt xs)) (hz : xs.length ≤ 300) (ij : i ≠ j)
    (hi : ∀ (c : V) (H2 : Hp) (R : It → Hp → Prop), c ∈ xs → Same H H2 → R J1 H2 → wi1 ((wipe σ [i, j]).set i (some c)) H2 R)
    (he : ∀ a ∈ xs, ∀ b ∈ xs, ∀ (H2 : Hp) (R : VK), Same H H2 → (∀ H3, Same H2 H3 → R (.bl (p a b)) H3) → te ((wipe ((wipe σ [i, j]).set i (some a)) [j]).set j (some b)) H2 R)
    (hq : ∀ H', Same H H' → H' D = some (.lst ((xs.flatMap fun a => xs.map fun b => p a b).map V.bl)) → Qd H') :
    ∃ W : Nat → Nat → Hp → Prop, (∃ m, W 0 m (upd H D (.lst []))) ∧ ∀ i' m H', W i' m H' →
      (J.stop i' H' ∧ Qd H') ∨ (J.go i' H' ∧ ∃ Nx : Hp → Prop, (∀ H', Nx H' → ∃ m', m' < m ∧ W (i' + 1) m' H') ∧ ∀ x H2, J.yld i' H' x H2 → gName i x (wipe σ [i, j]) H2 fun σ2 H2 => wipe σ2 [i, j] = wipe σ [i, j] ∧ tYes σ2 H2 fun b H3 =>
        if b = true then wi1 σ2 H3 fun J1 H4 => ∃ W1 : Nat → Nat → Hp → Prop, (∃ m, W1 0 m H4) ∧ ∀ j' k H, W1 j' k H →
          (J1.stop j' H ∧ Nx H) ∨ (J1.go j' H ∧ ∃ Nx1 : Hp → Prop, (∀ H', Nx1 H' → ∃ k', k' < k ∧ W1 (j' + 1) k' H') ∧ ∀ x H', J1.yld j' H x H' → gName j x (wipe σ2 [j]) H' fun σ3 H5 => wipe σ3 [j] = wipe σ2 [j] ∧ tYes σ3 H5 fun b H6 =>
            if b = true then te σ3 H6 fun y H7 => ∃ acc, H7 D = some (.lst acc) ∧ acc.length < sizeLine ∧ Nx1 (upd H7 D (.lst (acc ++ [y]))) else Nx1 H6)
        else Nx H3) := by
  let row : V → List V := fun a => xs.map fun b => .bl (p a b)
  have lenRow : ∀ l : List V, (l.flatMap row).length = l.length * xs.length := by
    intro l
    induction l with
    | nil => simp
    | cons a r ih =>
      rw [List.flatMap_cons, List.length_append, ih, List.length_cons, Nat.succ_mul, Nat.add_comm]
      simp [row]
  refine ⟨fun a m H' => m = xs.length - a ∧ a ≤ xs.length ∧ Same H H' ∧ H' D = some (.lst ((xs.take a).flatMap row)), ⟨xs.length, by simp, Nat.zero_le _, same_upd nD, by rw [upd_same]; rfl⟩, ?_⟩
  rintro a m H2 ⟨rfl, ha, s, d⟩
  by_cases hlt : a < xs.length
  · refine .inr ⟨w.goes a H2 hlt s, fun H' => a + 1 ≤ xs.length ∧ Same H H' ∧ H' D = some (.lst ((xs.take (a + 1)).flatMap row)), fun H' q => ⟨xs.length - (a + 1), by omega, rfl, q.1, q.2⟩, fun x H3 y => ?_⟩
    obtain ⟨rfl, hg⟩ := w.yields a H2 x H3 hlt s y
    have hx := List.mem_of_getElem? hg
    refine ⟨?_, ?_⟩
    · exact wipe2 ij
    · dsimp only [tYes]
      rw [if_pos rfl]
      refine hi x H3 _ hx s ⟨fun b k H' => k = xs.length - b ∧ b ≤ xs.length ∧ Same H H' ∧ H' D = some (.lst ((xs.take a).flatMap row ++ (xs.take b).map fun c => .bl (p x c))), ⟨xs.length, by simp, Nat.zero_le _, s, by rw [d]; simp⟩, ?_⟩
      rintro b k H4 ⟨rfl, hb, s4, d4⟩
      by_cases hlb : b < xs.length
      · refine .inr ⟨w1.goes b H4 hlb s4, fun H' => b + 1 ≤ xs.length ∧ Same H H' ∧ H' D = some (.lst ((xs.take a).flatMap row ++ (xs.take (b + 1)).map fun c => .bl (p x c))), fun H' q => ⟨xs.length - (b + 1), by omega, rfl, q.1, q.2⟩, fun z H5 y5 => ?_⟩
        obtain ⟨rfl, hg5⟩ := w1.yields b H4 z H5 hlb s4 y5
        refine ⟨wipe_set _ _ _, ?_⟩
        dsimp only [tYes]
        rw [if_pos rfl]
        refine he x hx z (List.mem_of_getElem? hg5) H5 _ s4 fun H6 s6 => ?_
        refine ⟨_, s6 _ _ d4, ?_, hlb, (s4.trans s6).mut nD, ?_⟩
        · rw [List.length_append, lenRow, List.length_map, List.length_take, List.length_take]
          have h1 : min a xs.length ≤ 300 := Nat.le_trans (Nat.min_le_right _ _) hz
          have h2 : min b xs.length ≤ 300 := Nat.le_trans (Nat.min_le_right _ _) hz
          have h3 : min a xs.length * xs.length ≤ 300 * 300 := Nat.mul_le_mul h1 hz
          have : sizeLine = 16777216 := by decide
          omega
        · rw [upd_same, List.append_assoc, take_map_succ (f := fun c => V.bl (p x c)) hg5]
      · have e : b = xs.length := by omega
        subst e
        refine .inl ⟨w1.stops H4 s4, hlt, s4, ?_⟩
        rw [d4, List.take_add_one, hg, List.take_length, List.flatMap_append]
        simp [row]
  · have e : a = xs.length := by omega
    subst e
    rw [List.take_length] at d
    refine .inl ⟨w.stops H2 s, hq H2 s ?_⟩
    rw [d, List.map_flatMap]
    simp [row, Function.comp_def]
end
section
variable {X : Cx} {K : PySem.W.Frag}
theorem piL (h : X.K = K) {tg l : Expr} {tl : TE} (hl : PE X l tl) : PI X tg l (iList K tl) := by
  subst h
  exact pi_list hl
theorem piT (h : X.K = K) {tg l : Expr} {tl : TE} (hl : PE X l tl) : PI X tg l (iTup K tl) := by
  subst h
  exact pi_tup hl
theorem peF (h : X.K = K) {e : Expr} {f : Str} {ta : TE} {pos : Pos} (he : PE X e ta) (hb : attributeBase e f X.env (eval e X.env) = eval e X.env := by rfl) : PE X (.Attribute e f pos) (tFld K ta f) := by
  subst h
  exact pe_fld he hb
theorem pgT (h : X.K = K) {es : List Expr} {k : Nat} {t : TGs} {n : Nat} {pos : Pos} (hc : X.calm = true) (hg : PGs X es t)
    (hn : (assignEach es X.env).length = n := by rfl) (hst : (assignEach es X.env).findIdx? (·.1) = none := by rfl) : PG X (.Tuple es k pos) (gTup K n t) := by
  subst h
  exact pg_tup hc hg hn hst
theorem ixT (h : X.K = K) : IxR X (rIxT K) := by
  subst h
  exact ix_tup
/-- tuple(xs) -/
def rTupOf (K : PySem.W.Frag) : List V → Hp → VK → Prop := fun xs H Q => ∃ p ys, xs = [.ref p] ∧ ((SqL K H p ys ∧ ∀ l, H l = none → Q (.ref l) (upd H l (.tup ys))) ∨ (SqT K H p ys ∧ Q (.ref p) H))
theorem callTup (h : X.K = K) : CallR X (.type "tuple") (rTupOf K) := by
  subst h
  exact call_tuple_of
/-- a list or a tuple in slot i, walked -/
theorem src {H : Hp} {i : Nat} {a : Addr} {vs : List V} (h : SqL K H a vs ∨ SqT K H a vs) : ∃ (wi : TI) (J : It), (∀ (X : Cx) (tg l : Expr), X.K = K → PE X l (tVar i) → PI X tg l wi) ∧
    (∀ (σ : L2.St) (H2 : Hp) (R : It → Hp → Prop), Same H H2 → σ[i]? = some (some (.ref a)) → R J H2 → wi σ H2 R) ∧ ∀ H2, Same H H2 → Walk J vs.length (fun H' => Same H2 H') (YAt vs) := by
  rcases h with h | h
  · exact ⟨iList K (tVar i), Itl K a, fun X tg l e p => piL e p, fun σ H2 R s e r => ⟨_, e, a, rfl, ⟨_, s.seq h⟩, r⟩, fun H2 s => same_walkL (s.seq h)⟩
  · exact ⟨iTup K (tVar i), Itt K a, fun X tg l e p => piT e p, fun σ H2 R s e r => ⟨_, e, a, rfl, ⟨_, s.seqT h⟩, r⟩, fun H2 s => same_walkT (s.seqT h)⟩
/-- a comprehension over a walk -/
theorem lcR {α : Type} {H : Hp} {σ : L2.St} {Q : VK} {wi : TI} {J : It} {xs : List V} {as : List α} {g : TG} {tt : TT} {te : TE} {vs : List Nat} {R : Hp → α → V → Prop} {p : α → Bool} (hwi : ∀ R : It → Hp → Prop, R J H → wi σ H R)
    (w : Walk J xs.length (fun H' => Same H H') (YAt xs)) (hal : xs.length = as.length) (hz : xs.length ≤ 100000) (hR : ∀ {H1 H2 : Hp} {c : α} {y : V}, SameT H1 H2 → R H1 c y → R H2 c y)
    (he : ∀ (i : Nat) (c : V) (a : α), xs[i]? = some c → as[i]? = some a → ∀ (H2 : Hp) (Rk : VK) (Rn : Hp → Prop), Same H H2 → (∀ y H3, p a = true → Same H2 H3 → R H3 a y → Rk y H3) → (∀ H3, p a = false → Same H2 H3 → Rn H3) →
      g c (wipe σ vs) H2 fun σ2 H3 => wipe σ2 vs = wipe σ vs ∧ tt σ2 H3 fun b H4 => if b = true then te σ2 H4 Rk else Rn H4)
    (hq : ∀ D H' ys, Same H H' → H D = none → H' D = some (.lst ys) → Paired (R H') (as.filter p) ys → Q (.ref D) H') : tLc wi g tt te vs σ H Q :=
  hwi _ fun D nD => lc_rel (R := R) (p := p) (Qd := fun H1 => Q (.ref D) H1) nD w hal hz hR he fun H' ys s d pr => hq D H' ys s nD d pr
theorem dcR {α : Type} {H : Hp} {σ : L2.St} {Q : VK} {wi : TI} {J : It} {xs : List V} {as : List α} {g : TG} {tt : TT} {tk tv : TE} {vs : List Nat} {R : Hp → α → Key × V → Prop} {p : α → Bool} (hwi : ∀ R : It → Hp → Prop, R J H → wi σ H R)
    (w : Walk J xs.length (fun H' => Same H H') (YAt xs)) (hal : xs.length = as.length) (hz : xs.length ≤ 100000)
    (hR : ∀ {H1 H2 : Hp} {c : α} {y : Key × V}, SameT H1 H2 → R H1 c y → R H2 c y) (ky : α → Key) (hky : ∀ {H1 : Hp} {c : α} {y : Key × V}, R H1 c y → y.1 = ky c) (hnd : ((as.filter p).map ky).Nodup)
    (he : ∀ (i : Nat) (c : V) (a : α), xs[i]? = some c → as[i]? = some a → ∀ (H2 : Hp) (Rk : V → V → Hp → Prop) (Rn : Hp → Prop), Same H H2 → (∀ y H3, p a = true → Same H2 H3 → R H3 a y → Rk (kV y.1) y.2 H3) → (∀ H3, p a = false → Same H2 H3 → Rn H3) →
      g c (wipe σ vs) H2 fun σ2 H3 => wipe σ2 vs = wipe σ vs ∧ tt σ2 H3 fun b H4 => if b = true then tk σ2 H4 fun y H5 => tv σ2 H5 fun z H6 => Rk y z H6 else Rn H4)
    (hq : ∀ D H' ys, Same H H' → H D = none → H' D = some (.dK ys) → Paired (R H') (as.filter p) ys → Q (.ref D) H') : tDc wi g tt tk tv vs σ H Q :=
  hwi _ fun D nD => dc_rel (R := R) (p := p) (Qd := fun H1 => Q (.ref D) H1) nD w hal hz hR ky hky hnd he fun H' ys s d pr => hq D H' ys s nD d pr
theorem filterY {α : Type} {xs : List α} : xs.filter (fun _ => true) = xs := by simp
theorem paired_map {α β : Type} {f : α → β} : ∀ {l : List α} {m : List β}, Paired (fun a b => b = f a) l m → m = l.map f
  | _, _, .nil => rfl
  | _, _, .cons h t => by rw [h, paired_map t]; rfl
/-- ... each element a value of its own -/
theorem lcF {α : Type} {H : Hp} {σ : L2.St} {Q : VK} {wi : TI} {J : It} {xs : List V} {as : List α} {g : TG} {te : TE} {vs : List Nat} {f : α → V} (hwi : ∀ R : It → Hp → Prop, R J H → wi σ H R)
    (w : Walk J xs.length (fun H' => Same H H') (YAt xs)) (hal : xs.length = as.length) (hz : xs.length ≤ 100000)
    (he : ∀ (i : Nat) (c : V) (a : α), xs[i]? = some c → as[i]? = some a → ∀ (H2 : Hp) (Rk : VK), Same H H2 → (∀ H3, Same H2 H3 → Rk (f a) H3) → g c (wipe σ vs) H2 fun σ2 H3 => wipe σ2 vs = wipe σ vs ∧ te σ2 H3 Rk)
    (hq : ∀ D H', Same H H' → H D = none → H' D = some (.lst (as.map f)) → Q (.ref D) H') : tLc wi g tYes te vs σ H Q := by
  refine lcR (R := fun _ a y => y = f a) (p := fun _ => true) hwi w hal hz (fun _ h => h) (fun i c a hc ha H2 Rk Rn s k _ => ?_) fun D H' ys s nD d pr => ?_
  · have := he i c a hc ha H2 Rk s fun H3 s3 => k _ H3 rfl s3 rfl
    exact this
  · rw [filterY] at pr
    rw [paired_map pr] at d
    exact hq D H' s nD d
theorem lcF1 {α : Type} {H : Hp} {σ : L2.St} {J : It} {xs : List V} {as : List α} {g : TG} {te : TE} {vs : List Nat} {f : α → V} {Qd : Hp → Prop} {D : Addr} (nD : H D = none)
    (w : Walk J xs.length (fun H' => Same H H') (YAt xs)) (hal : xs.length = as.length) (hz : xs.length ≤ 100000)
    (he : ∀ (i : Nat) (c : V) (a : α), xs[i]? = some c → as[i]? = some a → ∀ (H2 : Hp) (Rk : VK), Same H H2 → (∀ H3, Same H2 H3 → Rk (f a) H3) → g c (wipe σ vs) H2 fun σ2 H3 => wipe σ2 vs = wipe σ vs ∧ te σ2 H3 Rk)
    (hq : ∀ H', Same H H' → H' D = some (.lst (as.map f)) → Qd H') :
    ∃ W : Nat → Nat → Hp → Prop, (∃ m, W 0 m (upd H D (.lst []))) ∧ ∀ i' m H', W i' m H' →
      (J.stop i' H' ∧ Qd H') ∨ (J.go i' H' ∧ ∃ Nx : Hp → Prop, (∀ H', Nx H' → ∃ m', m' < m ∧ W (i' + 1) m' H') ∧ ∀ x H2, J.yld i' H' x H2 → g x (wipe σ vs) H2 fun σ2 H2 => wipe σ2 vs = wipe σ vs ∧ tYes σ2 H2 fun b H3 =>
        if b = true then te σ2 H3 fun y H4 => ∃ acc, H4 D = some (.lst acc) ∧ acc.length < sizeLine ∧ Nx (upd H4 D (.lst (acc ++ [y]))) else Nx H3) := by
  refine lc_rel (R := fun _ a y => y = f a) (p := fun _ => true) nD w hal hz (fun _ h => h) (fun i c a hc ha H2 Rk Rn s k _ => ?_) fun H' ys s d pr => ?_
  · exact he i c a hc ha H2 Rk s fun H3 s3 => k _ H3 rfl s3 rfl
  · rw [filterY] at pr
    rw [paired_map pr] at d
    exact hq H' s d
/-- for path, lines in rows: the target of a row -/
theorem g_row {H : Hp} {σ : L2.St} {i j : Nat} {c : V} {f : File} {Q : L2.St → Hp → Prop} (h : RowAt K H c f) (hq : ∀ w, LinesAt K H w f.2 → Q ((σ.set i (some (.str f.1))).set j (some w)) H) :
    gTup K 2 (gCons (gName i) (gCons (gName j) gNil)) c σ H Q := by
  obtain ⟨t, w, rfl, ht, hl⟩ := h
  exact ⟨t, _, rfl, ht, rfl, _, _, rfl, _, _, rfl, rfl, hq w hl⟩
/-- the keys of a locked dict, walked -/
theorem same_walkK {H : Hp} {d : Addr} {o : Obj} {kvs : List (Key × V)} (h : H d = some (.frz o (.dK kvs))) : Walk (Itk d o kvs) (kvs.map fun kv => kV kv.1).length (fun H' => Same H H') (YAt (kvs.map fun kv => kV kv.1)) := by
  rw [List.length_map]
  refine walk_keys.mono (fun _ s => s _ _ h) fun i H1 x H2 _ _ y => ?_
  obtain ⟨e, k, v, e1, e2⟩ := y
  exact ⟨e, by rw [List.getElem?_map, e1, e2]; rfl⟩
theorem unlock {H H' : Hp} {d : Addr} {u : HO} {od : Obj} (s : Same (upd H d (.frz od u)) H') (h : H d = some u) : Same H (upd H' d u) := fun b o e => by
  by_cases hb : b = d
  · rw [hb, upd_same, ← h, ← hb, e]
  · rw [upd_ne hb]
    exact s b o (by rw [upd_ne hb]; exact e)
theorem same_at {H H' : Hp} (s : Same H H') {b : Addr} (n : H' b = none) : H b = none := by
  cases e : H b with
  | none => rfl
  | some o => rw [s _ _ e] at n; cases n
theorem passF {X : Cx} : Passes (L2.CX X.prog X.w) X (fun _ _ _ => False) := fun _ _ _ _ _ _ _ h => by
  obtain ⟨_, _, _, _, _, _, _, _, _, _, _, _, z⟩ := h
  exact z.elim
end
end Ga

set_option maxRecDepth 100000
set_option maxHeartbeats 4000000
/-! Go: files in the order of their paths. -/
namespace Ga
open PySem PySem.Spec PyProof.Rows L2 TL
/-- x is not behind y -/
def leS (x y : Str) : Prop := ltCps y.cps.toList x.cps.toList = false
instance (x y : Str) : Decidable (leS x y) := inferInstanceAs (Decidable (_ = _))
theorem leS_iff {x y : Str} : leS x y ↔ tl x ≤ tl y := by
  unfold leS
  rw [ltCps_eq, decide_eq_false_iff_not]
  exact Iff.rfl
theorem leS_total (x y : Str) : leS x y ∨ leS y x := by
  rw [leS_iff, leS_iff]
  exact List.le_total _ _
theorem leS_trans {x y z : Str} (a : leS x y) (b : leS y z) : leS x z := by
  rw [leS_iff] at *
  exact List.le_trans a b
theorem leS_anti {x y : Str} (a : leS x y) (b : leS y x) : x = y := by
  rw [leS_iff] at *
  have e : tl x = tl y := List.le_antisymm a b
  cases x with
  | mk x =>
    cases y with
    | mk y =>
      have e2 : x.toList = y.toList := e
      rw [Array.toList_inj.mp e2]
theorem leS_refl (x : Str) : leS x x := (leS_total x x).elim id id
theorem perm_eq {α : Type} {r : α → α → Prop} (anti : ∀ a b, r a b → r b a → a = b) : ∀ {l m : List α}, l.Perm m → l.Pairwise r → m.Pairwise r → l = m
  | [], m, p, _, _ => p.nil_eq
  | a :: l, [], p, _, _ => p.symm.nil_eq.symm
  | a :: l, b :: m, p, h1, h2 => by
    have c1 := List.pairwise_cons.mp h1
    have c2 := List.pairwise_cons.mp h2
    have e : a = b := by
      have m1 : a ∈ b :: m := p.mem_iff.mp List.mem_cons_self
      have m2 : b ∈ a :: l := p.mem_iff.mpr List.mem_cons_self
      rcases List.mem_cons.mp m1 with e | m1
      · exact e
      · rcases List.mem_cons.mp m2 with e | m2
        · exact e.symm
        · exact anti _ _ (c1.1 _ m2) (c2.1 _ m1)
    subst e
    rw [perm_eq anti (List.Perm.cons_inv p) c1.2 c2.2]
theorem rising_pw : ∀ (p : Str) (l : List Str), risingS p l = true → (p :: l).Pairwise leS
  | p, [], _ => List.pairwise_singleton _ _
  | p, x :: r, h => by
    obtain ⟨h1, h2⟩ := Bool.and_eq_true_iff.mp h
    have ih := rising_pw x r h2
    have px : leS p x := by
      unfold leS
      cases e : ltCps x.cps.toList p.cps.toList with
      | false => rfl
      | true => rw [e] at h1; cases h1
    refine List.pairwise_cons.mpr ⟨fun y hy => ?_, ih⟩
    rcases List.mem_cons.mp hy with rfl | hy
    · exact px
    · exact leS_trans px ((List.pairwise_cons.mp ih).1 y hy)
theorem sorted_pw : ∀ {l : List Str}, sortedS l = true → l.Pairwise leS
  | [], _ => List.Pairwise.nil
  | x :: r, h => rising_pw x r h
/-- put in its place -/
def insF (f : File) : List File → List File
  | [] => [f]
  | g :: r => if leS f.1 g.1 then f :: g :: r else g :: insF f r
def srtF : List File → List File
  | [] => []
  | f :: r => insF f (srtF r)
theorem insF_perm (f : File) : ∀ l : List File, (insF f l).Perm (f :: l)
  | [] => List.Perm.refl _
  | g :: r => by
    unfold insF
    split
    · exact List.Perm.refl _
    · exact ((insF_perm f r).cons g).trans (List.Perm.swap f g r)
theorem srtF_perm : ∀ l : List File, (srtF l).Perm l
  | [] => List.Perm.refl _
  | f :: r => (insF_perm f (srtF r)).trans ((srtF_perm r).cons f)
abbrev leF (f g : File) : Prop := leS f.1 g.1
theorem insF_pw (f : File) : ∀ {l : List File}, l.Pairwise leF → (insF f l).Pairwise leF
  | [], _ => List.pairwise_singleton _ _
  | g :: r, h => by
    have c := List.pairwise_cons.mp h
    unfold insF
    split
    · rename_i e
      refine List.pairwise_cons.mpr ⟨fun y hy => ?_, h⟩
      rcases List.mem_cons.mp hy with rfl | hy
      · exact e
      · exact leS_trans e (c.1 y hy)
    · rename_i e
      refine List.pairwise_cons.mpr ⟨fun y hy => ?_, insF_pw f c.2⟩
      rcases List.mem_cons.mp ((insF_perm f r).mem_iff.mp hy) with rfl | hy
      · exact (leS_total _ _).resolve_left e
      · exact c.1 y hy
theorem srtF_pw : ∀ l : List File, (srtF l).Pairwise leF
  | [] => List.Pairwise.nil
  | f :: r => insF_pw f (srtF_pw r)
theorem srtF_len (l : List File) : (srtF l).length = l.length := (srtF_perm l).length_eq
/-- the one way to sort them -/
theorem sorted_is {ys : List Str} {fs : List File} (p : ys.Perm (fs.map (·.1))) (h : sortedS ys = true) : ys = (srtF fs).map (·.1) :=
  perm_eq (fun _ _ => leS_anti) (p.trans ((srtF_perm fs).symm.map _)) (sorted_pw h) (List.pairwise_map.mpr (srtF_pw fs))
theorem file_eq : ∀ {l : List File}, (l.map (·.1)).Nodup → ∀ {f g : File}, f ∈ l → g ∈ l → f.1 = g.1 → f = g := by
  intro l
  induction l with
  | nil => intro _ f g h; cases h
  | cons a l ih =>
    intro nd f g hf hg e
    have nd2 := List.nodup_cons.mp nd
    rcases List.mem_cons.mp hf with rfl | hf1
    · rcases List.mem_cons.mp hg with rfl | hg1
      · rfl
      · exact (nd2.1 (List.mem_map.mpr ⟨g, hg1, e.symm⟩)).elim
    · rcases List.mem_cons.mp hg with rfl | hg1
      · exact (nd2.1 (List.mem_map.mpr ⟨f, hf1, e⟩)).elim
      · exact ih nd2.2 hf1 hg1 e
/-- files of different paths are sorted in one way only -/
theorem sortedF_is {gs fs : List File} (p : gs.Perm fs) (nd : (fs.map (·.1)).Nodup) (h : gs.Pairwise leF) : gs = srtF fs := by
  have eqp : gs.map (·.1) = (srtF fs).map (·.1) := perm_eq (fun _ _ => leS_anti) ((p.trans (srtF_perm fs).symm).map _) (List.pairwise_map.mpr h) (List.pairwise_map.mpr (srtF_pw fs))
  have key : ∀ {f g : File}, f ∈ fs → g ∈ fs → f.1 = g.1 → f = g := fun hf hg e => file_eq nd hf hg e
  have : ∀ {l m : List File}, (∀ f ∈ l, f ∈ fs) → (∀ f ∈ m, f ∈ fs) → l.map (·.1) = m.map (·.1) → l = m := by
    intro l
    induction l with
    | nil => intro m _ _ e; cases m with | nil => rfl | cons _ _ => cases e
    | cons a l ih =>
      intro m h1 h2 e
      cases m with
      | nil => cases e
      | cons b m =>
        have e1 := List.cons.inj e
        rw [key (h1 a List.mem_cons_self) (h2 b List.mem_cons_self) e1.1, ih (fun f hf => h1 f (List.mem_cons_of_mem _ hf)) (fun f hf => h2 f (List.mem_cons_of_mem _ hf)) e1.2]
  exact this (fun f hf => p.mem_iff.mp hf) (fun f hf => (srtF_perm fs).mem_iff.mp hf) eqp
end Ga

set_option maxRecDepth 100000
set_option maxHeartbeats 4000000
/-! Gx: an own exception's __init__ that says super().__init__(..) first. -/
namespace Ga
open PySem PySem.Spec PyProof.Rows L2 TL NdefX
/-- what the top has left of such an __init__ -/
structure SupIn (P : Program) (K : PySem.W.Frag) (f C : Addr) (F : NF) (fd : FuncData) : Prop where
  ex : ∃ (oc ccl cl : Value) (od cdd cld : Option Addr) (osl ccs csl : Array (Option Value)) (doc pm ctv : Value) (vs : Array Value) (file : Str) (tf : Tok) (cc : Addr), fd = F.fd doc pm ctv ∧
    K.lookup f = some ⟨oc, od, .func (F.fd doc pm ctv), osl⟩ ∧ PySem.W.codeIn K (.ref F.c) F.qual = true ∧ K.lookup F.c = some ⟨ccl, cdd, .fields vs, ccs⟩ ∧ vs[2]? = some (.str file tf) ∧
    ((P.main.file : Str) == file) = true ∧ F.cl = [(("__class__" : Str), cc)] ∧ K.lookup cc = some ⟨cl, cld, .cell (some (.ref C)), csl⟩
/-- what the written part says of its class -/
structure SupC (K : PySem.W.Frag) (C : Addr) : Prop extends OexC K C where
  self : PySem.W.mroIn K C (.ref C) = some true
  sup : PySem.W.ks_superIn K C C "__init__" = some (some (.builtin "ValueError.__init__"))
  ve : PySem.W.subIn K (.ref C) (.type "ValueError") = some true
  any : PySem.W.nsIn K cStatics "thirdparty.any" = some none
/-- what its text says -/
structure SupT (P : Program) (F : NF) (N ps : List Str) (ar : Arg) : Prop where
  scope : NScope N ps ["__class__"] F.scope
  head : (F.params.posonlyargs ++ F.params.args).head? = some ar
  name : ps[0]? = some ar.arg
  ks : F.scope.names.lookup ("super" : Str) = some .globalImplicit
  top : (P.main.scope.names.lookup ("super" : Str)).isSome = false
section
variable {P : Program} {w : World} {K : PySem.W.Frag} {mg : Str → Option Value} {base : Heap}
theorem ok_sup {k : Nat} {f C : Addr} {F : NF} {fd : FuncData} {N ps : List Str} {sp : Sp} {ar : Arg} {e : Expr} {es : List Expr} {rest : List Stmt} {p0 p1 p2 p3 p4 : Pos}
    (SI : SupIn P K f C F fd) (SC : SupC K C) (ST : SupT P F N ps ar) (hsuper : mg "super" = none)
    (hbody : F.body = .Expr (.Call (.Attribute (.Call (.Name "super" p0) [] [] p1) "__init__" p2) (e :: es) [] p3) p4 :: rest)
    (len : ∀ vs H Q E, sp vs H Q E → vs.length = ps.length)
    (hi : ∀ L, interactive (envF F f L) = false) (hsw : ∀ L, swapsWith (.Call (.Attribute (.Call (.Name "super" p0) [] [] p1) "__init__" p2) (e :: es) [] p3) none p4.line (envF F f L) = pure false)
    (hev : ∀ L, ∃ pl : Sem Bool, eval (.Call (.Attribute (.Call (.Name "super" p0) [] [] p1) "__init__" p2) (e :: es) [] p3) (envF F f L) = (do
      let ov ← attributeBase (.Call (.Name "super" p0) [] [] p1) "__init__" (envF F f L) (eval (.Call (.Name "super" p0) [] [] p1) (envF F f L))
      standAt p2.atName
      let (f', first) ← holding [ov] (getMethod ov "__init__" pl)
      callWith p3 f' first (backTo p3 (starEach (e :: es) (envF F f L))) []))
    (he : ∀ L, starEach (e :: es) (envF F f L) = (false, eval e (envF F f L)) :: starEach es (envF F f L)) (hpl : ∀ L, (backTo p3 (starEach es (envF F f L))).any (·.1) = false)
    (hb : ∀ (A : Around) (outer : List Env) (s : Shared) (H : Hp) (vs : List V) (Q : VK) (E : XK), Room k (A.deeper (envF F f s.heap.objs.size)) → sp vs H Q E →
      ∃ (a : Addr) (tA : TA) (t : TS), vs[0]? = some (.ref a) ∧ H a = some (exo a C none) ∧ PA (ncx CX0 P w K mg base N F f A outer s H E) (e :: es) tA ∧ PSs (ncx CX0 P w K mg base N F f A outer s H E) rest t ∧
        tA (startF N vs [none]) H fun ws H1 => ws.length ≤ 1000 ∧ H1 a = some (exo a C none) ∧ t { nx := fun _ H' => Q .non H', rt := Q } (startF N vs [none]) H1) :
    FnOk P w K mg base CX0 (k + 1) f fd ps sp := by
  obtain ⟨oc, ccl, cl, od, cdd, cld, osl, ccs, csl, doc, pm, ctv, vs2, file, tf, cc, rfl, lk, hcd, lc, hvs, hfile, hcl, lcell⟩ := SI.ex
  obtain ⟨nm, qn, N', bs, bm, sn, sub, ab, col, dd, k0, k1, k2, k3, k5, hC, hbm⟩ := SC.cls
  have S := ST.scope
  refine ⟨len, fun A outer s H args us vs Q E hr e0 hbi r hsp => ?_⟩
  have hl := len _ _ _ _ hsp
  have keep : ∀ b o, base.get? b = some o → s.heap.get? b = some o := fun b o e => (e0.bs b o e).1
  have KX := e0.mod.kin.keeps keep
  have lim := e0.mod.nolimit.keeps keep
  have CC : CellsAt F.cl ["__class__"] [none] s.heap H := by
    rw [hcl]
    have one : ∀ {y : Str} {c : Addr}, List.lookup y [(("__class__" : Str), cc)] = some c → y = "__class__" ∧ c = cc := by
      intro y c e
      by_cases q : y = "__class__"
      · subst q
        simp [List.lookup] at e
        exact ⟨rfl, e.symm⟩
      · have q2 : (y == ("__class__" : Str)) = false := by simpa using q
        simp [List.lookup, q2] at e
    refine ⟨rfl, fun y c e => ?_, fun x y c e1 e2 => (one e1).1.trans (one e2).1.symm, fun i y e => ?_⟩
    · obtain ⟨rfl, rfl⟩ := one e
      exact ⟨(e0.bs _ _ (e0.mod.kin _ _ lcell)).2, _, _, KX _ _ lcell, rfl⟩
    · cases i with
      | zero =>
        cases e
        exact ⟨cc, by simp [List.lookup], fun v z => by cases z⟩
      | succ i => cases e
  refine ks_codeAny_call_defAt (fd := F.fd doc pm ctv) (body := F.body) (binds := ps.zip us) hr.depth (KX _ _ lk) rfl lim (PySem.W.codeRec_of KX hcd) rfl hbi S.nocell (fun y hy => S.par y.1 (List.of_mem_zip (a := y.1) (b := y.2) hy).1) (fun h₁ hns kp => ?_) S.co S.gen S.kind
  have I : Inv (ncx CX0 P w K mg base N F f A outer s H E) [] (startF N vs [none]) H { s with heap := h₁, toks := s.toks + (ps.zip us).length } := inv_startN S hr.hd e0 hl r CC hns kp
  obtain ⟨a, tA, t, hv0, ea, hA, hR, hq⟩ := hb A outer s H vs Q E (hr.deeper _) hsp
  show _root_.PySem.wpAt (model P w) (A.deeper (envF F f s.heap.objs.size)) (.func F.body (envF F f s.heap.objs.size)) (execs F.body (envF F f s.heap.objs.size)) _ _ _
  have X1 : K.In h₁ := I.kIn
  obtain ⟨u0, hu0, ru0⟩ := r.get hv0
  obtain rfl : u0 = Value.ref a := ru0
  have hself : (ps.zip us).reverse.lookup ar.arg = some (.ref a) := by
    have ndP : ps.Nodup := by
      have q : (ps ++ [("__class__" : Str)]).Nodup := by
        rw [← S.pre]
        exact S.nd.sublist (List.take_sublist _ N)
      exact (List.nodup_append.mp q).1
    exact zip_look ndP ST.name hu0
  have hka : F.scope.names.lookup ar.arg = some .local := S.par _ (List.mem_of_getElem? ST.name)
  have hkc : F.scope.names.lookup ("__class__" : Str) = some .free := S.frk _ (by simp)
  rw [hbody]
  obtain ⟨pl, hpl1⟩ := hev s.heap.objs.size
  refine ks_wpAt_execs_cons (ks_wpAt_Expr_any (ks_wpAt_MethodCall (pl := pl) ?_ hpl1) (hi _) (hsw _))
  refine ks_wpAt_super_base (env := envF F f s.heap.objs.size) ST.ks hkc (by decide) rfl (X1 _ _ lk) rfl ST.head rfl (X1 _ _ lc) rfl hvs hfile ST.top ?_
  obtain ⟨mb, hb1, hb2⟩ := I.mod.blt
  refine PySem.W.ks_loadName_global S.kind ST.ks (Calls.loadGlobal_builtin (env := envF F f s.heap.objs.size) (I.mod.glob.keeps I.bk) hsuper (hb1.keeps I.bk) ((hb2 _ (by decide)).trans (show bootBuiltins "super" = some (.type "super") by decide +kernel)) ⟨rfl, ?_⟩)
  refine wpAny_loadName_free S.kind hkc (c := cc) (by show F.cl.lookup _ = _; rw [hcl]; simp [List.lookup]) ⟨_, X1 _ _ lcell, rfl⟩ ?_
  refine wpAny_loadName_local S.kind hka hns hself ?_
  obtain ⟨t1, ho⟩ := exo_at I.hok ea
  have hc1 := X1 _ _ hC
  refine ks_wpAny_isType_cls hc1 rfl ⟨rfl, ?_⟩
  refine ks_wpAny_call_super hc1 rfl ho rfl (fun c z => by cases z) (PySem.W.looks_mroIn X1 SC.self) (fun h2 hso kp2 => ?_)
  have X2 : K.In h2 := X1.keeps kp2
  have I2 := I.kept (t' := s.toks + (ps.zip us).length) kp2
  have ho2 := kp2 _ _ ho
  have hsupA := SC.sup
  have I0 : PySem.W.InstAt h2 a _ C none := ⟨ho2, rfl, rfl, trivial⟩
  have hIn : PySem.W.Looks (model P w) h2 (isInstance (.ref a) (.type "ValueError")) true := I0.type.andThen (PySem.W.looks_subIn X2 SC.ve)
  have hcl1 : PySem.W.clsIn K C = some { name := nm, bases := bs, mro := .ref C :: bm, ns := N', qualname := qn, hasDict := true, slotNames := sn, subclasses := sub, abstract := ab, collection := col, hasDel := false } := by unfold PySem.W.clsIn; rw [hC] <;> rfl
  unfold PySem.W.ks_superIn at hsupA
  rw [hcl1] at hsupA
  refine PySem.W.kxs_getMethod PySem.W.kxs_ValueError hso (PySem.W.looks_opaque X2 SC.any) (l₀ := .ref C :: bm) ?_ rfl X2 hsupA hIn (PySem.W.ks_ne X2 I0 hcl1) (by decide) ?_
  · exact fun A Q E s k q => wpAny_bind ((PySem.W.looks_clsIn X2 hcl1) A _ E s k (wpAny_pure q))
  let u : Addr := h2.objs.size
  have hu : (h2.push (PySem.W.kxs_mw "ValueError.__init__" a)).get? u = some (PySem.W.kxs_mw "ValueError.__init__" a) := Heap.get?_push_at rfl rfl
  have I3 := I2.kept (h' := h2.push (PySem.W.kxs_mw "ValueError.__init__" a)) (t' := s.toks + (ps.zip us).length + 1) (fun b o z => Heap.get?_push_of_some _ z)
  have I4 : Inv (ncx CX0 P w K mg base N F f A outer s H E) [(u, PySem.W.kxs_mw "ValueError.__init__" a)] _ H _ := I3.pins_of fun p hp => by
    obtain rfl := List.mem_singleton.mp hp
    have f0 := I2.fpOk (b := u) (Nat.le_refl _) (I2.hok.fresh (Nat.le_refl _))
    exact ⟨hu, f0.1, f0.2.1, f0.2.2.1, fun v z => by cases z⟩
  show wpAny (model P w) _ (callWith p3 (.ref u) [] (backTo p3 (starEach (e :: es) (envF F f s.heap.objs.size))) []) _ _ _
  rw [he]
  refine PySem.W.kxs_callWith (i := "ValueError.__init__") (x := a) (by show (false || (backTo p3 (starEach es (envF F f s.heap.objs.size))).any (·.1)) = false; rw [hpl]; rfl) (PySem.Calls.evalArgs_plain ?_)
  have A1 := hA.run p3 _ _ _ _ _ I4 hq
  rw [show starEach (e :: es) (ncx CX0 P w K mg base N F f A outer s H E).env = _ from he _] at A1
  refine thn A1 fun ws s2 hws => ?_
  obtain ⟨vs', H1, I5, r5, hz, ea1, q⟩ := hws
  have hu5 := (I5.pin (u, PySem.W.kxs_mw "ValueError.__init__" a) (List.mem_append_right _ (List.mem_singleton.mpr rfl))).1
  refine ⟨hu5, ?_⟩
  have hlen : ws.length ≤ sizeLine := by
    rw [← r5.length, sizeLine_eq]
    omega
  obtain ⟨t2, ho5⟩ := exo_at I5.hok ea1
  have hc5 := I5.kIn _ _ hC
  obtain ⟨hh, g, d, tk, os⟩ := s2
  show wpAny _ _ (call (.ref u) ws) _ _ _
  refine wpAny_call (codeAny_of_tree ?_)
  show wpAny _ (Around.in1 _) (callAny (.ref u) ⟨ws, []⟩) _ _ _
  simp only [callAny]
  refine wpAny_bind (wpAny_load hu5 ?_)
  simp only [PySem.W.kxs_mw, show (Value.type "method-wrapper" == Value.type "method" || Value.type "method-wrapper" == Value.type "builtin_function_or_method" || Value.type "method-wrapper" == Value.type "method-wrapper") = true by decide, if_true]
  refine PySem.W.KFB.if_so (by decide) ?_
  refine wpAny_bind (PySem.W.check_bound_init PySem.F.excBase_ValueError.toExcCallFacts hc5 ho5 rfl ?_)
  refine wpAny_bind (wpAny_pure (wpAny_pure ?_))
  refine ⟨plainId_quiet PySem.F.excBase_ValueError.init.plain _, codeAny_builtin PySem.F.excBase_ValueError.initEntry ?_⟩
  refine PySem.W.exc_init_tree (cls := .ref C) (t0 := t2) (dv := none) (c2 := .none) (c3 := .none) (b4 := .bool false) ho5 hlen (fun h' k6 e6 _ => ?_)
  have J := I5.write (t' := tk) (x := a) (e := a) (o := exo a C none) (by rw [ea1]; exact True.intro) (.inl rfl) k6 ⟨_, e6⟩ (exo_ok e6)
  have eu : upd H1 a (exo a C none) = H1 := by
    funext b
    by_cases hb : b = a
    · rw [hb, upd_same, ea1]
    · rw [upd_ne hb]
  rw [eu] at J
  have J2 : Inv (ncx CX0 P w K mg base N F f A outer s H E) [] (startF N vs [none]) H1 ⟨h', g, d, tk, os⟩ := J.pins_of fun p hp => by cases hp
  refine wpAt_of_wpAny (wpAny_mono (hR.run [] _ _ H1 _ J2 q) (fun fl s' hs => ?_) fun e s' hs => hs)
  have fin : ∀ {σ' : L2.St} {H' : Hp} {v : V} {u : Value}, Inv (ncx CX0 P w K mg base N F f A outer s H E) [] σ' H' s' → L2.RelV v u → Q v H' → CE outer P w H s Q u s' :=
    fun {σ' H' v u} J rv q => ⟨v, H', J.os, J.bare, J.base, J.hok, rv, q⟩
  cases fl with
  | ret u =>
    obtain ⟨v, σ', H', J, rv, q⟩ := hs
    exact fin J rv q
  | next =>
    obtain ⟨σ', H', J, q⟩ := hs
    exact fin (v := V.non) (u := Value.none) J rfl q
  | brk =>
    obtain ⟨_, _, _, q⟩ := hs
    exact False.elim q
  | cont =>
    obtain ⟨_, _, _, q⟩ := hs
    exact False.elim q
end
end Ga

set_option maxRecDepth 100000
set_option maxHeartbeats 4000000
/-! Gy: making an instance in a try; isinstance of a caught error that has its dict. -/
namespace Ga
open PySem PySem.Spec PyProof.Rows L2 TL
def tMakeS (C : Addr) (sp : Sp) (dvs : List V) (E : L2.St → XK) (t : TA) : TE := fun σ H Q => t σ H fun vs H1 => ∀ x dx, H1 x = none → H1 dx = none → dx ≠ x → sp (.ref x :: (vs ++ dvs)) (upd (upd H1 dx (.own x)) x (.ins C dx [])) (fun v H2 => v = .non ∧ Q (.ref x) H2) (E σ)
section
variable {X : Cx} {CX : CXT} {k : Nat} {f C : Addr} {fd : FuncData} {ps : List Str} {sp : Sp} {E : L2.St → XK} {x : Str} {p pos : Pos} {e : Expr} {es : List Expr} {t : TA} {dvs : List V} {ds : List Value}
theorem pe_makeS (M : Mk X.K C f) (F : FnOk X.prog X.w X.K X.mg X.base CX k f fd ps sp) (hr : Room (k + 1) X.A) (hg : Gl X x) (hm : X.mg x = some (.ref C)) (hb : Binds X.K fd ps ds) (hd : Vals dvs ds) (hx : ∀ σ, PassesAt CX X σ (E σ))
    (ha : PA X (e :: es) t) (hdb : (x == ("__debug__" : Str)) = false := by decide) (he : starEach (e :: es) X.env = (false, eval e X.env) :: starEach es X.env := by rfl) (hpl : (backTo pos (starEach es X.env)).any (·.1) = false := by rfl) :
    PE X (.Call (.Name x p) (e :: es) [] pos) (tMakeS C sp dvs E t) := by
  refine ⟨fun pins s σ H Q I h => ?_⟩
  refine wpAny_Call_Name_kw (ld_glob I hg hm ?_ hdb)
  refine PySem.W.callWith_K (h₀ := X.base) I.ok.mod.kin M.kp (thn (ha.run pos pins s σ H _ I h) fun us s1 ⟨vs, H1, I1, r, q⟩ => ⟨I1.kIn, ?_⟩) he hpl
  have n1 : H1 (s1.heap.objs.size + 1) = none := I1.hok.fresh (Nat.le_succ _)
  have n2 : H1 s1.heap.objs.size = none := I1.hok.fresh (Nat.le_refl _)
  have asked := q _ _ n1 n2 (Nat.ne_of_lt (Nat.lt_succ_self _))
  have J := Inv.made (C := C) I1
  have vals : Vals (V.ref (s1.heap.objs.size + 1) :: (vs ++ dvs)) (Value.ref (s1.heap.objs.size + 1) :: (us ++ ds)) := .cons rfl (r.append hd)
  have len : (Value.ref (s1.heap.objs.size + 1) :: us ++ ds).length = ps.length := vals.length.symm.trans (F.len _ _ _ _ asked)
  show wpAny _ _ (call (.ref C) us) _ _ _
  refine wpAny_call (make_map (f := f) I1.kIn M.makes M.init (beq_iff_eq.mp M.fn) (codeAny_mono (F.run _ X.stack _ _ ⟨Value.ref (s1.heap.objs.size + 1) :: us, []⟩ _ _ _ (E σ) (hr.make C us [])
    (J.env0.make C us []) (hb _ (Value.ref (s1.heap.objs.size + 1) :: us) J.kIn len) vals asked) fun r s' h' => ?_))
  match r, h' with
  | .error e, h' => exact hx σ pins _ _ e s' J h'
  | .ok (.ret u), h' =>
    obtain ⟨v, H', J2, rv, ev, q3⟩ := J.after h'
    subst ev
    exact ⟨rv, V.ref (s1.heap.objs.size + 1), H', J2, rfl, q3⟩
  | .ok .next, h' => exact h'.elim
  | .ok .brk, h' => exact h'.elim
  | .ok .cont, h' => exact h'.elim
end
/-- isinstance(e, c), e the exception that the suite holds, with its dict -/
def rIsX (K : PySem.W.Frag) (a : Addr) (cls : Value) (d : Option Addr) : List V → Hp → VK → Prop := fun xs H Q => ∃ (D dd : Addr) (fs : List (Str × V)) (c : V) (cv : Value) (b : Bool), cls = .ref D ∧ d = some dd ∧ H dd = some (.xd fs) ∧ ExcC K D ∧
  xs = [.ref a, c] ∧ (∀ u, RelV c u → u = cv) ∧ PySem.W.kitOne K (.ref D) cv = some b ∧ Q (.bl b) H
theorem call_isX {X : Cx} {a : Addr} {oe : Obj} {cls : Value} {d : Option Addr} {pn : List (Addr × Obj)} (hz : Zc cls d oe) (hf : ∃ vs, oe.data = .fields vs) : CallR (X.suite a ((a, oe) :: pn)) (.builtin "isinstance") (rIsX X.K a cls d) := by
  intro pins s σ H xs us Q I r h
  obtain ⟨D, dd, fs, c, cv, b, rfl, rfl, hdd, T, rfl, hcv, e, q⟩ := h
  cases r with
  | cons rx rr =>
    cases rr with
    | cons rt rr =>
      cases rr
      cases rx
      have ec := hcv _ rt
      subst ec
      have hget := (I.pin (a, oe) (List.mem_append_left _ List.mem_cons_self)).1
      obtain ⟨vs, hv⟩ := hf
      have hx : ObjOk X.prog X.w H s.heap dd (.xd fs) := I.hok dd _ hdd
      obtain ⟨mA, hns, _⟩ := hx
      obtain ⟨od, ho, _⟩ := lookIn_ns hns
      have J : PySem.W.InstAt s.heap a oe D (some od) := ⟨hget, hz.1, by unfold PySem.W.notCls; rw [hv] <;> rfl, by rw [hz.2]; exact ho⟩
      have hcl : (PySem.W.clsIn X.K D).isSome = true := by
        obtain ⟨cd, hc, _⟩ := PySem.W.any_some T.hd
        rw [hc]
        rfl
      exact PySem.W.kia_one (PySem.W.kitx_exc hcl T.hg T.hk T.hs T.ha T.hn T.ht T.hm) I.kIn J e (fun z => nomatch z) fun tk => ⟨.bl b, H, I.kept (t' := tk) fun _ _ z => z, rfl, q⟩
end Ga

set_option maxRecDepth 100000
set_option maxHeartbeats 4000000
/-! Gz: a tuple times 0 or 1. -/
namespace Ga
open PySem PySem.Spec PyProof.Rows L2 TL
theorem mul_one (l : Addr) (items : Array Value) (n : Nat) (dd : Option Addr) (sl : Array (Option Value)) (u : Tok) :
    Meets (Builtin.«tuple.__mul__» ⟨[.ref l, .int 1 u], []⟩) (fun _ R s => s.heap.get? l = some { cls := .type "tuple", dict := dd, data := .seq items n, slots := sl } ∧ R (.ok (.ret (.ref l))) s) :=
  .of_wp fun prog w A R s h => by
    obtain ⟨hp, g, d, tk, os⟩ := s
    obtain ⟨hl, h⟩ := h
    have f1 := AutoSeq1.idx_int
    have c1 : (items.isEmpty || (1 : Int) == 1) = true := by rw [Bool.or_eq_true]; exact .inr rfl
    have ty : (⟨hp, g, d, tk, os⟩ : Shared).TypeIs (.ref l) "tuple" := ⟨_, hl, rfl⟩
    wp_walk using wpAny_loadPart' hl
    repeat (first
      | (refine wpAny_ite_true (decide_eq_true c1) ?_; wp_walk using wpAny_loadPart' hl)
      | (refine wpAny_typeOf ty ?_; wp_walk using wpAny_loadPart' hl))
    all_goals first | exact ⟨_, rfl, h⟩ | exact h | skip
theorem mul_zero (l : Addr) (items : Array Value) (n : Nat) (dd : Option Addr) (sl : Array (Option Value)) (u : Tok) (hne : items.isEmpty = false) :
    Meets (Builtin.«tuple.__mul__» ⟨[.ref l, .int 0 u], []⟩) (fun _ R s => s.heap.get? l = some { cls := .type "tuple", dict := dd, data := .seq items n, slots := sl } ∧
      R (.ok (.ret (Value.ref s.heap.objs.size))) { s with heap := s.heap.push { cls := Value.type "tuple", data := Data.seq #[] }, toks := s.toks }) :=
  .of_wp fun prog w A R s h => by
    obtain ⟨hp, g, d, tk, os⟩ := s
    obtain ⟨hl, h⟩ := h
    have f1 := AutoSeq1.idx_int
    have c1 : (items.isEmpty || (0 : Int) == 1) = false := by rw [hne]; rfl
    have c2 : (decide ((0 : Int) ≤ 0) || items.isEmpty) = true := rfl
    wp_walk using wpAny_loadPart' hl
    repeat (first
      | (refine wpAny_ite_false (decide_eq_false (by rw [c1]; exact Bool.false_ne_true)) ?_; wp_walk using wpAny_loadPart' hl)
      | (refine wpAny_ite_true (decide_eq_true c2) ?_; wp_walk using wpAny_loadPart' hl))
    all_goals first | exact ⟨_, rfl, h⟩ | exact h | skip
/-- a tuple of some items, a few times -/
def rRepS (K : PySem.W.Frag) : R2 := fun x y H Q => ∃ l k xs, x = .ref l ∧ y = .int k ∧ SqT K H l xs ∧ xs ≠ [] ∧ 0 ≤ k ∧ k ≤ 1000 ∧ xs.length ≤ 1000 ∧ ∀ p H', Same H H' → SqT K H' p (List.replicate k.toNat xs).flatten → Q (.ref p) H'
theorem op_repS {X : Cx} {K : PySem.W.Frag} (hK : X.K = K) : OpR X (binaryOp .Mult) (rRepS K) := by
  subst hK
  intro pins s σ H x y v u Q I rx ry h
  obtain ⟨l, k, xs, rfl, rfl, hT, hne, h0, h1, hz, q⟩ := h
  by_cases h2 : 2 ≤ k
  · exact op_repT pins s σ H _ _ v u Q I rx ry ⟨l, k, xs, rfl, rfl, hT, hne, h2, h1, hz, fun p np => q p _ (same_upd np) (sqT upd_same)⟩
  · cases rx
    obtain ⟨t, rfl⟩ := ry
    obtain ⟨its, r, ⟨⟨cls, dd, data, sl⟩, ho, hc, n, hd⟩, hs⟩ := I.tuple hT
    simp only at hc hd
    subst hc hd
    have hi : its.toArray.isEmpty = false := by
      cases its with
      | nil => cases r; exact absurd rfl hne
      | cons a b => rfl
    rcases (show k = 0 ∨ k = 1 by omega) with rfl | rfl
    · refine wpAny_binaryOp_repeat_ref (T := "tuple") (U := "int") (by decide) ⟨_, ho, rfl⟩ (fun s' => typeIs_int s' 0 t) noFill_tuple_mul F.fills_int_mul F.slot_int_rmul repeat_tuple F.slot_int_index.lookup
        (call_meets F.slot_int_rmul (typeIs_int s 0 t) F.entry_int_rmul (F.args_int_rmul_2 _ _) (int_rmul_tuple 0 t l its.toArray n dd sl)
          ⟨ho, rfl, ⟨_, ho, rfl⟩, call_meets F.slot_tuple_mul ⟨_, ho, rfl⟩ F.entry_tuple_mul (F.args_tuple_mul_2 _ _) (mul_zero l its.toArray n dd sl t hi) ⟨ho, ?_⟩⟩)
      have nw := I.hok.fresh (Nat.le_refl s.heap.objs.size)
      refine ⟨.ref s.heap.objs.size, _, I.laid (t' := s.toks) (o := .tup []) (fun b ob q => Heap.get?_push_of_some _ q) (Nat.le_refl _) ?_, rfl, q _ _ (same_upd nw) (sqT upd_same)⟩
      exact ⟨Nat.zero_le _, [], .nil, IsTup.new _ _⟩
    · refine wpAny_binaryOp_repeat_ref (T := "tuple") (U := "int") (by decide) ⟨_, ho, rfl⟩ (fun s' => typeIs_int s' 1 t) noFill_tuple_mul F.fills_int_mul F.slot_int_rmul repeat_tuple F.slot_int_index.lookup
        (call_meets F.slot_int_rmul (typeIs_int s 1 t) F.entry_int_rmul (F.args_int_rmul_2 _ _) (int_rmul_tuple 1 t l its.toArray n dd sl)
          ⟨ho, rfl, ⟨_, ho, rfl⟩, call_meets F.slot_tuple_mul ⟨_, ho, rfl⟩ F.entry_tuple_mul (F.args_tuple_mul_2 _ _) (mul_one l its.toArray n dd sl t) ⟨ho, ?_⟩⟩)
      refine ⟨.ref l, H, I, rfl, q l H (.refl _) ?_⟩
      have : (List.replicate (1 : Int).toNat xs).flatten = xs := by simp
      rw [this]
      exact hT
end Ga

set_option maxRecDepth 100000
set_option maxHeartbeats 4000000
/-! Gw: rows sorted: no two have the same path. -/
namespace Ga
open PySem PySem.Spec PyProof.Rows L2 TL SrtO Srt
/-- a tuple whose first item is this text -/
def RowO (h : Heap) (v : Value) (x : Str) : Prop := ∃ a o t u n, v = .ref a ∧ h.get? a = some o ∧ o.cls = .type "tuple" ∧ o.data = .seq #[.str x t, u] n
theorem RowO.keeps {h h' : Heap} {v : Value} {x : Str} (p : RowO h v x) (k : ∀ b o, h.get? b = some o → o.cls = .type "tuple" → h'.get? b = some o) : RowO h' v x := by
  obtain ⟨a, o, t, u, n, e, ho, hc, hd⟩ := p
  exact ⟨a, o, t, u, n, e, k _ _ ho hc, hc, hd⟩
abbrev ltS (x y : Str) : Bool := decide (x.cps.toList < y.cps.toList)
theorem ltS_no {x y : Str} : ltS x y = false ↔ leS y x := by
  unfold leS
  rw [ltCps_eq]
theorem swo_rows (k : Value → Str) : Swo fun v u => ltS (k v) (k u) := by
  refine ⟨fun x y h => ?_, fun x y z h1 h2 => ?_⟩
  · rw [ltS_no]
    refine (leS_total _ _).resolve_right fun z => ?_
    rw [← ltS_no, h] at z
    cases z
  · rw [ltS_no] at *
    exact leS_trans h1 h2
section
variable {prog : Program} {w : World} {A : Around} {E : Value → Shared → Prop} {s : Shared}
theorem row_cmp {vs : List Value} {k : Value → Str} (hp : ∀ v ∈ vs, RowO s.heap v (k v)) (inj : ∀ v ∈ vs, ∀ u ∈ vs, k v = k u → v = u) : Cmp prog w A s (tuples' true) (fun p => p.1 ∈ vs) (lt2 fun v u => ltS (k v) (k u)) := by
  intro p q hm hm'
  have h1 := hp _ hm
  have h2 := hp _ hm'
  have ij := inj _ hm _ hm'
  show wpAny (model prog w) A (keyLt' (tuples' true) p.1 q.1) (fun r s' => s' = s ∧ r = ltS (k p.1) (k q.1)) (fun _ _ => False) s
  generalize k p.1 = x at h1 ij ⊢
  generalize k q.1 = y at h2 ij ⊢
  obtain ⟨a, o, t, u, n, e, ho, hc, hd⟩ := h1
  obtain ⟨a', o', t', u', n', e', ho', hc', hd'⟩ := h2
  rw [e, e'] at ij ⊢
  refine PySem.W.kat_lt ho hd ho' hd' ?_
  show PySem.W.KatLex prog w A true (decide (2 < 2)) _ [(.str x t, .str y t'), (u, u')] 0 s
  refine PySem.W.kat_cons (SeqAt.EqAt.str_str x t y t' prog w _ _ ?_)
  refine PySem.W.kat_go (fun e1 => ?_) (fun e1 => ?_)
  · have ex : x = y := by simpa using e1
    have ea := Value.ref.inj (ij ex)
    subst ea
    rw [ho] at ho'
    cases ho'
    rw [hd] at hd'
    have eu : u = u' := by
      have z := Data.seq.inj hd'
      have z2 := congrArg Array.toList z.1
      exact (List.cons.inj (List.cons.inj z2).2).1
    subst eu
    refine PySem.W.kat_yes (PySem.W.kat_cons (SeqAt.EqAt.same u prog w _ _ ?_))
    refine PySem.W.kat_go (fun _ => PySem.W.kat_yes (PySem.W.kat_nil ⟨rfl, ?_⟩)) fun z => nomatch z
    rw [ex]
    exact (ltS_no.mpr (leS_refl y)).symm
  · exact PySem.W.kat_no (oneLt_str ⟨rfl, rfl⟩)
theorem firstsR {h : Heap} : ∀ {vs : List Value}, (∀ v ∈ vs, ∃ x, RowO h v x) → ∃ fs : List Value, PySem.W.KatTups h vs fs ∧ fs.length = vs.length ∧ ∀ f ∈ fs, ∃ x t, f = Value.str x t
  | [], _ => ⟨[], PySem.W.KatTups.nil, rfl, fun _ hm => by cases hm⟩
  | v :: vs, hp => by
    obtain ⟨fs, h1, h2, h3⟩ := firstsR (vs := vs) fun v' hm => hp v' (List.mem_cons_of_mem _ hm)
    obtain ⟨x, a, o, t, u, n, e, ho, hc, hd⟩ := hp v List.mem_cons_self
    subst e
    refine ⟨.str x t :: fs, PySem.W.KatTups.cons ho hc hd rfl h1, congrArg Nat.succ h2, fun f hm => ?_⟩
    rcases List.mem_cons.mp hm with rfl | hm
    · exact ⟨x, t, rfl⟩
    · exact h3 f hm
theorem rows_sortable {a : Addr} {vs : List Value} {k : Value → Str} (h0 : 0 < vs.length) (hp : ∀ v ∈ vs, RowO s.heap v (k v)) (inj : ∀ v ∈ vs, ∀ u ∈ vs, k v = k u → v = u) (ha : ∀ o, s.heap.get? a = some o → o.cls ≠ .type "tuple") :
    SortableO prog w A s a vs fun v u => ltS (k v) (k u) := by
  intro h' keep
  have hp' : ∀ v ∈ vs, RowO h' v (k v) := fun v hm => (hp v hm).keeps fun b o e c => keep b o (fun z => ha o (z ▸ e) c) e
  obtain ⟨fs, h1, h2, h3⟩ := firstsR fun v hm => ⟨_, hp' v hm⟩
  refine ⟨tuples' true, fun Q E hq => ?_, row_cmp hp' inj⟩
  refine PySem.W.kat_kind (T := .type "str") h1 (by omega) (fun f hm => ?_) (by rfl) ?_
  · obtain ⟨x, t, rfl⟩ := h3 f hm
    exact PySem.W.Looks.now
  · have e : (Value.type "str" != Value.type "tuple") = true := by first | decide +kernel | rfl | decide
    rw [e]
    exact hq
/-- sorted of a tuple: its items are put into a list first -/
theorem collectT {l : Addr} {vs : List Value} {Q : List Value → Shared → Prop} (hl : s.heap.IsTuple l vs.toArray) (hz : vs.length ≤ sizeLine)
    (h : Q vs { s with heap := (s.heap.push (seqObj "list" #[] 0)).update s.heap.objs.size (Obj.mapSeq (· ++ vs.toArray)) }) : wpAny (model prog w) A (collect (.ref l)) Q E s := by
  obtain ⟨o, ho, hc, n, hd⟩ := hl
  have ho' : (s.heap.push (seqObj "list" #[] 0)).get? l = some o := Heap.get?_push_of_some _ ho
  have hN : (s.heap.push (seqObj "list" #[] 0)).get? s.heap.objs.size = some (seqObj "list" #[] 0) := Heap.get?_push_size _ rfl
  unfold collect
  refine wpAny_bind (wpAny_runValue (codeAny_builtin entry_proto_collect' ?_))
  refine wpAny_bind (wpAny_newList (wpAny_pure ⟨Code.quiet_builtin _ (by decide +kernel), codeAny_builtin entry_list_iadd' ?_⟩))
  show wpAny _ _ (Builtin.List.listExtendWith (.ref s.heap.objs.size) (.ref l) (.ref s.heap.objs.size)) _ _ { s with heap := s.heap.push (seqObj "list" #[] 0) }
  unfold Builtin.List.listExtendWith
  refine wpAny_bind (wpAny_typeOf (T := "tuple") ⟨o, ho', hc⟩ ?_)
  rw [if_pos (by rw [Bool.or_eq_true]; exact .inr rfl)]
  refine wpAny_bind (listItems_at ho' hd (wpAny_bind (listItems_at (xs := #[]) (n := 0) hN rfl ?_)))
  rw [if_neg (by simp)]
  refine wpAny_bind (listUpdate_at (xs := #[]) (n := 0) hN rfl ?_ (Nat.zero_le _) (by show (#[] ++ vs.toArray).size ≤ sizeLine + 1; simp only [Array.size_append, List.size_toArray, List.length_nil]; omega))
  refine wpAny_pure ?_
  refine wpAny_bind (wpAny_load (get?_update_seq hN _) ?_)
  show wpAny _ _ (pure ((#[] : Array Value) ++ vs.toArray).toList) Q E _
  rw [show ((#[] : Array Value) ++ vs.toArray).toList = vs by simp]
  exact wpAny_pure h
theorem sortedT_ord {l : Addr} {vs : List Value} {ltv : Value → Value → Bool} {Q : Value → Shared → Prop} (O : Swo ltv) (hl : s.heap.IsTuple l vs.toArray) (hz : vs.length ≤ sizeLine)
    (hS : 2 ≤ vs.length → ∀ (h₁ : Heap) (a : Addr), h₁.get? a = some (seqObj "list" vs.toArray 0) → (∀ b o, s.heap.get? b = some o → b ≠ a ∧ h₁.get? b = some o) → SortableO prog w A.in1.in1 { s with heap := h₁ } a vs ltv)
    (h : ∀ out : List Value, Srtd ltv out → Stb ltv out vs → Q (.ref (s.heap.objs.size + 1)) { s with heap := sortedAll s.heap vs out.toArray }) :
    wpAny (model prog w) A (call (.builtin "sorted") [.ref l]) Q E s := by
  refine Calls.call_function_entry kind_sorted plain_sorted entry_sorted (args_sorted1 _) ?_
  unfold Builtin.«sorted»
  refine wpAny_bind (m := checkCount "sorted" 1 1 _) (wpAny_pure ?_)
  refine wpAny_bind (collectT hl hz ?_)
  refine wpAny_bind (wpAny_newList ?_ hz)
  let g : Heap := (s.heap.push (seqObj "list" #[] 0)).update s.heap.objs.size (Obj.mapSeq (· ++ vs.toArray))
  have hsz : g.objs.size = s.heap.objs.size + 1 := by show (Heap.update _ _ _).objs.size = _; rw [Heap.size_update, size_push']
  have hoL : (g.push (seqObj "list" vs.toArray 0)).get? (s.heap.objs.size + 1) = some (seqObj "list" vs.toArray 0) := by
    rw [← hsz]
    exact Heap.get?_push_size _ rfl
  have kk : ∀ b o, s.heap.get? b = some o → b ≠ s.heap.objs.size + 1 ∧ (g.push (seqObj "list" vs.toArray 0)).get? b = some o := fun b o q => by
    have lt := Heap.lt_size q
    refine ⟨Nat.ne_of_lt (Nat.lt_succ_of_lt lt), Heap.get?_push_of_some _ ((Heap.get?_update_ne _ _ _ _ (Nat.ne_of_lt lt)).trans (Heap.get?_push_of_some _ q))⟩
  show wpAny _ _ _ _ _ { s with heap := g.push (seqObj "list" vs.toArray 0) }
  rw [show ((s.heap.push (seqObj "list" #[] 0)).update s.heap.objs.size (Obj.mapSeq (· ++ vs.toArray))).objs.size = s.heap.objs.size + 1 from hsz]
  refine wpAny_bind (wpAny_holding (wpAny_call_entry slot_list_sort ⟨_, hoL, rfl⟩ entry_list_sort (list_sort_ord O hoL hz (fun h2 => hS h2 _ _ hoL kk) fun out hs hb => ⟨_, rfl, ?_⟩) (args_list_sort _)))
  exact wpAny_pure ⟨_, rfl, h out hs hb⟩
end
/-! ### the rows themselves -/
theorem perm_paired {α β : Type} {R : α → β → Prop} : ∀ {l l' : List α}, l'.Perm l → ∀ {m : List β}, Paired R l m → ∃ m', m'.Perm m ∧ Paired R l' m' := by
  intro l l' p
  induction p with
  | nil => intro m h; cases h; exact ⟨[], List.Perm.refl _, .nil⟩
  | cons x p ih =>
    intro m h
    cases h with
    | cons a t =>
      obtain ⟨m', p1, p2⟩ := ih t
      exact ⟨_ :: m', p1.cons _, .cons a p2⟩
  | swap x y l =>
    intro m h
    cases h with
    | cons a t =>
      cases t with
      | cons b u => exact ⟨_ :: _ :: _, List.Perm.swap _ _ _, .cons b (.cons a u)⟩
  | trans p1 p2 ih1 ih2 =>
    intro m h
    obtain ⟨m1, q1, r1⟩ := ih2 h
    obtain ⟨m2, q2, r2⟩ := ih1 r1
    exact ⟨m2, q2.trans q1, r2⟩
theorem pw_paired {α β : Type} {R : α → β → Prop} {r : α → α → Prop} {q : β → β → Prop} (h : ∀ a b c d, R a c → R b d → r a b → q c d) : ∀ {l : List α} {m : List β}, Paired R l m → l.Pairwise r → m.Pairwise q
  | _, _, .nil, _ => List.Pairwise.nil
  | _, _, .cons (a := a) a0 t, p => by
    obtain ⟨p1, p2⟩ := List.pairwise_cons.mp p
    refine List.pairwise_cons.mpr ⟨fun d hd => ?_, pw_paired (q := q) h t p2⟩
    obtain ⟨b, hb, e⟩ : ∃ b ∈ _, R b d := by
      obtain ⟨i, hi⟩ := List.getElem?_of_mem hd
      obtain ⟨b, hb, f⟩ := paired_get2 t i d hi
      exact ⟨b, List.mem_of_getElem? hb, f⟩
    exact h _ _ _ _ a0 e (p1 b hb)
open Classical in
/-- the first item, where there is one -/
noncomputable def pathOf (h : Heap) (v : Value) : Str := if e : ∃ x, RowO h v x then e.choose else ""
theorem RowO.inj {h : Heap} {v : Value} {x y : Str} (a : RowO h v x) (b : RowO h v y) : x = y := by
  obtain ⟨p, o, t, u, n, e, ho, _, hd⟩ := a
  obtain ⟨p', o', t', u', n', e', ho', _, hd'⟩ := b
  rw [e] at e'
  cases e'
  rw [ho] at ho'
  cases ho'
  rw [hd] at hd'
  have z := congrArg Array.toList (Data.seq.inj hd').1
  have z2 := (List.cons.inj z).1
  cases z2
  rfl
theorem pathOf_is {h : Heap} {v : Value} {x : Str} (a : RowO h v x) : pathOf h v = x := by
  unfold pathOf
  have e : ∃ x, RowO h v x := ⟨x, a⟩
  rw [dif_pos e]
  exact e.choose_spec.inj a
theorem row_obj {X : Cx} {pins : List (Addr × Obj)} {σ : L2.St} {H : Hp} {s : Shared} (I : Inv X pins σ H s) {v : V} {u : Value} {f : File} (h : RowAt X.K H v f) (r : RelV v u) : RowO s.heap u f.1 := by
  obtain ⟨t, w, rfl, ht, _⟩ := h
  obtain ⟨its, rv, ⟨o, ho, hc, n, hd⟩, _⟩ := I.tuple ht
  obtain ⟨u1, u2, rfl, ri, _⟩ := vals2 rv
  obtain ⟨t1, rfl⟩ := ri
  cases r
  exact ⟨t, o, t1, u2, n, rfl, ho, hc, hd⟩
/-- sorted(rows), rows a list or a tuple, no two of the same path: a new list -/
def rSortF (K : PySem.W.Frag) : List V → Hp → VK → Prop := fun vs H Q => ∃ (a : Addr) (ws : List V) (gs : List File), vs = [.ref a] ∧ (SqL K H a ws ∨ SqT K H a ws) ∧ RowsAt K H ws gs ∧ (gs.map (·.1)).Nodup ∧ gs.length ≤ 1000 ∧
  ∀ p ys, H p = none → RowsAt K (upd H p (.lst ys)) ys (srtF gs) → Q (.ref p) (upd H p (.lst ys))
theorem call_sortF {X : Cx} {K : PySem.W.Frag} (hK : X.K = K) : CallR X (.builtin "sorted") (rSortF K) := by
  subst hK
  intro pins s σ H xs us Q I r h
  obtain ⟨a, ws, gs, rfl, hS, hR, nd, hl, q⟩ := h
  obtain ⟨u, rfl, ru⟩ := vals1 r
  obtain rfl : u = Value.ref a := ru
  obtain ⟨its, rv, hz, hrun⟩ : ∃ its : List Value, Vals ws its ∧ ws.length ≤ sizeLine ∧ (s.heap.IsList a its.toArray ∨ s.heap.IsTuple a its.toArray) := by
    rcases hS with hS | hS
    · obtain ⟨its, rv, hi, hz⟩ := I.list hS
      exact ⟨its, rv, hz, .inl hi.isList⟩
    · obtain ⟨its, rv, hi, hz⟩ := I.tuple hS
      exact ⟨its, rv, hz, .inr hi⟩
  have hz2 : its.length ≤ sizeLine := by rw [← rv.length]; exact hz
  -- each item is a row
  have both : Paired (fun (u : Value) (f : File) => RowO s.heap u f.1 ∧ RowAt X.K H (backV u) f ∧ ∃ t, u = .ref t) its gs := by
    clear hz hrun hz2 q nd hl hS
    induction rv generalizing gs with
    | nil => cases hR; exact .nil
    | cons r _ ih =>
      cases hR with
      | cons h t =>
        refine .cons ⟨row_obj I h r, ?_⟩ (ih _ t)
        obtain ⟨t0, w0, rfl, e⟩ := id h
        cases r
        exact ⟨h, t0, rfl⟩
  have hp : ∀ v ∈ its, RowO s.heap v (pathOf s.heap v) := fun v hv => by
    obtain ⟨f, _, e, _⟩ := paired_mem both hv
    rw [pathOf_is e]
    exact e
  have inj : ∀ v ∈ its, ∀ u ∈ its, pathOf s.heap v = pathOf s.heap u → v = u := fun v hv u hu e => by
    obtain ⟨i, hi⟩ := List.getElem?_of_mem hv
    obtain ⟨j, hj⟩ := List.getElem?_of_mem hu
    obtain ⟨f, hf, e1, _⟩ := paired_get both i v hi
    obtain ⟨g, hg, e2, _⟩ := paired_get both j u hj
    rw [pathOf_is e1, pathOf_is e2] at e
    have e3 : (gs.map (·.1))[i]? = some f.1 := by rw [List.getElem?_map, hf]; rfl
    have e4 : (gs.map (·.1))[j]? = some f.1 := by rw [List.getElem?_map, hg, e]; rfl
    have ij : i = j := nodup_ix nd e3 e4
    rw [ij, hj] at hi
    exact (Option.some.inj hi).symm
  have fin : ∀ out : List Value, Srtd (fun v u => ltS (pathOf s.heap v) (pathOf s.heap u)) out → Stb (fun v u => ltS (pathOf s.heap v) (pathOf s.heap u)) out its →
      EP X pins σ Q (.ref (s.heap.objs.size + 1)) { s with heap := sortedAll s.heap its out.toArray } := fun out h1 h2 => by
    obtain ⟨gs', p1, p2⟩ := perm_paired h2.perm both
    have pw : gs'.Pairwise leF := pw_paired (fun v u f g ef eg z => by
      have z : ltS (pathOf s.heap u) (pathOf s.heap v) = false := z
      rw [pathOf_is ef.1, pathOf_is eg.1] at z
      exact ltS_no.mp z) p2 h1
    have eg := sortedF_is p1 nd pw
    subst eg
    have refs : ∀ u ∈ out, ∃ t, u = Value.ref t := fun u hu => by
      obtain ⟨f, _, _, _, t, e⟩ := paired_mem p2 hu
      exact ⟨t, e⟩
    obtain ⟨n, hn⟩ := sortedAll_at s.heap its out.toArray
    have nw : H (s.heap.objs.size + 1) = none := I.hok.fresh (Nat.le_succ _)
    have hl2 : (out.map backV).length ≤ sizeLine := by rw [List.length_map, h2.perm.length_eq]; exact hz2
    have J : Inv X pins σ (upd H (s.heap.objs.size + 1) (.lst (out.map backV))) { s with heap := sortedAll s.heap its out.toArray } :=
      I.laid (t' := s.toks) (fun b o e => sortedAll_old e) (Nat.le_succ _) ⟨hl2, out, n, vals_back refs, hn⟩
    refine ⟨.ref (s.heap.objs.size + 1), _, J, rfl, q _ _ nw ?_⟩
    have rows : ∀ {l : List Value} {m : List File}, Paired (fun (u : Value) (f : File) => RowO s.heap u f.1 ∧ RowAt X.K H (backV u) f ∧ ∃ t, u = .ref t) l m → RowsAt X.K H (l.map backV) m := by
      intro l m h
      induction h with
      | nil => exact .nil
      | cons a _ ih => exact .cons a.2.1 ih
    exact (rows p2).st (same_upd nw).t
  have sortable : 2 ≤ its.length → ∀ (h₁ : Heap) (b : Addr), h₁.get? b = some (seqObj "list" its.toArray 0) → (∀ c o, s.heap.get? c = some o → c ≠ b ∧ h₁.get? c = some o) →
      SortableO X.prog X.w X.A.in1.in1 { s with heap := h₁ } b its (fun v u => ltS (pathOf s.heap v) (pathOf s.heap u)) := fun h2 h₁ b hb kk => by
    refine rows_sortable (s := { s with heap := h₁ }) (by omega) (fun v hm => (hp v hm).keeps fun c o e _ => (kk c o e).2) inj fun o e => ?_
    have e' : some o = some (seqObj "list" its.toArray 0) := e.symm.trans hb
    cases e'
    intro c
    exact absurd (Value.type.inj c) (by decide)
  rcases hrun with hi | hi
  · exact sorted_ord (swo_rows _) hi hz2 sortable fin
  · exact sortedT_ord (swo_rows _) hi hz2 sortable fin
end Ga

set_option maxRecDepth 100000
set_option maxHeartbeats 4000000
namespace K02
open PySem PySem.Spec PyProof.Rows L2 TL Ga
def top (i : Nat) : Stmt := PySem.Challenge.pw_sameanswers_k02_trees.main.body.getD i (.Pass ⟨0, 0, 0, 0⟩)
/-- what the module's names hold -/
structure Tx (mg : Str → Option Value) : Prop where
  len : mg "len" = none
  all : mg "all" = none
  any : mg "any" = none
  ord : mg "ord" = none
  int : mg "int" = none
  range : mg "range" = none
  repr : mg "repr" = none
  tuple : mg "tuple" = none
  list : mg "list" = none
  dict : mg "dict" = none
  set : mg "set" = none
  sorted : mg "sorted" = none
  str : mg "str" = none
  isinstance : mg "isinstance" = none
  min : mg "min" = none
  max : mg "max" = none
  sum : mg "sum" = none
  bool : mg "bool" = none
  enumerate : mg "enumerate" = none
  zip : mg "zip" = none
  reversed : mg "reversed" = none
  abs : mg "abs" = none
  c_NAME_MOST : ∃ t, mg "NAME_MOST" = some (.int 8 t)
  c_DEPTH_MOST : ∃ t, mg "DEPTH_MOST" = some (.int 3 t)
  c_LINE_MOST : ∃ t, mg "LINE_MOST" = some (.int 20 t)
  c_LINES_MOST : ∃ t, mg "LINES_MOST" = some (.int 12 t)
  c_NAME_SIGNS : ∃ t, mg "NAME_SIGNS" = some (.str "abcdefghijklmnopqrstuvwxyz0123456789" t)
  c_PERCENT : ∃ t, mg "PERCENT" = some (.int 37 t)
  c_FILES_MOST : ∃ t, mg "FILES_MOST" = some (.int 20 t)
abbrev sIsName : Stmt := top 11
abbrev sIsPath : Stmt := top 12
abbrev sSign : Stmt := top 13
abbrev sIsLine : Stmt := top 14
abbrev sIsLines : Stmt := top 15
abbrev sIsInside : Stmt := top 16
theorem scIsPath : FnScope ["text", "names", "name"] ["text"] (defScope sIsPath) := ⟨rfl, rfl, rfl, by decide +kernel, rfl, by decide +kernel, by decide +kernel⟩
theorem scSign : FnScope ["sign"] ["sign"] (defScope sSign) := ⟨rfl, rfl, rfl, by decide +kernel, rfl, by decide +kernel, by decide +kernel⟩
theorem scIsLine : FnScope ["text", "sign"] ["text"] (defScope sIsLine) := ⟨rfl, rfl, rfl, by decide +kernel, rfl, by decide +kernel, by decide +kernel⟩
theorem scIsLines : FnScope ["lines", "line"] ["lines"] (defScope sIsLines) := ⟨rfl, rfl, rfl, by decide +kernel, rfl, by decide +kernel, by decide +kernel⟩
theorem scIsInside : FnScope ["path", "place"] ["path", "place"] (defScope sIsInside) := ⟨rfl, rfl, rfl, by decide +kernel, rfl, by decide +kernel, by decide +kernel⟩
theorem scIsName : FnScope ["text", "sign"] ["text"] (defScope sIsName) := ⟨rfl, rfl, rfl, by decide +kernel, rfl, by decide +kernel, by decide +kernel⟩
abbrev nsigns : List Nat := tl "abcdefghijklmnopqrstuvwxyz0123456789"
theorem q34 (c : Nat) : decide (V.str ⟨#[c]⟩ = V.str "\"") = decide (c = 34) := by
  refine decide_eq_decide.mpr ⟨fun h => ?_, fun h => by rw [h]; decide +kernel⟩
  have h2 := congrArg tl (V.str.inj h)
  have h3 : [c] = [34] := h2.trans (by decide +kernel)
  exact (List.cons.inj h3).1
theorem q37 (c : Nat) : decide (V.int (c : Int) = V.int 37) = decide (c = 37) := by
  refine decide_eq_decide.mpr ⟨fun h => ?_, fun h => by rw [h]; rfl⟩
  have h2 : (c : Int) = 37 := V.int.inj h
  omega
def isName (z : Str) : Bool := (decide (1 ≤ ((tl z).length : Int)) && decide (((tl z).length : Int) ≤ 8)) && (tl z).all fun c => decide (c ∈ nsigns)
/-- a text in, a truth out, nothing changed -/
def spStr (p : Str → Bool) : Sp := fun vs H Q _ => ∃ z : Str, vs = [.str z] ∧ (tl z).length ≤ 1000 ∧ ∀ H', Same H H' → Q (.bl (p z)) H'
theorem lenle {z : Str} (h : (tl z).length ≤ 1000) : z.length ≤ sizeLine := by rw [len_tl]; exact Nat.le_trans h (by decide)
section
variable {P : Program} {w : World} {K : PySem.W.Frag} {mg : Str → Option Value} {base : Heap}
theorem ok_is_name {f : Addr} {fd : FuncData} (F : Fun K "is_name" "is_name" sIsName f fd) (T : Tx mg) : FnOk P w K mg base CX0 1 f fd ["text"] (spStr isName) := by
  obtain ⟨t1, m1⟩ := T.c_NAME_MOST
  obtain ⟨t2, m2⟩ := T.c_NAME_SIGNS
  refine F.ok scIsName (fun vs H Q E h => ?_) (fun cdv A outer s H vs Q E hr h => ?_)
  · obtain ⟨z, rfl, _⟩ := h
    rfl
  · obtain ⟨z, rfl, hz, q⟩ := h
    refine ⟨_, pss_one (ps_ret (pe_and (pe_chain op_le op_le pe_int (pe_callB call_len_str (by rfl) T.len PySem.boot_len (pa_cons (pv 0) pa_nil)) (pe_glob (v := .int 8) rfl m1 ⟨_, rfl⟩))
      (pe_one (pe_callB (cr_all rfl) (by rfl) T.all (by decide +kernel) (pa_cons
        (pe_lc (own := [("sign", 1)]) rfl scIsName.nd (pi_str (pv 0)) (blkOk_by (N := ["text", "sign"]) (sc := defScope sIsName) (by decide +kernel))
          (fun _ _ _ _ _ => pg_name (i := 1) scIsName.nd rfl (Or.inl rfl)) (fun _ _ _ _ _ => pts_nil) (fun _ _ _ _ _ => pe_cmpR op_in_sign (pv 1) (pe_glob (v := .str "abcdefghijklmnopqrstuvwxyz0123456789") rfl m2 ⟨_, rfl⟩) (by rfl))) pa_nil))))), ?_⟩
    refine ⟨_, rfl, z, rfl, lenle hz, 1, _, rfl, rfl, _, rfl, ?_⟩
    refine ite2 (fun e => ?_) (fun e => ?_)
    · refine ⟨_, _, rfl, rfl, _, rfl, ite2 (fun e2 => ?_) (fun e2 => ?_)⟩
      · refine all_str (p := fun c => decide (c ∈ nsigns)) (by omega) rfl (fun c hc H2 R s k => ?_) fun H' s => ?_
        · exact ⟨_, rfl, c, _, rfl, rfl, k H2 (.refl _)⟩
        · have r := q H' s
          rw [isName, ← len_tl, e, e2, Bool.true_and, Bool.true_and] at r
          exact r
      · have r := q H (.refl _)
        rw [isName, ← len_tl, Bool.eq_false_iff.mpr e2, Bool.and_false, Bool.false_and] at r
        exact r
    · refine ⟨_, rfl, iteF ?_⟩
      have r := q H (.refl _)
      rw [isName, ← len_tl, Bool.eq_false_iff.mpr e, Bool.false_and, Bool.false_and] at r
      exact r
def isPath (z : Str) : Bool := decide (((Txt.split z sl).length : Int) ≤ 3) && (Txt.split z sl).all isName
def strOf : V → Str
  | .str z => z
  | _ => ""
theorem ok_is_path {f f1 : Addr} {fd fd1 : FuncData} (F : Fun K "is_path" "is_path" sIsPath f fd) (T : Tx mg) (G1 : FnOk P w K mg base CX0 1 f1 fd1 ["text"] (spStr isName))
    (g1 : mg "is_name" = some (.ref f1)) (k1 : PySem.W.keepIn K (.ref f1) = true) (b1 : Binds K fd1 ["text"] []) : FnOk P w K mg base CX0 2 f fd ["text"] (spStr isPath) := by
  obtain ⟨t1, m1⟩ := T.c_DEPTH_MOST
  refine F.ok scIsPath (fun vs H Q E h => ?_) (fun cdv A outer s H vs Q E hr h => ?_)
  · obtain ⟨z, rfl, _⟩ := h
    rfl
  · obtain ⟨z, rfl, hz, q⟩ := h
    refine ⟨_, pss_cons (ps_set (i := 1) scIsPath.nd rfl (.inl rfl) (pe_split (pv 0) pe_str))
      (pss_one (ps_ret (pe_and (pe_cmpR op_le (pe_callB call_len_seq (by rfl) T.len PySem.boot_len (pa_cons (pv 1) pa_nil)) (pe_glob (v := .int 3) rfl m1 ⟨_, rfl⟩) (nomark _))
      (pe_one (pe_callB (cr_all rfl) (by rfl) T.all (by decide +kernel) (pa_cons
        (pe_lc (own := [("name", 2)]) rfl scIsPath.nd (pi_list (pv 1)) (blkOk_by (N := ["text", "names", "name"]) (sc := defScope sIsPath) (by decide +kernel))
          (fun _ _ _ _ _ => pg_name (i := 2) scIsPath.nd rfl (Or.inl rfl)) (fun _ _ _ _ _ => pts_nil) (fun _ _ _ _ _ => pe_call G1 hr (by rfl) g1 k1 b1 .nil pass0 (pa_cons (pv 2) pa_nil))) pa_nil)))))), ?_⟩
    refine ⟨_, rfl, ⟨_, rfl⟩, z, sl, rfl, rfl, rfl, ?_, fun p np => ?_⟩
    · rw [len_tl]
      exact Nat.le_trans (Nat.add_le_add_right hz 2) (by decide)
    have s1 : Same H (upd H p (.lst ((Txt.split z sl).map V.str))) := same_upd np
    refine ⟨_, rfl, p, _, rfl, .inl (sqL upd_same), _, _, rfl, rfl, _, rfl, ?_⟩
    rw [List.length_map]
    refine ite2 (fun e => ?_) (fun e => ?_)
    · refine all_list (p := fun v => isName (strOf v)) (var_is rfl) (sqL upd_same) ?_ (fun c hc H2 R s k => ?_) fun H' s => ?_
      · rw [List.length_map]
        have := splitLen z
        omega
      · obtain ⟨y, hy, rfl⟩ := List.mem_map.mp hc
        exact ⟨_, rfl, y, rfl, Nat.le_trans (split_le hy) hz, fun H' s' => k H' s'⟩
      · have r := q H' (s1.trans s)
        rw [isPath, e, Bool.true_and] at r
        rw [List.all_map]
        exact r
    · have r := q _ s1
      rw [isPath, Bool.eq_false_iff.mpr e, Bool.false_and] at r
      exact r
def signOk (c : Nat) : Bool := (!decide ([c] < [32])) && (!decide ([126] < [c])) && (!decide (c = 34) && !decide (c = 37))
/-- one sign in, a truth out -/
def spSign : Sp := fun vs H Q _ => ∃ c : Nat, vs = [.str ⟨#[c]⟩] ∧ ∀ H', Same H H' → Q (.bl (signOk c)) H'
theorem ok_sign {f : Addr} {fd : FuncData} (F : Fun K "is_line_sign" "is_line_sign" sSign f fd) (T : Tx mg) : FnOk P w K mg base CX0 1 f fd ["sign"] spSign := by
  obtain ⟨t1, m1⟩ := T.c_PERCENT
  refine F.ok scSign (fun vs H Q E h => ?_) (fun cdv A outer s H vs Q E hr h => ?_)
  · obtain ⟨z, rfl, _⟩ := h
    rfl
  · obtain ⟨c, rfl, q⟩ := h
    have r := q H (.refl _)
    refine ⟨_, pss_one (ps_ret (pe_and (pe_chain op_le_str op_le_str pe_str (pv 0) pe_str) (pe_and (pe_cmpR op_ne (pv 0) pe_str (nomark _))
      (pe_one (pe_cmpR op_ne (pe_callB call_ord (by rfl) T.ord (by decide +kernel) (pa_cons (pv 0) pa_nil)) (pe_glob (v := .int 37) rfl m1 ⟨_, rfl⟩) (nomark _)))))), ?_⟩
    refine ⟨_, rfl, _, _, rfl, rfl, _, rfl, ?_⟩
    refine ite2 (fun e => ?_) (fun e => ?_)
    · refine ⟨_, _, rfl, rfl, _, rfl, ite2 (fun e2 => ?_) (fun e2 => ?_)⟩
      · refine ⟨_, rfl, rfl, _, rfl, ite2 (fun e3 => ?_) (fun e3 => ?_)⟩
        · refine ⟨_, rfl, _, rfl, rfl, rfl, ?_⟩
          have e' : (!decide ([c] < [32])) = true := e
          have e2' : (!decide ([126] < [c])) = true := e2
          rw [q34] at e3
          rw [signOk, e', e2', e3, Bool.true_and, Bool.true_and, Bool.true_and, ← q37] at r
          exact r
        · have e' : (!decide ([c] < [32])) = true := e
          have e2' : (!decide ([126] < [c])) = true := e2
          rw [q34] at e3
          rw [signOk, e', e2', Bool.eq_false_iff.mpr e3, Bool.true_and, Bool.true_and, Bool.false_and] at r
          exact r
      · have e2' : (!decide ([126] < [c])) = false := Bool.eq_false_iff.mpr e2
        rw [signOk, e2', Bool.and_false, Bool.false_and] at r
        exact r
    · refine ⟨_, rfl, iteF ?_⟩
      have e' : (!decide ([c] < [32])) = false := Bool.eq_false_iff.mpr e
      rw [signOk, e', Bool.false_and, Bool.false_and] at r
      exact r
def isLine (z : Str) : Bool := decide (((tl z).length : Int) ≤ 20) && (tl z).all signOk
theorem ok_is_line {f f1 : Addr} {fd fd1 : FuncData} (F : Fun K "is_line" "is_line" sIsLine f fd) (T : Tx mg) (G1 : FnOk P w K mg base CX0 1 f1 fd1 ["sign"] spSign)
    (g1 : mg "is_line_sign" = some (.ref f1)) (k1 : PySem.W.keepIn K (.ref f1) = true) (b1 : Binds K fd1 ["sign"] []) : FnOk P w K mg base CX0 2 f fd ["text"] (spStr isLine) := by
  obtain ⟨t1, m1⟩ := T.c_LINE_MOST
  refine F.ok scIsLine (fun vs H Q E h => ?_) (fun cdv A outer s H vs Q E hr h => ?_)
  · obtain ⟨z, rfl, _⟩ := h
    rfl
  · obtain ⟨z, rfl, hz, q⟩ := h
    refine ⟨_, pss_one (ps_ret (pe_and (pe_cmpR op_le (pe_callB call_len_str (by rfl) T.len PySem.boot_len (pa_cons (pv 0) pa_nil)) (pe_glob (v := .int 20) rfl m1 ⟨_, rfl⟩) (nomark _))
      (pe_one (pe_callB (cr_all rfl) (by rfl) T.all (by decide +kernel) (pa_cons
        (pe_lc (own := [("sign", 1)]) rfl scIsLine.nd (pi_str (pv 0)) (blkOk_by (N := ["text", "sign"]) (sc := defScope sIsLine) (by decide +kernel))
          (fun _ _ _ _ _ => pg_name (i := 1) scIsLine.nd rfl (Or.inl rfl)) (fun _ _ _ _ _ => pts_nil) (fun _ _ _ _ _ => pe_call G1 hr (by rfl) g1 k1 b1 .nil pass0 (pa_cons (pv 1) pa_nil))) pa_nil))))), ?_⟩
    refine ⟨_, rfl, z, rfl, lenle hz, _, _, rfl, rfl, _, rfl, ?_⟩
    refine ite2 (fun e => ?_) (fun e => ?_)
    · refine all_str (p := signOk) (by omega) rfl (fun c hc H2 R s k => ?_) fun H' s => ?_
      · exact ⟨_, rfl, c, rfl, fun H' s' => k H' s'⟩
      · have r := q H' s
        rw [isLine, ← len_tl, e, Bool.true_and] at r
        exact r
    · have r := q H (.refl _)
      rw [isLine, ← len_tl, Bool.eq_false_iff.mpr e, Bool.false_and] at r
      exact r
/-- rows of texts in a tuple -/
def isLines (l : List Str) : Bool := decide ((l.length : Int) ≤ 12) && l.all isLine
def spLines (K : PySem.W.Frag) : Sp := fun vs H Q _ => ∃ (a : Addr) (l : List Str), vs = [.ref a] ∧ SqT K H a (l.map V.str) ∧ l.length ≤ 1000 ∧ (∀ z ∈ l, (tl z).length ≤ 1000) ∧
  ∀ H', Same H H' → Q (.bl (isLines l)) H'
theorem ok_is_lines {f f1 : Addr} {fd fd1 : FuncData} (F : Fun K "is_lines" "is_lines" sIsLines f fd) (T : Tx mg) (G1 : FnOk P w K mg base CX0 2 f1 fd1 ["text"] (spStr isLine))
    (g1 : mg "is_line" = some (.ref f1)) (k1 : PySem.W.keepIn K (.ref f1) = true) (b1 : Binds K fd1 ["text"] []) : FnOk P w K mg base CX0 3 f fd ["lines"] (spLines K) := by
  obtain ⟨t1, m1⟩ := T.c_LINES_MOST
  refine F.ok scIsLines (fun vs H Q E h => ?_) (fun cdv A outer s H vs Q E hr h => ?_)
  · obtain ⟨a, z, rfl, _⟩ := h
    rfl
  · obtain ⟨a, l, rfl, hT, hl, hz, q⟩ := h
    refine ⟨_, pss_one (ps_ret (pe_and (pe_cmpR op_le (pe_callB call_len_seq (by rfl) T.len PySem.boot_len (pa_cons (pv 0) pa_nil)) (pe_glob (v := .int 12) rfl m1 ⟨_, rfl⟩) (nomark _))
      (pe_one (pe_callB (cr_all rfl) (by rfl) T.all (by decide +kernel) (pa_cons
        (pe_lc (own := [("line", 1)]) rfl scIsLines.nd (pi_tup (pv 0)) (blkOk_by (N := ["lines", "line"]) (sc := defScope sIsLines) (by decide +kernel))
          (fun _ _ _ _ _ => pg_name (i := 1) scIsLines.nd rfl (Or.inl rfl)) (fun _ _ _ _ _ => pts_nil) (fun _ _ _ _ _ => pe_call G1 hr (by rfl) g1 k1 b1 .nil pass0 (pa_cons (pv 1) pa_nil))) pa_nil))))), ?_⟩
    refine ⟨_, rfl, a, _, rfl, .inr hT, _, _, rfl, rfl, _, rfl, ?_⟩
    rw [List.length_map]
    refine ite2 (fun e => ?_) (fun e => ?_)
    · refine all_tup (p := fun v => isLine (strOf v)) (var_is rfl) hT (by rw [List.length_map]; omega) (fun c hc H2 R s k => ?_) fun H' s => ?_
      · obtain ⟨y, hy, rfl⟩ := List.mem_map.mp hc
        exact ⟨_, rfl, y, rfl, hz y hy, fun H' s' => k H' s'⟩
      · have r := q H' s
        rw [isLines, e, Bool.true_and] at r
        rw [List.all_map]
        exact r
    · have r := q H (.refl _)
      rw [isLines, Bool.eq_false_iff.mpr e, Bool.false_and] at r
      exact r
def spInside : Sp := fun vs H Q _ => ∃ x y : Str, vs = [.str x, .str y] ∧ (tl x).length ≤ 1000 ∧ (tl y).length ≤ 1000 ∧ ∀ H', Same H H' → Q (.bl (inside x y)) H'
theorem str_eq (x y : Str) : decide (V.str x = V.str y) = decide (x = y) := decide_eq_decide.mpr ⟨fun h => V.str.inj h, fun h => by rw [h]⟩
theorem ok_is_inside {f : Addr} {fd : FuncData} (F : Fun K "is_inside" "is_inside" sIsInside f fd) : FnOk P w K mg base CX0 1 f fd ["path", "place"] spInside := by
  refine F.ok scIsInside (fun vs H Q E h => ?_) (fun cdv A outer s H vs Q E hr h => ?_)
  · obtain ⟨a, z, rfl, _⟩ := h
    rfl
  · obtain ⟨x, y, rfl, hx, hy, q⟩ := h
    have r := q H (.refl _)
    refine ⟨_, pss_one (ps_ret (pe_or (pe_cmpR op_eq (pv 1) pe_str (nomark _)) (pe_one (pe_m1 PySem.F.slot_str_startswith PySem.F.type_str_startswith mt_startswith (pv 0) (pe_op op_add_str (pv 1) pe_str))))), ?_⟩
    refine ⟨_, rfl, rfl, _, rfl, ?_⟩
    rw [str_eq]
    refine ite2 (fun e => ?_) (fun e => ?_)
    · rw [inside, e, Bool.true_or] at r
      exact r
    · refine ⟨_, rfl, ⟨_, rfl⟩, _, rfl, _, _, rfl, rfl, ?_, x, _, rfl, rfl, ?_⟩
      · show y.length + 1 ≤ _
        rw [len_tl]
        exact Nat.le_trans (Nat.add_le_add_right hy 1) (by decide)
      · rw [inside, Bool.eq_false_iff.mpr e, Bool.false_or, ← inside_starts] at r
        exact r
end
abbrev sCell : Stmt := top 24
abbrev sDigits : Stmt := top 25
abbrev sDraw : Stmt := top 26
abbrev sPath : Stmt := top 27
abbrev sLine : Stmt := top 28
theorem scCell : FnScope ["script", "k"] ["script", "k"] (defScope sCell) := ⟨rfl, rfl, rfl, by decide +kernel, rfl, by decide +kernel, by decide +kernel⟩
theorem scDigits : FnScope ["script", "first", "last", "digits", "k", "cell", "turn", "seed"] ["script", "first", "last"] (defScope sDigits) := ⟨rfl, rfl, rfl, by decide +kernel, rfl, by decide +kernel, by decide +kernel⟩
theorem scDraw : FnScope ["box", "many", "at"] ["box", "many"] (defScope sDraw) := ⟨rfl, rfl, rfl, by decide +kernel, rfl, by decide +kernel, by decide +kernel⟩
theorem scPath : FnScope ["box", "depth", "k"] ["box"] (defScope sPath) := ⟨rfl, rfl, rfl, by decide +kernel, rfl, by decide +kernel, by decide +kernel⟩
theorem scLine : FnScope ["box"] ["box"] (defScope sLine) := ⟨rfl, rfl, rfl, by decide +kernel, rfl, by decide +kernel, by decide +kernel⟩
/-- an int out of the script -/
def spCell (K : PySem.W.Frag) : Sp := fun vs H Q _ => ∃ (a : Addr) (ns : List Int) (k : Int), vs = [.ref a, .int k] ∧ SqL K H a (ns.map V.int) ∧ 0 ≤ k ∧ ∀ z : Int, Q (.int z) H
/-- a new list of ints -/
def spDigits (K : PySem.W.Frag) : Sp := fun vs H Q _ => ∃ (a : Addr) (ns : List Int) (u v : Int), vs = [.ref a, .int u, .int v] ∧ SqL K H a (ns.map V.int) ∧ 0 ≤ u ∧ u ≤ 1000 ∧ 0 ≤ v ∧ v ≤ 1000 ∧
  ∀ (p : Addr) (H' : Hp) (ds : List Int), Same H H' → H p = none → H' p = some (.lst (ds.map V.int)) → Q (.ref p) H'
section
variable {P : Program} {w : World} {K : PySem.W.Frag} {mg : Str → Option Value} {base : Heap}
theorem ok_cell {f : Addr} {fd : FuncData} (F : Fun K "_law_cell" "_law_cell" sCell f fd) (T : Tx mg) : FnOk P w K mg base CX0 1 f fd ["script", "k"] (spCell K) := by
  refine F.ok scCell (fun vs H Q E h => ?_) (fun cdv A outer s H vs Q E hr h => ?_)
  · obtain ⟨a, z, k, rfl, _⟩ := h
    rfl
  · obtain ⟨a, ns, k, rfl, hS, hk, q⟩ := h
    refine ⟨_, pss_cons (ps_if (pt_cmpR op_lt (pv 1) (pe_callB call_len_seq (by rfl) T.len PySem.boot_len (pa_cons (pv 0) pa_nil)) (nomark _)) (pss_one (ps_ret (pe_ix ix_list (pv 0) (pv 1) (fun _ _ => rfl)))) pss_nil)
      (pss_one (ps_ret pe_int)), ?_⟩
    refine ⟨_, rfl, _, rfl, a, _, rfl, .inl hS, _, _, rfl, rfl, _, rfl, ite2 (fun e => ?_) (fun e => ?_)⟩
    · have e1 : k < ((ns.map V.int).length : Int) := of_decide_eq_true e
      rw [List.length_map] at e1
      have h1 : k.toNat < ns.length := by omega
      refine ⟨_, rfl, _, rfl, a, _, _, .int ns[k.toNat], rfl, rfl, hS, ?_, q _⟩
      exact at_of (j := k.toNat) (by omega) (by rw [List.getElem?_map, List.getElem?_eq_getElem h1]; rfl)
    · exact q 0
theorem ok_draw {f : Addr} {fd : FuncData} (F : Fun K "_law_draw" "_law_draw" sDraw f fd) (T : Tx mg) : FnOk P w K mg base CX0 1 f fd ["box", "many"] spDraw := by
  refine F.ok scDraw (fun vs H Q E h => ?_) (fun cdv A outer s H vs Q E hr h => ?_)
  · obtain ⟨B, D, m, rfl, _⟩ := h
    rfl
  · obtain ⟨B, D, m, rfl, hm, bx, q⟩ := h
    obtain ⟨ds, i, hB, hi, hne, hD⟩ := bx.ex
    have ix0 : ∀ {X : Cx}, IxR X (rIxL X.K) := ix_list
    refine ⟨_, pss_cons (ps_set (i := 2) scDraw.nd rfl (.inl rfl) (pe_ix ix_list (pv 0) pe_int (fun _ _ => rfl)))
      (pss_cons (ps_asg (pe_op op_add (pv 2) pe_int) (pg_sub (pv 0) pe_int set_list))
      (pss_cons (ps_if (pt_cmpR op_lt (pv 2) (pe_callB call_len_seq (by rfl) T.len PySem.boot_len (pa_cons (pe_ix ix_list (pv 0) pe_int (fun _ _ => rfl)) pa_nil)) (nomark _))
          (pss_one (ps_ret (pe_op op_mod (pe_callTy call_int1 (by rfl) T.int (by decide +kernel) (pa_cons (pe_ix ix_list (pe_ix ix_list (pv 0) pe_int (fun _ _ => rfl)) (pv 2) (fun _ _ => rfl)) pa_nil)) (pv 1)))) pss_nil)
      (pss_one (ps_ret (pe_op op_mod (pe_callTy call_int1 (by rfl) T.int (by decide +kernel) (pa_cons (pe_op op_add (pe_op op_mul (pv 2) pe_int) pe_int) pa_nil)) (pv 1)))))), ?_⟩
    refine ⟨_, rfl, _, _, _, _, rfl, rfl, sqL hB, atI_nat (j := 1) rfl, _, rfl, _, _, rfl, rfl, _, rfl, B, _, _, 1, rfl, rfl, hB, rfl, ?_⟩
    have hB2 : (upd H B (.lst [.ref D, .int (i + 1)])) B = some (.lst [.ref D, .int (i + 1)]) := upd_same
    have hD2 : (upd H B (.lst [.ref D, .int (i + 1)])) D = some (.lst (ds.map V.int)) := by rw [upd_ne hne]; exact hD
    have kp : Kp B H (upd H B (.lst [.ref D, .int (i + 1)])) := fun b o n e => by rw [upd_ne n]; exact e
    have bx2 : Box (upd H B (.lst [.ref D, .int (i + 1)])) B D := ⟨ds, i + 1, hB2, by omega, hne, hD2⟩
    refine ⟨_, rfl, _, rfl, _, _, _, _, rfl, rfl, sqL hB2, atI_nat (j := 0) rfl, D, _, rfl, .inl (sqL hD2), _, _, rfl, rfl, _, rfl, ite2 (fun e => ?_) (fun e => ?_)⟩
    · have e1 : i < ((ds.map V.int).length : Int) := of_decide_eq_true e
      rw [List.length_map] at e1
      have h1 : i.toNat < ds.length := by omega
      refine ⟨_, rfl, _, _, _, _, rfl, rfl, sqL hB2, atI_nat (j := 0) rfl, _, rfl, D, _, _, .int ds[i.toNat], rfl, rfl, sqL hD2, at_of (j := i.toNat) (by omega) (by rw [List.getElem?_map, List.getElem?_eq_getElem h1]; rfl), .inl ⟨_, rfl, ?_⟩⟩
      exact ⟨_, rfl, _, _, rfl, rfl, hm, q _ _ (Int.emod_nonneg _ (by omega)) (Int.emod_lt_of_pos _ hm) kp bx2⟩
    · refine ⟨_, rfl, _, _, rfl, rfl, .inr ⟨by decide, by decide⟩, _, _, rfl, rfl, .inl ⟨_, rfl, ?_⟩⟩
      exact ⟨_, rfl, _, _, rfl, rfl, hm, q _ _ (Int.emod_nonneg _ (by omega)) (Int.emod_lt_of_pos _ hm) kp bx2⟩
theorem ok_digits {f f1 : Addr} {fd fd1 : FuncData} (F : Fun K "_law_digits" "_law_digits" sDigits f fd) (T : Tx mg) (G1 : FnOk P w K mg base CX0 1 f1 fd1 ["script", "k"] (spCell K))
    (g1 : mg "_law_cell" = some (.ref f1)) (k1 : PySem.W.keepIn K (.ref f1) = true) (b1 : Binds K fd1 ["script", "k"] []) : FnOk P w K mg base CX0 2 f fd ["script", "first", "last"] (spDigits K) := by
  refine F.ok scDigits (fun vs H Q E h => ?_) (fun cdv A outer s H vs Q E hr h => ?_)
  · obtain ⟨a, z, u, v, rfl, _⟩ := h
    rfl
  · obtain ⟨a, ns, u, v, rfl, hS, hu, hu2, hv, hv2, q⟩ := h
    refine ⟨_, pss_cons (ps_set (i := 3) scDigits.nd rfl (.inl rfl) (pe_lst pa_nil))
      (pss_cons (ps_for PassesOwn.never rfl (pi_range2 (by rfl) T.range (pa_cons (pv 1) (pa_cons (pv 2) pa_nil))) (pg_name (i := 4) scDigits.nd rfl (Or.inl rfl))
        (pss_cons (ps_set (i := 5) scDigits.nd rfl (.inl rfl) (pe_call G1 hr (by rfl) g1 k1 b1 .nil pass0 (pa_cons (pv 0) (pa_cons (pv 4) pa_nil))))
        (pss_cons (ps_if (pt_cmpR op_lt (pv 5) pe_int (nomark _)) (pss_one (ps_set (i := 5) scDigits.nd rfl (.inl rfl) (pe_op op_sub pe_int (pe_op op_mul pe_int (pv 5))))) pss_nil)
        (pss_one (ps_if (pt_cmpR op_ge (pv 5) pe_int (nomark _))
          (pss_one (ps_for PassesOwn.never rfl (pi_range1 (by rfl) T.range (pa_cons pe_int pa_nil)) (pg_name (i := 6) scDigits.nd rfl (Or.inl rfl))
            (pss_one (ps_if (pt_cmpR op_gt (pv 5) pe_int (nomark _))
              (pss_cons (ps_expr (pe_bm PySem.F.plainAttrs_list PySem.F.slot_list_append PySem.F.type_list_append mt_append (pv 3) (pa_cons (pe_op op_mod (pe_callTy call_int1 (by rfl) T.int (by decide +kernel) (pa_cons (pv 5) pa_nil)) pe_int) pa_nil)))
              (pss_one (ps_set (i := 5) scDigits.nd rfl (.inl rfl) (pe_op op_fdiv (pv 5) pe_int)))) pss_nil))))
          (pss_cons (ps_set (i := 7) scDigits.nd rfl (.inl rfl) (pe_op op_mod (pe_callTy call_int1 (by rfl) T.int (by decide +kernel) (pa_cons (pe_op op_add (pe_op op_add (pe_op op_mul (pv 5) pe_int) (pe_op op_mul (pv 4) pe_int)) pe_int) pa_nil)) pe_int))
          (pss_one (ps_for PassesOwn.never rfl (pi_range1 (by rfl) T.range (pa_cons pe_int pa_nil)) (pg_name (i := 6) scDigits.nd rfl (Or.inl rfl))
            (pss_cons (ps_set (i := 7) scDigits.nd rfl (.inl rfl) (pe_op op_mod (pe_callTy call_int1 (by rfl) T.int (by decide +kernel) (pa_cons (pe_op op_add (pe_op op_add (pe_op op_mul (pv 7) pe_int) (pe_op op_mul pe_int (pv 6))) pe_int) pa_nil)) pe_int))
            (pss_one (ps_expr (pe_bm PySem.F.plainAttrs_list PySem.F.slot_list_append PySem.F.type_list_append mt_append (pv 3) (pa_cons (pe_op op_mod (pe_callTy call_int1 (by rfl) T.int (by decide +kernel) (pa_cons (pe_op op_fdiv (pv 7) pe_int) pa_nil)) pe_int) pa_nil)))))))))))))
      (pss_one (ps_ret (pv 3)))), ?_⟩
    refine ⟨Nat.zero_le _, fun p np => ?_⟩
    have hpow : (2 : Int) ^ 62 = 4611686018427387904 := by decide
    refine ⟨_, rfl, _, rfl, u, v, rfl, ⟨by omega, by omega, by omega, by omega⟩, ?_⟩
    refine for_range (lo := u) (n := (v - u).toNat) (fun i σ H' => ∃ (k' c' t' s' : Option V) (ds : List Int), σ = [some (.ref a), some (.int u), some (.int v), some (.ref p), k', c', t', s'] ∧ Same H H' ∧
      H' p = some (.lst (ds.map V.int)) ∧ ds.length ≤ 60 * i) ⟨none, none, none, none, [], rfl, same_upd np, upd_same, by simp⟩ ?_ ?_
    · rintro i σ H1 hi ⟨k', c', t', s', ds, rfl, s1, hp, hl⟩
      have hi2 : i < 1000 := by omega
      refine ⟨_, rfl, _, rfl, a, ns, _, rfl, s1.seq hS, by omega, fun z0 => ?_⟩
      refine ⟨_, rfl, _, _, rfl, rfl, _, rfl, ite2 (fun e0 => ⟨_, rfl, _, _, rfl, rfl, .inl ⟨by decide, by decide⟩, _, _, rfl, rfl, ?_⟩) (fun e0 => ?_)⟩
      all_goals
        refine ⟨_, rfl, _, _, rfl, rfl, _, rfl, ite2 (fun e1 => ?_) (fun e1 => ?_)⟩
        · refine ⟨60, rfl, by decide, by decide, for_range (lo := 0) (n := 60) (fun j σ H' => ∃ (c' : Int) (t' : Option V) (ds : List Int), σ = [some (.ref a), some (.int u), some (.int v), some (.ref p), some (.int (u + i)), some (.int c'), t', s'] ∧ Same H H' ∧
            H' p = some (.lst (ds.map V.int)) ∧ ds.length ≤ 60 * i + j) ⟨_, _, ds, rfl, s1, hp, by omega⟩ ?_ ?_⟩
          · rintro j σ H2 hj ⟨c2, t2, ds2, rfl, s2, hp2, hl2⟩
            refine ⟨_, rfl, _, _, rfl, rfl, _, rfl, ite2 (fun _ => ?_) (fun _ => ?_)⟩
            · refine ⟨_, rfl, .inl ⟨rfl, _, sqL hp2⟩, _, rfl, .inl ⟨_, rfl, _, _, rfl, rfl, (by show (0 : Int) < 1000; decide), p, _, _, rfl, rfl, hp2, ?_, ?_⟩⟩
              · rw [List.length_map]
                exact Nat.lt_of_le_of_lt (show _ ≤ 100000 by omega) (by decide)
              · refine ⟨_, rfl, _, _, rfl, rfl, ⟨by decide, by decide⟩, ?_⟩
                exact ⟨_, _, ds2 ++ [_], rfl, s2.mut np, by rw [upd_same, List.map_append]; rfl, by rw [List.length_append]; show ds2.length + 1 ≤ _; omega⟩
            · exact ⟨c2, _, ds2, rfl, s2, hp2, by omega⟩
          · rintro σ H2 ⟨c2, t2, ds2, rfl, s2, hp2, hl2⟩
            exact ⟨_, _, _, _, ds2, rfl, s2, hp2, by omega⟩
        · refine ⟨_, rfl, _, _, rfl, rfl, .inr ⟨by decide, by decide⟩, _, rfl, _, _, rfl, rfl, .inr ⟨by decide, by decide⟩, _, _, rfl, rfl, _, _, rfl, rfl, .inl ⟨_, rfl, _, _, rfl, rfl, (by show (0 : Int) < 2147483399; decide), ?_⟩⟩
          refine ⟨12, rfl, by decide, by decide, for_range (lo := 0) (n := 12) (fun j σ H' => ∃ (c' : Int) (t' : Option V) (w : Int) (ds : List Int), σ = [some (.ref a), some (.int u), some (.int v), some (.ref p), some (.int (u + i)), some (.int c'), t', some (.int w)] ∧ Same H H' ∧
            H' p = some (.lst (ds.map V.int)) ∧ ds.length ≤ 60 * i + j) ⟨_, _, _, ds, rfl, s1, hp, by omega⟩ ?_ ?_⟩
          · rintro j σ H2 hj ⟨c2, t2, w2, ds2, rfl, s2, hp2, hl2⟩
            refine ⟨_, rfl, _, _, rfl, rfl, .inr ⟨by decide, by decide⟩, _, rfl, _, _, rfl, rfl, .inl ⟨by decide, by decide⟩, _, _, rfl, rfl, _, _, rfl, rfl, .inl ⟨_, rfl, _, _, rfl, rfl, (by show (0 : Int) < 2147483563; decide), ?_⟩⟩
            refine ⟨_, rfl, .inl ⟨rfl, _, sqL hp2⟩, _, rfl, _, _, rfl, rfl, ⟨by decide, by decide⟩, .inl ⟨_, rfl, _, _, rfl, rfl, (by show (0 : Int) < 1000; decide), p, _, _, rfl, rfl, hp2, ?_, ?_⟩⟩
            · rw [List.length_map]
              exact Nat.lt_of_le_of_lt (show _ ≤ 100000 by omega) (by decide)
            · exact ⟨_, _, _, ds2 ++ [_], rfl, s2.mut np, by rw [upd_same, List.map_append]; rfl, by rw [List.length_append]; show ds2.length + 1 ≤ _; omega⟩
          · rintro σ H2 ⟨c2, t2, w2, ds2, rfl, s2, hp2, hl2⟩
            exact ⟨_, _, _, _, ds2, rfl, s2, hp2, by omega⟩
    · rintro σ H1 ⟨k', c', t', s', ds, rfl, s1, hp, hl⟩
      exact ⟨_, rfl, q p H1 ds s1 np hp⟩
end
abbrev sAlike : Stmt := top 41
theorem scAlike : FnScope ["one", "two"] ["one", "two"] (defScope sAlike) := ⟨rfl, rfl, rfl, by decide +kernel, rfl, by decide +kernel, by decide +kernel⟩
/-- two values that are the same datum -/
def spAlike (K : PySem.W.Frag) : Sp := fun vs H Q _ => ∃ (x y : V) (d : PyData), vs = [x, y] ∧ Dp K H x d ∧ Dp K H y d ∧ d.showable = true ∧ d.hasDict = false ∧ d.depth ≤ 40 ∧ d.shown.length ≤ sizeLine ∧ Q (.bl true) H
section
variable {P : Program} {w : World} {K : PySem.W.Frag} {mg : Str → Option Value} {base : Heap}
theorem ok_alike {f : Addr} {fd : FuncData} (F : Fun K "_law_alike" "_law_alike" sAlike f fd) (T : Tx mg) : FnG P w K mg base CX0 1 f fd ["one", "two"] (spAlike K) := by
  refine okG F scAlike (fun vs H Q E h => ?_) (fun cdv A hg outer s H vs Q E hr h => ?_)
  · obtain ⟨x, y, d, rfl, _⟩ := h
    rfl
  · obtain ⟨x, y, d, rfl, dx, dy, h1, h2, h3, h4, q⟩ := h
    refine ⟨_, pss_one (ps_ret (pe_cmpR op_eq (pe_callB (call_reprD hg hr.units) (by rfl) T.repr (by decide +kernel) (pa_cons (pv 0) pa_nil))
      (pe_callB (call_reprD hg hr.units) (by rfl) T.repr (by decide +kernel) (pa_cons (pv 1) pa_nil)) (nomark _))), ?_⟩
    refine ⟨_, rfl, x, d, rfl, dx, h1, h2, h3, h4, _, rfl, y, d, rfl, dy, h1, h2, h3, h4, rfl, ?_⟩
    rw [decide_eq_true rfl]
    exact q
end
abbrev sLInside : Stmt := top 30
theorem scLInside : FnScope ["path", "place"] ["path", "place"] (defScope sLInside) := ⟨rfl, rfl, rfl, by decide +kernel, rfl, by decide +kernel, by decide +kernel⟩
/-- signs that a text of the law may have -/
def okc (c : Nat) : Bool := decide (32 ≤ c) && (decide (c ≤ 126) && !decide (c = 37))
def okText (n : Nat) (z : Str) : Prop := (tl z).length ≤ n ∧ (tl z).all okc = true
instance (n : Nat) (z : Str) : Decidable (okText n z) := inferInstanceAs (Decidable (_ ∧ _))
theorem okText.mono {m n : Nat} {z : Str} (h : okText m z) (l : m ≤ n) : okText n z := ⟨Nat.le_trans h.1 l, h.2⟩
theorem okText.app {m n : Nat} {x y : Str} (h : okText m x) (g : okText n y) : okText (m + n) (x ++ y) := by
  refine ⟨?_, ?_⟩
  · rw [tl_append, List.length_append]
    exact Nat.add_le_add h.1 g.1
  · rw [tl_append, List.all_append, h.2, g.2]
    rfl
theorem okText.len {n : Nat} {z : Str} (h : okText n z) (l : n ≤ 100000) : z.length ≤ sizeLine := by
  rw [len_tl]
  exact Nat.le_trans (Nat.le_trans h.1 l) (by decide)
/-- all of these values are texts of at most n signs that may be -/
def menu (n : Nat) (vs : List V) : Bool := vs.all fun v => match v with
  | .str z => decide (okText n z)
  | _ => false
theorem menu_mem {n : Nat} {vs : List V} (h : menu n vs = true) {v : V} (hv : v ∈ vs) : ∃ z, v = .str z ∧ okText n z := by
  have := List.all_eq_true.mp h v hv
  cases v with
  | str z => exact ⟨z, rfl, of_decide_eq_true this⟩
  | _ => cases this
/-- a line of the law -/
def rows (vs : List V) : Bool := vs.all fun v => match v with
  | .str z => decide (okText 20 z) && isLine z
  | _ => false
theorem rows_mem {vs : List V} (h : rows vs = true) {v : V} (hv : v ∈ vs) : ∃ z, v = .str z ∧ okText 20 z ∧ isLine z = true := by
  have := List.all_eq_true.mp h v hv
  cases v with
  | str z =>
    have h2 := Bool.and_eq_true_iff.mp this
    exact ⟨z, rfl, of_decide_eq_true h2.1, h2.2⟩
  | _ => cases this
def spLine : Sp := spBox fun _ v _ => ∃ z, v = .str z ∧ okText 20 z ∧ isLine z = true
section
variable {P : Program} {w : World} {K : PySem.W.Frag} {mg : Str → Option Value} {base : Heap} {fD : Addr} {fdD : FuncData}
theorem ok_line {f : Addr} {fd : FuncData} (F : Fun K "_law_line" "_law_line" sLine f fd) (GD : FnOk P w K mg base CX0 1 fD fdD ["box", "many"] spDraw)
    (gD : mg "_law_draw" = some (.ref fD)) (kD : PySem.W.keepIn K (.ref fD) = true) (bD : Binds K fdD ["box", "many"] []) : FnOk P w K mg base CX0 2 f fd ["box"] spLine := by
  refine F.ok scLine (fun vs H Q E h => ?_) (fun cdv A outer s H vs Q E hr h => ?_)
  · obtain ⟨B, D, rfl, _⟩ := h
    rfl
  · obtain ⟨B, D, rfl, bx, q⟩ := h
    refine ⟨_, pss_one (ps_ret (pe_ix ix_list (pe_lst (pa_consts rfl)) (pe_call GD hr (by rfl) gD kD bD .nil pass0 (pa_cons (pv 0) (pa_cons pe_int pa_nil))) (fun _ _ => rfl))), ?_⟩
    refine pick (B := B) (D := D) (by rfl) (by decide) (by decide) rfl bx fun v hv H' kp b => ?_
    exact q v H' (rows_mem (by decide +kernel) hv) kp b
theorem ok_linside {f : Addr} {fd : FuncData} (F : Fun K "_law_inside" "_law_inside" sLInside f fd) (T : Tx mg) : FnOk P w K mg base CX0 1 f fd ["path", "place"] spInside := by
  refine F.ok scLInside (fun vs H Q E h => ?_) (fun cdv A outer s H vs Q E hr h => ?_)
  · obtain ⟨a, z, rfl, _⟩ := h
    rfl
  · obtain ⟨x, y, rfl, hx, hy, q⟩ := h
    have r := q H (.refl _)
    refine ⟨_, pss_one (ps_ret (pe_or (pe_cmpR op_eq (pv 1) pe_str (nomark _)) (pe_one (pe_cmpR op_eq (pe_slice sl_str (pv 0) po_none
      (po_some (pe_op op_add (pe_callB call_len_str (by rfl) T.len PySem.boot_len (pa_cons (pv 1) pa_nil)) pe_int))) (pe_op op_add_str (pv 1) pe_str) (nomark _))))), ?_⟩
    refine ⟨_, rfl, rfl, _, rfl, ?_⟩
    rw [str_eq]
    refine ite2 (fun e => ?_) (fun e => ?_)
    · rw [inside, e, Bool.true_or] at r
      exact r
    · refine ⟨_, rfl, _, rfl, y, rfl, lenle hy, _, _, rfl, rfl, _, rfl, x, rfl, lenle hx, _, rfl, _, _, rfl, rfl, ?_, rfl, ?_⟩
      · show y.length + 1 ≤ _
        rw [len_tl]
        exact Nat.le_trans (Nat.add_le_add_right hy 1) (by decide)
      · rw [inside, Bool.eq_false_iff.mpr e, Bool.false_or, ← inside_cut] at r
        exact r
/-- a text in, a truth out, nothing changed -/
def spTx (p : Str → Bool) : Sp := fun vs H Q _ => ∃ z : Str, vs = [.str z] ∧ okText 1000 z ∧ ∀ H', Same H H' → Q (.bl (p z)) H'
end
/-- a path of the law: names joined -/
abbrev pnames : List V := [.str "a", .str "b", .str "ab", .str "x1"]
def isPth (v : V) : Prop := ∃ ps : List Str, v = .str (Txt.join sl ps) ∧ 1 ≤ ps.length ∧ ps.length ≤ 3 ∧ ∀ p ∈ ps, V.str p ∈ pnames
def spPth : Sp := spBox fun _ v _ => isPth v
theorem pname_str {v : V} (h : v ∈ pnames) : ∃ p : Str, v = .str p := by
  rcases menu_mem (n := 2) (vs := pnames) (by decide +kernel) h with ⟨z, e, _⟩
  exact ⟨z, e⟩
theorem pname_len {p : Str} (h : V.str p ∈ pnames) : okText 2 p := by
  obtain ⟨z, e, o⟩ := menu_mem (n := 2) (vs := pnames) (by decide +kernel) h
  cases e
  exact o
theorem strs_of : ∀ {vs : List V}, (∀ v ∈ vs, v ∈ pnames) → ∃ ps : List Str, vs = ps.map V.str ∧ ∀ p ∈ ps, V.str p ∈ pnames
  | [], _ => ⟨[], rfl, fun _ h => nomatch h⟩
  | v :: r, h => by
    obtain ⟨ps, e, g⟩ := strs_of (vs := r) fun u hu => h u (List.mem_cons_of_mem _ hu)
    obtain ⟨p, rfl⟩ := pname_str (h v List.mem_cons_self)
    exact ⟨p :: ps, by rw [e]; rfl, fun u hu => by
      rcases List.mem_cons.mp hu with rfl | hu
      · exact h _ List.mem_cons_self
      · exact g u hu⟩
theorem sum_len : ∀ {ps : List Str}, (∀ p ∈ ps, V.str p ∈ pnames) → (ps.map (·.length)).sum ≤ 2 * ps.length
  | [], _ => by simp
  | p :: r, h => by
    have h1 := (pname_len (h p List.mem_cons_self)).1
    rw [← len_tl] at h1
    have h2 := sum_len (ps := r) fun u hu => h u (List.mem_cons_of_mem _ hu)
    rw [List.map_cons, List.sum_cons, List.length_cons]
    omega
section
variable {P : Program} {w : World} {K : PySem.W.Frag} {mg : Str → Option Value} {base : Heap} {fD : Addr} {fdD : FuncData}
theorem ok_path {f : Addr} {fd : FuncData} (F : Fun K "_law_path" "_law_path" sPath f fd) (T : Tx mg) (GD : FnOk P w K mg base CX0 1 fD fdD ["box", "many"] spDraw)
    (gD : mg "_law_draw" = some (.ref fD)) (kD : PySem.W.keepIn K (.ref fD) = true) (bD : Binds K fdD ["box", "many"] []) : FnOk P w K mg base CX0 2 f fd ["box"] spPth := by
  refine F.ok scPath (fun vs H Q E h => ?_) (fun cdv A outer s H vs Q E hr h => ?_)
  · obtain ⟨B, D, rfl, _⟩ := h
    rfl
  · obtain ⟨B, D, rfl, bx, q⟩ := h
    refine ⟨_, pss_cons (ps_set (i := 1) scPath.nd rfl (.inl rfl) (pe_ix ix_list (pe_lst (pa_consts rfl)) (pe_call GD hr (by rfl) gD kD bD .nil pass0 (pa_cons (pv 0) (pa_cons pe_int pa_nil))) (fun _ _ => rfl)))
      (pss_one (ps_ret (pe_join pe_str (pe_lc (own := [("k", 2)]) rfl scPath.nd (pi_range1 (by rfl) T.range (pa_cons (pv 1) pa_nil)) (blkOk_by (N := ["box", "depth", "k"]) (sc := defScope sPath) (by decide +kernel))
          (fun _ _ _ _ _ => pg_name (i := 2) scPath.nd rfl (Or.inl rfl)) (fun _ _ _ _ _ => pts_nil)
          (fun _ _ _ _ _ => pe_ix (ixL (K := K) rfl) (pe_lst (pa_consts rfl)) (pe_call GD hr (by rfl) gD kD bD .nil pass0 (pa_cons (pv 0) (pa_cons pe_int pa_nil))) (fun _ _ => rfl)))))), ?_⟩
    refine pick (B := B) (D := D) (by rfl) (by decide) (by decide) rfl bx fun v hv H1 kp1 bx1 => ?_
    have hv2 : v = .int 1 ∨ v = .int 2 ∨ v = .int 3 := by
      rcases List.mem_cons.mp hv with h | hv
      · exact .inl h
      rcases List.mem_cons.mp hv with h | hv
      · exact .inr (.inl h)
      rcases List.mem_cons.mp hv with h | hv
      · exact .inr (.inl h)
      rcases List.mem_cons.mp hv with h | hv
      · exact .inr (.inr h)
      cases hv
    obtain ⟨n, rfl, n1, n3⟩ : ∃ n : Nat, v = .int (n : Int) ∧ 1 ≤ n ∧ n ≤ 3 := by
      rcases hv2 with h | h | h
      · exact ⟨1, h, by decide, by decide⟩
      · exact ⟨2, h, by decide, by decide⟩
      · exact ⟨3, h, by decide, by decide⟩
    refine ⟨⟨_, rfl⟩, _, rfl, n, rfl, by omega, by omega, fun C nC => ?_⟩
    rw [Int.toNat_natCast]
    refine lc_rng_box (n := n) (R := fun v => v ∈ pnames) nC bx1 (by omega) (fun m H2 Q2 hm b2 kp2 hq => ?_) (fun H' vs kp b hC hl hR => ?_)
    · exact pick (B := B) (D := D) (by rfl) (by decide) (by decide) rfl b2 fun v hv H' kp' b' => hq v H' hv kp' b'
    · obtain ⟨ps, rfl, hps⟩ := strs_of hR
      rw [List.length_map] at hl
      refine ⟨sl, C, ps, rfl, rfl, .inl (sqL hC), ?_, ?_⟩
      · have := sum_len hps
        have e1 : sl.length = 1 := by decide +kernel
        rw [e1]
        omega
      · exact q _ H' ⟨ps, rfl, by omega, by omega, hps⟩ (kp1.trans kp) b
end
section
variable {K : PySem.W.Frag} {H : Hp} {Q : VK} {σ : L2.St} {v : V} {p q : Bool} {te ta tb tc td : TE}
/-- a value, whatever more stands by then; nothing is changed -/
def EvS (te : TE) (σ : L2.St) (H : Hp) (v : V) : Prop := ∀ H1, Same H H1 → ∀ Q : VK, (∀ H2, Same H1 H2 → Q v H2) → te σ H1 Q
theorem evVar {i : Nat} (h : σ[i]? = some (some v)) : EvS (tVar i) σ H v := fun H1 _ Q q => ⟨v, h, q H1 (.refl _)⟩
theorem evStr {f : Str → Bool} {i : Nat} {z : Str} (h : σ[i]? = some (some (.str z))) (hz : (tl z).length ≤ 1000) : EvS (tCall (spStr f) [] E0 (tCons (tVar i) tNil)) σ H (.bl (f z)) :=
  fun H1 _ Q q => ⟨_, h, z, rfl, hz, q⟩
theorem evTx {f : Str → Bool} {i : Nat} {z : Str} (h : σ[i]? = some (some (.str z))) (hz : okText 1000 z) : EvS (tCall (spTx f) [] E0 (tCons (tVar i) tNil)) σ H (.bl (f z)) :=
  fun H1 _ Q q => ⟨_, h, z, rfl, hz, q⟩
theorem evIns {i j : Nat} {x y : Str} (h : σ[i]? = some (some (.str x))) (g : σ[j]? = some (some (.str y))) (hx : (tl x).length ≤ 1000) (hy : (tl y).length ≤ 1000) :
    EvS (tCall spInside [] E0 (tCons (tVar i) (tCons (tVar j) tNil))) σ H (.bl (inside x y)) := fun H1 _ Q q => ⟨_, h, _, g, x, y, rfl, hx, hy, q⟩
theorem evAnd (ha : EvS ta σ H (.bl p)) (hb : EvS tb σ H (.bl q)) : EvS (tAndV ta tb) σ H (.bl (p && q)) := fun H1 s Q k => by
  refine ha H1 s _ fun H2 s2 => ⟨p, rfl, ?_⟩
  cases p with
  | true =>
    rw [if_pos rfl]
    exact hb H2 (s.trans s2) _ fun H3 s3 => k H3 (s2.trans s3)
  | false =>
    rw [if_neg Bool.false_ne_true]
    exact k H2 s2
theorem evOr (ha : EvS ta σ H (.bl p)) (hb : EvS tb σ H (.bl q)) : EvS (tOrV ta tb) σ H (.bl (p || q)) := fun H1 s Q k => by
  refine ha H1 s _ fun H2 s2 => ⟨p, rfl, ?_⟩
  cases p with
  | true =>
    rw [if_pos rfl]
    exact k H2 s2
  | false =>
    rw [if_neg Bool.false_ne_true]
    exact hb H2 (s.trans s2) _ fun H3 s3 => k H3 (s2.trans s3)
theorem evLines {i : Nat} {t : Addr} {l : List Str} (h : σ[i]? = some (some (.ref t))) (ht : SqT K H t (l.map V.str)) (hl : l.length ≤ 1000) (hz : ∀ z ∈ l, (tl z).length ≤ 1000) :
    EvS (tCall (spLines K) [] E0 (tCons (tVar i) tNil)) σ H (.bl (isLines l)) := fun H1 s Q q => ⟨_, h, t, l, rfl, s.seqT ht, hl, hz, q⟩
end
/-- a def of the text that may be called -/
structure Cal (P : Program) (w : World) (K : PySem.W.Frag) (mg : Str → Option Value) (base : Heap) (k : Nat) (x : Str) (ps : List Str) (sp : Sp) : Prop where
  ex : ∃ (f : Addr) (fd : FuncData), FnOk P w K mg base CX0 k f fd ps sp ∧ mg x = some (.ref f) ∧ PySem.W.keepIn K (.ref f) = true ∧ Binds K fd ps []
structure CalG (P : Program) (w : World) (K : PySem.W.Frag) (mg : Str → Option Value) (base : Heap) (k : Nat) (x : Str) (ps : List Str) (sp : Sp) : Prop where
  ex : ∃ (f : Addr) (fd : FuncData), FnG P w K mg base CX0 k f fd ps sp ∧ mg x = some (.ref f) ∧ PySem.W.keepIn K (.ref f) = true ∧ Binds K fd ps []
def spLaw (K : PySem.W.Frag) : Sp := fun vs H Q _ => ∃ (a : Addr) (ns : List Int), vs = [.ref a] ∧ SqL K H a (ns.map V.int) ∧ ns.length ≤ 63 ∧ ∀ H', Q (.bl true) H'
end K02

set_option maxRecDepth 100000
set_option maxHeartbeats 4000000
namespace K02
open PySem PySem.Spec PyProof.Rows L2 TL Ga
abbrev sApart : Stmt := top 19
abbrev sFiles : Stmt := top 20
theorem scApart : FnScope ["paths", "path", "place"] ["paths"] (defScope sApart) := ⟨rfl, rfl, rfl, by decide +kernel, rfl, by decide +kernel, by decide +kernel⟩
theorem scFiles : FnScope ["files", "path", "lines", "_"] ["files"] (defScope sFiles) := ⟨rfl, rfl, rfl, by decide +kernel, rfl, by decide +kernel, by decide +kernel⟩
/-- whether no two of these are the same, and none lies inside another one -/
def apart (l : List Str) : Bool := !decide ((cnt l l.length : Int) < l.length) && !(l.any fun a => l.any fun b => inside a b)
def spApart (K : PySem.W.Frag) : Sp := fun vs H Q _ => ∃ (a : Addr) (l : List Str), vs = [.ref a] ∧ SqL K H a (l.map V.str) ∧ l.length ≤ 300 ∧ (∀ z ∈ l, (tl z).length ≤ 1000) ∧ ∀ H', Same H H' → Q (.bl (apart l)) H'
theorem any_flat {α β : Type} (p : α → β → Bool) (m : List β) : ∀ l : List α, (l.flatMap fun a => m.map fun b => p a b).any id = l.any fun a => m.any fun b => p a b
  | [] => rfl
  | a :: r => by rw [List.flatMap_cons, List.any_append, any_flat p m r, List.any_cons, List.any_map]; rfl
section
variable {P : Program} {w : World} {K : PySem.W.Frag} {mg : Str → Option Value} {base : Heap}
theorem ok_apart {f f1 : Addr} {fd fd1 : FuncData} (F : Fun K "are_apart" "are_apart" sApart f fd) (T : Tx mg) (G1 : FnOk P w K mg base CX0 1 f1 fd1 ["path", "place"] spInside)
    (g1 : mg "is_inside" = some (.ref f1)) (k1 : PySem.W.keepIn K (.ref f1) = true) (b1 : Binds K fd1 ["path", "place"] []) : FnOk P w K mg base CX0 2 f fd ["paths"] (spApart K) := by
  refine F.ok scApart (fun vs H Q E h => ?_) (fun cdv A outer s H vs Q E hr h => ?_)
  · obtain ⟨a, l, rfl, _⟩ := h
    rfl
  · obtain ⟨a, l, rfl, hS, hl, hz, q⟩ := h
    refine ⟨_, pss_cons (ps_if (pt_cmpR op_lt (pe_lenSetT (by rfl) T.len (by rfl) T.set (pv 0)) (pe_callB call_len_seq (by rfl) T.len PySem.boot_len (pa_cons (pv 0) pa_nil)) (nomark _)) (pss_one (ps_ret pe_bl)) pss_nil)
      (pss_one (ps_ret (pe_not (pe_callB (cr_any rfl) (by rfl) T.any (by decide +kernel) (pa_cons
        (pe_lc2 (own := [("path", 1), ("place", 2)]) (vs1 := [2]) rfl scApart.nd (pi_list (pv 0)) (blkOk_by (N := ["paths", "path", "place"]) (sc := defScope sApart) (by decide +kernel)) (by decide)
          (fun _ _ _ _ _ => pg_name (i := 1) scApart.nd rfl (Or.inl rfl)) (fun _ _ _ _ _ => pts_nil) (fun _ _ _ _ _ => piL (K := K) rfl (pv 0))
          (fun _ _ _ _ _ => pg_name (i := 2) scApart.nd rfl (Or.inl rfl)) (fun _ _ _ _ _ => pts_nil)
          (fun _ _ _ _ _ => pe_call G1 hr (by rfl) g1 k1 b1 .nil pass0 (pa_cons (pv 1) (pa_cons (pv 2) pa_nil)))) pa_nil))))), ?_⟩
    refine ⟨_, rfl, a, l, rfl, hS, by omega, _, rfl, a, _, rfl, .inl hS, _, _, rfl, rfl, _, rfl, ite2 (fun e => ?_) (fun e => ?_)⟩
    · have r := q H (.refl _)
      rw [List.length_map] at e
      rw [apart, e, Bool.not_true, Bool.false_and] at r
      exact r
    · rw [List.length_map] at e
      refine ⟨_, rfl, a, rfl, ⟨_, hS⟩, fun D nD => ?_⟩
      refine lc2_bl (p := fun x y => inside (strOf x) (strOf y)) nD (same_walkL hS) (same_walkL hS) (by rw [List.length_map]; exact hl) (by decide) (fun c H2 R hc s r => ?_) (fun x hx y hy H2 R s r => ?_) fun H' s d => ?_
      · exact ⟨_, rfl, a, rfl, ⟨_, s.seq hS⟩, r⟩
      · obtain ⟨x, hx2, rfl⟩ := List.mem_map.mp hx
        obtain ⟨y, hy2, rfl⟩ := List.mem_map.mp hy
        exact ⟨_, rfl, _, rfl, x, y, rfl, hz x hx2, hz y hy2, r⟩
      · refine ⟨D, _, rfl, sqL d, _, rfl, ?_⟩
        have r := q H' s
        rw [apart, Bool.eq_false_iff.mpr e, Bool.not_false, Bool.true_and] at r
        rw [any_flat]
        simp only [List.any_map]
        exact r
theorem not_t : ∀ {b : Bool}, (!b) = true → b = false
  | false, _ => rfl
theorem not_f : ∀ {b : Bool}, ¬ (!b) = true → b = true
  | true, _ => rfl
  | false, h => absurd rfl h
/-- rows of files, a list or a tuple -/
def Files (K : PySem.W.Frag) (H : Hp) (x : V) (fs : List File) : Prop := ∃ (a : Addr) (vs : List V), x = .ref a ∧ (SqL K H a vs ∨ SqT K H a vs) ∧ RowsAt K H vs fs
/-- texts and rows that aren't endless -/
def Small (fs : List File) : Prop := fs.length ≤ 300 ∧ ∀ f ∈ fs, (tl f.1).length ≤ 1000 ∧ f.2.length ≤ 1000 ∧ ∀ z ∈ f.2, (tl z).length ≤ 1000
/-- the files may be together in a tree -/
def goodFiles (fs : List File) : Bool := decide ((fs.length : Int) ≤ 20) && (fs.all fun f => isPath f.1 && isLines f.2) && apart (fs.map (·.1))
def spFiles (K : PySem.W.Frag) : Sp := fun vs H Q _ => ∃ (x : V) (fs : List File), vs = [x] ∧ Files K H x fs ∧ Small fs ∧ ∀ H', Same H H' → Q (.bl (goodFiles fs)) H'
theorem ok_files {f f1 f2 f3 : Addr} {fd fd1 fd2 fd3 : FuncData} (F : Fun K "are_files" "are_files" sFiles f fd) (T : Tx mg) (G1 : FnOk P w K mg base CX0 2 f1 fd1 ["text"] (spStr isPath))
    (g1 : mg "is_path" = some (.ref f1)) (k1 : PySem.W.keepIn K (.ref f1) = true) (b1 : Binds K fd1 ["text"] []) (G2 : FnOk P w K mg base CX0 3 f2 fd2 ["lines"] (spLines K))
    (g2 : mg "is_lines" = some (.ref f2)) (k2 : PySem.W.keepIn K (.ref f2) = true) (b2 : Binds K fd2 ["lines"] []) (G3 : FnOk P w K mg base CX0 2 f3 fd3 ["paths"] (spApart K))
    (g3 : mg "are_apart" = some (.ref f3)) (k3 : PySem.W.keepIn K (.ref f3) = true) (b3 : Binds K fd3 ["paths"] []) : FnOk P w K mg base CX0 4 f fd ["files"] (spFiles K) := by
  obtain ⟨t1, m1⟩ := T.c_FILES_MOST
  refine F.ok scFiles (fun vs H Q E h => ?_) (fun cdv A outer s H vs Q E hr h => ?_)
  · obtain ⟨x, fs, rfl, _⟩ := h
    rfl
  · obtain ⟨_, fs, rfl, ⟨a, vs, rfl, hS, hR⟩, hsm, q⟩ := h
    have hlen : vs.length = fs.length := hR.length
    obtain ⟨wi, J, hpi, hwi, hw⟩ := src (K := K) (i := 0) hS
    refine ⟨_, pss_cons (ps_if (pt_cmpR op_gt (pe_callB call_len_seq (by rfl) T.len PySem.boot_len (pa_cons (pv 0) pa_nil)) (pe_glob (v := .int 20) rfl m1 ⟨_, rfl⟩) (nomark _)) (pss_one (ps_ret pe_bl)) pss_nil)
      (pss_cons (ps_if (pt_not (pt_val (pe_callB (cr_all rfl) (by rfl) T.all (by decide +kernel) (pa_cons
        (pe_lc (own := [("path", 1), ("lines", 2)]) rfl scFiles.nd (hpi _ _ _ rfl (pv 0)) (blkOk_by (N := ["files", "path", "lines", "_"]) (sc := defScope sFiles) (by decide +kernel))
          (fun _ _ _ _ _ => pgT (K := K) (n := 2) rfl rfl (pgs_cons (pg_name (i := 1) scFiles.nd rfl (Or.inl rfl)) (pgs_cons (pg_name (i := 2) scFiles.nd rfl (Or.inl rfl)) pgs_nil))) (fun _ _ _ _ _ => pts_nil)
          (fun _ _ _ _ _ => pe_and (pe_call G1 (hr.mono (by decide)) (by rfl) g1 k1 b1 .nil pass0 (pa_cons (pv 1) pa_nil)) (pe_one (pe_call G2 hr (by rfl) g2 k2 b2 .nil pass0 (pa_cons (pv 2) pa_nil))))) pa_nil)))) (pss_one (ps_ret pe_bl)) pss_nil)
      (pss_one (ps_ret (pe_call G3 (hr.mono (by decide)) (by rfl) g3 k3 b3 .nil pass0 (pa_cons
        (pe_lc (own := [("path", 1), ("_", 3)]) rfl scFiles.nd (hpi _ _ _ rfl (pv 0)) (blkOk_by (N := ["files", "path", "lines", "_"]) (sc := defScope sFiles) (by decide +kernel))
          (fun _ _ _ _ _ => pgT (K := K) (n := 2) rfl rfl (pgs_cons (pg_name (i := 1) scFiles.nd rfl (Or.inl rfl)) (pgs_cons (pg_name (i := 3) scFiles.nd rfl (Or.inl rfl)) pgs_nil))) (fun _ _ _ _ _ => pts_nil)
          (fun _ _ _ _ _ => pv 1)) pa_nil))))), ?_⟩
    have hz : vs.length ≤ 100000 := by have := hsm.1; omega
    refine ⟨_, rfl, a, vs, rfl, hS, _, _, rfl, rfl, _, rfl, ite2 (fun e => ?_) (fun e => ?_)⟩
    · have r := q H (.refl _)
      have e2 : (20 : Int) < vs.length := of_decide_eq_true e
      rw [goodFiles, decide_eq_false (show ¬ ((fs.length : Int) ≤ 20) by omega), Bool.false_and, Bool.false_and] at r
      exact r
    · have e2 : ¬ (20 : Int) < vs.length := fun z => e (decide_eq_true z)
      refine hwi _ H _ (.refl _) (by rfl) ?_
      refine fun D nD => lcF1 (f := fun x : File => V.bl (isPath x.1 && isLines x.2)) nD (hw H (.refl _)) hlen hz (fun i c x hc hx H2 Rk s k => ?_) fun H' s d => ?_
      · obtain ⟨y, hy, ry⟩ := paired_get hR i c hc
        rw [hx] at hy
        cases hy
        have hm := List.mem_of_getElem? hx
        obtain ⟨z1, z2, z3⟩ := hsm.2 x hm
        refine g_row (ry.st s.t) fun w lw => ⟨by rfl, ?_⟩
        obtain ⟨b, rfl, hb⟩ := lw
        refine ⟨_, rfl, x.1, rfl, z1, fun H3 s3 => ⟨_, rfl, ite2 (fun e3 => ?_) (fun e3 => ?_)⟩⟩
        · refine ⟨_, rfl, b, x.2, rfl, s3.seqT hb, z2, z3, fun H4 s4 => ?_⟩
          have := k H4 (s3.trans s4)
          rw [e3, Bool.true_and] at this
          exact this
        · have := k H3 s3
          rw [Bool.eq_false_iff.mpr e3, Bool.false_and] at this
          exact this
      · refine ⟨D, fs.map (fun x => isPath x.1 && isLines x.2), rfl, sqL (by rw [d, List.map_map]; rfl), _, rfl, ?_⟩
        rw [List.all_map]
        have r0 := q
        rw [goodFiles, decide_eq_true (show (fs.length : Int) ≤ 20 by omega), Bool.true_and] at r0
        have eA : fs.all (id ∘ fun x : File => isPath x.1 && isLines x.2) = fs.all fun f => isPath f.1 && isLines f.2 := rfl
        rw [eA]
        refine ite2 (fun e3 => ?_) (fun e3 => ?_)
        · have r := r0 H' s
          rw [not_t e3, Bool.false_and] at r
          exact r
        · have e4 : (fs.all fun f => isPath f.1 && isLines f.2) = true := not_f e3
          rw [e4] at r0
          refine hwi _ H' _ s (by rfl) ?_
          refine fun D2 nD2 => lcF1 (f := fun x : File => V.str x.1) nD2 (hw H' s) hlen hz (fun i c x hc hx H2 Rk s2 k => ?_) fun H2 s2 d2 => ?_
          · obtain ⟨y, hy, ry⟩ := paired_get hR i c hc
            rw [hx] at hy
            cases hy
            exact g_row (ry.st (s.trans s2).t) fun w lw => ⟨by rfl, _, rfl, k H2 (.refl _)⟩
          · refine ⟨D2, fs.map (·.1), rfl, sqL (by rw [d2, List.map_map]; rfl), by rw [List.length_map]; exact hsm.1, fun z hz => ?_, fun H3 s3 => ?_⟩
            · obtain ⟨x, hx, rfl⟩ := List.mem_map.mp hz
              exact (hsm.2 x hx).1
            · have r := r0 H3 ((s.trans s2).trans s3)
              rw [Bool.true_and] at r
              exact r
end
end K02

set_option maxRecDepth 100000
set_option maxHeartbeats 4000000
namespace K02
open PySem PySem.Spec PyProof.Rows L2 TL Ga NdefX
/-- the statements of a class -/
def clsB : Stmt → List Stmt
  | .ClassDef _ _ _ b _ _ _ _ _ _ _ => b
  | _ => []
def meth (c : Stmt) (i : Nat) : Stmt := (clsB c).getD i (.Pass ⟨0, 0, 0, 0⟩)
abbrev sOorInit : Stmt := meth (top 2) 0
theorem scOor : NScope ["self", "name", "__class__"] ["self", "name"] ["__class__"] (defScope sOorInit) := nscope_by (by decide +kernel)
/-- OutOfRange.__init__, as it is made -/
def fOor (cc c : Addr) : NF := ⟨"__init__", "OutOfRange.__init__", defArgs sOorInit, defBody sOorInit, defScope sOorInit, [(("__class__" : Str), cc)], c⟩
/-- OutOfRange(name), as it is made -/
def spOor (C : Addr) : Sp := fun vs H Q _ => ∃ (a : Addr) (z : Str), vs = [.ref a, .str z] ∧ H a = some (exo a C none) ∧ (tl z).length ≤ 1000 ∧
  ∀ dx, H dx = none → dx ≠ a → Q .non (upd (upd H dx (exd dx [("name", .str z)])) a (exo a C (some dx)))
section
variable {P : Program} {w : World} {K : PySem.W.Frag} {mg : Str → Option Value} {base : Heap}
theorem ok_oor {f C cc c : Addr} {fd : FuncData} (SI : SupIn P K f C (fOor cc c) fd) (SC : SupC K C) (hsuper : mg "super" = none) (htop : (P.main.scope.names.lookup ("super" : Str)).isSome = false)
    (hno : PySem.W.findIn K (.ref C) "name" = some none) : FnOk P w K mg base CX0 1 f fd ["self", "name"] (spOor C) := by
  refine ok_sup (N := ["self", "name", "__class__"]) (ar := ⟨"self", none, ⟨6, 17, 6, 21⟩⟩) SI SC ⟨scOor, rfl, rfl, rfl, htop⟩ hsuper rfl (fun vs H Q E h => ?_) (by intro _; rfl) (by intro _; rfl) (by intro _; exact ⟨_, rfl⟩) (by intro _; rfl) (by intro _; rfl) ?_
  · obtain ⟨a, z, rfl, _⟩ := h
    rfl
  · intro A outer s H vs Q E hr h
    obtain ⟨a, z, rfl, ha, hz, q⟩ := h
    refine ⟨a, _, _, rfl, ha, pa_cons (pe_joined (PJ.cons (pe_fmt (pv 1)) (PJ.cons pe_str PJ.nil))) pa_nil, pss_one (ps_ost (pv 0) (pv 1)), ?_⟩
    have l1 : z.length ≤ sizeLine := lenle hz
    have l2 : (Str.empty ++ z : Str).length ≤ sizeLine := by
      rw [len_tl, tl_append, List.length_append]
      exact Nat.le_trans (show 0 + (tl z).length ≤ 1000 by omega) (by decide)
    have l3 : ((Str.empty ++ z : Str) ++ (" is out of range" : Str)).length ≤ sizeLine := by
      rw [len_tl, tl_append, tl_append, List.length_append, List.length_append]
      exact Nat.le_trans (show 0 + (tl z).length + 16 ≤ 1016 by omega) (by decide)
    exact ⟨_, rfl, .inl ⟨z, rfl, l1, z, rfl, l2, _, rfl, l3, (by show 1 ≤ 1000; decide), ha, _, rfl, _, rfl, a, C, rfl, SC.toOexC, hno, .inl ⟨ha, fun dx n ne => q dx n ne⟩⟩⟩
end
end K02

set_option maxRecDepth 100000
set_option maxHeartbeats 4000000
namespace K02
open PySem PySem.Spec PyProof.Rows L2 TL Ga NdefX
abbrev sTree : Stmt := top 21
abbrev sInit : Stmt := meth sTree 0
abbrev sTreeOf : Stmt := top 22
theorem scInit : FnScope ["self", "files", "path", "lines"] ["self", "files"] (defScope sInit) := ⟨rfl, rfl, rfl, by decide +kernel, rfl, by decide +kernel, by decide +kernel⟩
/-- a table of files: the paths' lines -/
def Tab (K : PySem.W.Frag) (H : Hp) (d : Addr) (fs : List File) : Prop := ∃ kvs : List (Key × V), H d = some (.dK kvs) ∧ Paired (fun (f : File) (kv : Key × V) => kv.1 = .inr f.1 ∧ LinesAt K H kv.2 f.2) fs kvs ∧ (fs.map (·.1)).Nodup ∧ fs.length ≤ 40
/-- a tree of files -/
def TreeAt (K : PySem.W.Frag) (C : Addr) (H : Hp) (p : Addr) (fs : List File) : Prop := ∃ dx d, H p = some (.ins C dx [("_table", .ref d)]) ∧ Tab K H d fs
def paths (fs : List File) : List Str := fs.map (·.1)
/-- OutOfRange("files") is let out -/
def Oor (Co : Addr) (z : Str) (H : Hp) (E : XK) : Prop := ∀ (H' : Hp) (e : Addr), Same H H' → H e = none → H' e = some (.xd [("name", .str z)]) → E (.ref Co) (some e) H'
def spInit (K : PySem.W.Frag) (C Co : Addr) : Sp := fun vs H Q E => ∃ (p dx : Addr) (x : V) (fs : List File), vs = [.ref p, x] ∧ H p = some (.ins C dx []) ∧ Files K H x fs ∧ Small fs ∧
  (goodFiles fs = true → ∀ H', Kp p H H' → TreeAt K C H' p fs → Q .non H') ∧ (goodFiles fs = false → Oor Co "files" H E)
/-- what the top has left of an error class with a name -/
structure OorC (P : Program) (w : World) (K : PySem.W.Frag) (mg : Str → Option Value) (base : Heap) (Co fo : Addr) (fdo : FuncData) : Prop where
  ok : FnOk P w K mg base CX0 1 fo fdo ["self", "name"] (spOor Co)
  ex : OexC K Co
  init : PySem.W.findIn K (.ref Co) "__init__" = some (some (.ref fo))
  fn : PySem.W.typeIn K (.ref fo) = some (.type "function")
  binds : Binds K fdo ["self", "name"] []
  gl : mg "OutOfRange" = some (.ref Co)
theorem raise_oor {σ : L2.St} {H : Hp} {Q : XK} {Co : Addr} {z : Str} (hz : (tl z).length ≤ 1000) (h : Oor Co z H Q) : tMkO Co (spOor Co) [] (tCons (tC (.str z)) tNil) σ H Q := by
  refine ⟨by show 1 ≤ 1000; decide, fun a na => ⟨a, z, rfl, upd_same, hz, fun dx nd ne => ?_⟩⟩
  have nd1 : H dx = none := by rw [upd_ne ne] at nd; exact nd
  refine ⟨rfl, dx, [("name", .str z)], upd_same, by rw [upd_ne ne, upd_same], nd1, h _ dx (fun b o e => ?_) nd1 upd_same⟩
  have n1 := ne_of_none e na
  have n2 := ne_of_none e nd1
  rw [upd_ne n2, del_ne n1, upd_ne n1, upd_ne n2, upd_ne n1]
  exact e
theorem cnt_apart {l : List Str} (h : apart l = true) : l.Nodup := by
  unfold apart at h
  have h1 : ¬ ((cnt l l.length : Int) < l.length) := of_decide_eq_false (not_t (Bool.and_eq_true_iff.mp h).1)
  have h2 := cnt_le l l.length
  have h3 := (cnt_nodup l l.length (Nat.le_refl _)).mp (by omega)
  rwa [List.take_length] at h3
theorem nd_inr : ∀ {l : List Str}, l.Nodup → (l.map (Sum.inr : Str → Key)).Nodup
  | [], _ => List.nodup_nil
  | a :: r, h => List.nodup_cons.mpr ⟨fun m => by
      obtain ⟨b, hb, e⟩ := List.mem_map.mp m
      cases e
      exact (List.nodup_cons.mp h).1 hb, nd_inr (List.nodup_cons.mp h).2⟩
theorem good_nodup {fs : List File} (h : goodFiles fs = true) : (paths fs).Nodup := cnt_apart (Bool.and_eq_true_iff.mp h).2
theorem good_len {fs : List File} (h : goodFiles fs = true) : fs.length ≤ 20 := by
  have := of_decide_eq_true (Bool.and_eq_true_iff.mp (Bool.and_eq_true_iff.mp h).1).1
  omega
section
variable {P : Program} {w : World} {K : PySem.W.Frag} {mg : Str → Option Value} {base : Heap}
theorem ok_init {f f1 C Co fo : Addr} {fd fd1 fdo : FuncData} {dvs : List V} (F : FunD K "__init__" "Tree.__init__" (defArgs sInit) (defBody sInit) (defScope sInit) dvs [] f fd) (T : Tx mg) (cl : Cls K C) (nt : NoAttr K C "_table")
    (G1 : FnOk P w K mg base CX0 4 f1 fd1 ["files"] (spFiles K)) (g1 : mg "are_files" = some (.ref f1)) (k1 : PySem.W.keepIn K (.ref f1) = true) (b1 : Binds K fd1 ["files"] [])
    (O : OorC P w K mg base Co fo fdo) : FnOk P w K mg base (L2.CX P w) 5 f fd ["self", "files"] (spInit K C Co) := by
  refine F.ok scInit (fun vs H Q E h => ?_) (fun cdv A outer s H vs Q E hr h => ?_)
  · obtain ⟨p, dx, x, fs, rfl, _⟩ := h
    rfl
  · obtain ⟨p, dx, _, fs, rfl, hp, ⟨a, vs, rfl, hS, hR⟩, hsm, q1, q2⟩ := h
    have hlen : vs.length = fs.length := hR.length
    have hz : vs.length ≤ 100000 := by have := hsm.1; omega
    obtain ⟨wi, J, hpi, hwi, hw⟩ := src (K := K) (i := 1) hS
    refine ⟨_, pss_cons (ps_if (pt_not (pt_val (pe_call G1 hr (by rfl) g1 k1 b1 .nil pass0 (pa_cons (pv 1) pa_nil))))
        (pss_one (ps_raise (W := fun cls d _ H => E cls d H) rfl (takes_of rfl rfl rfl rfl) (pmk_oex O.ex O.init O.fn O.ok (hr.mono (by decide)) O.binds .nil pass0 (by rfl) O.gl (pa_cons pe_str pa_nil)))) pss_nil)
      (pss_one (ps_fld (pv 0) (pe_dc (own := [("path", 2), ("lines", 3)]) rfl scInit.nd (hpi _ _ _ rfl (pv 1)) (blkOk_by (N := ["self", "files", "path", "lines"]) (sc := defScope sInit) (by decide +kernel))
          (fun _ _ _ _ _ => pgT (K := K) (n := 2) rfl rfl (pgs_cons (pg_name (i := 2) scInit.nd rfl (Or.inl rfl)) (pgs_cons (pg_name (i := 3) scInit.nd rfl (Or.inl rfl)) pgs_nil))) (fun _ _ _ _ _ => pts_nil)
          (fun _ _ _ _ _ => pv 2) (fun _ _ _ _ _ => pe_callTy (callTup (K := K) rfl) (by rfl) T.tuple (by decide +kernel) (pa_cons (pv 3) pa_nil))) rfl)), ?_⟩
    refine ⟨_, rfl, _, fs, rfl, ⟨a, vs, rfl, hS, hR⟩, hsm, fun H1 s1 => ?_⟩
    refine ⟨_, rfl, ite2 (fun e => ?_) (fun e => ?_)⟩
    · refine raise_oor (by decide +kernel) fun H2 e2 s2 n2 h2 => q2 (not_t e) H2 e2 (s1.trans s2) ?_ h2
      cases e3 : H e2 with
      | none => rfl
      | some o => rw [s1 _ _ e3] at n2; cases n2
    · have gd := not_f e
      refine hwi _ H1 _ s1 (by rfl) ?_
      refine fun D nD => dc_rel (R := fun H (f : File) kv => kv.1 = .inr f.1 ∧ LinesAt K H kv.2 f.2) (p := fun _ => true) (as := fs) nD (hw H1 s1) hlen hz (fun st h => ⟨h.1, h.2.st st⟩) (fun f => .inr f.1) (fun h => h.1) ?_ (fun i c x hc hx H2 Rk Rn s2 k _ => ?_) fun H2 ys s2 d pr => ?_
      · rw [filterY]
        have := nd_inr (good_nodup gd)
        rw [paths, List.map_map] at this
        exact this
      · obtain ⟨y, hy, ry⟩ := paired_get hR i c hc
        rw [hx] at hy
        cases hy
        refine g_row (ry.st (s1.trans s2).t) fun w lw => ⟨by rfl, ?_⟩
        obtain ⟨b, rfl, hb⟩ := lw
        exact ⟨_, rfl, _, rfl, b, _, rfl, .inr ⟨hb, k (.inr x.1, .ref b) H2 rfl (.refl _) ⟨rfl, b, rfl, hb⟩⟩⟩
      · rw [filterY] at pr
        have hp2 := (s1.trans s2) _ _ hp
        refine ⟨_, rfl, p, C, dx, [], rfl, hp2, cl, nt, by decide, q1 gd _ (fun b o n e => ?_) ⟨dx, D, upd_same, ys, ?_, ?_⟩⟩
        · rw [upd_ne n]
          exact (s1.trans s2) _ _ e
        · rw [upd_ne (fun z => by rw [z, hp2] at d; cases d)]
          exact d
        · exact ⟨pr.mono fun _ _ h => ⟨h.1, h.2.st (.put hp2 rfl)⟩, good_nodup gd, Nat.le_trans (good_len gd) (by decide)⟩
end
end K02

set_option maxRecDepth 100000
set_option maxHeartbeats 4000000
namespace K02
open PySem PySem.Spec PyProof.Rows L2 TL Ga NdefX
abbrev sTFiles : Stmt := meth sTree 1
abbrev sTLines : Stmt := meth sTree 2
abbrev sTPaths : Stmt := meth sTree 3
abbrev sTIsFolder : Stmt := meth sTree 4
abbrev sTWith : Stmt := meth sTree 5
abbrev sTWithout : Stmt := meth sTree 6
abbrev sTIsSame : Stmt := meth sTree 7
theorem scTFiles : FnScope ["self", "path"] ["self"] (defScope sTFiles) := ⟨rfl, rfl, rfl, by decide +kernel, rfl, by decide +kernel, by decide +kernel⟩
theorem scTLines : FnScope ["self", "path"] ["self", "path"] (defScope sTLines) := ⟨rfl, rfl, rfl, by decide +kernel, rfl, by decide +kernel, by decide +kernel⟩
theorem scTPaths : FnScope ["self", "place", "path"] ["self", "place"] (defScope sTPaths) := ⟨rfl, rfl, rfl, by decide +kernel, rfl, by decide +kernel, by decide +kernel⟩
theorem scTIsFolder : FnScope ["self", "place"] ["self", "place"] (defScope sTIsFolder) := ⟨rfl, rfl, rfl, by decide +kernel, rfl, by decide +kernel, by decide +kernel⟩
theorem scTWith : FnScope ["self", "path", "lines", "table"] ["self", "path", "lines"] (defScope sTWith) := ⟨rfl, rfl, rfl, by decide +kernel, rfl, by decide +kernel, by decide +kernel⟩
theorem scTWithout : FnScope ["self", "path", "kept"] ["self", "path"] (defScope sTWithout) := ⟨rfl, rfl, rfl, by decide +kernel, rfl, by decide +kernel, by decide +kernel⟩
theorem scTIsSame : FnScope ["self", "other"] ["self", "other"] (defScope sTIsSame) := ⟨rfl, rfl, rfl, by decide +kernel, rfl, by decide +kernel, by decide +kernel⟩
theorem scTreeOf : FnScope ["table", "tree"] ["table"] (defScope sTreeOf) := ⟨rfl, rfl, rfl, by decide +kernel, rfl, by decide +kernel, by decide +kernel⟩
/-- what the written part says of the class Tree -/
structure TreeC (K : PySem.W.Frag) (C : Addr) : Prop where
  cl : Cls K C
  nt : NoAttr K C "_table"
theorem paired_swap {α β : Type} {F : α → β → Prop} : ∀ {l : List α} {m : List β}, Paired F l m → Paired (fun b a => F a b) m l
  | _, _, .nil => .nil
  | _, _, .cons h t => .cons h (paired_swap t)
/-! ### tables -/
theorem keys_of {K : PySem.W.Frag} {H : Hp} : ∀ {fs : List File} {kvs : List (Key × V)}, Paired (fun (f : File) (kv : Key × V) => kv.1 = .inr f.1 ∧ LinesAt K H kv.2 f.2) fs kvs → kvs.map (·.1) = (fs.map (·.1)).map Sum.inr
  | _, _, .nil => rfl
  | _, _, .cons h t => by rw [List.map_cons, keys_of t, h.1]; rfl
theorem val_of {K : PySem.W.Frag} {H : Hp} : ∀ {fs : List File} {kvs : List (Key × V)}, Paired (fun (f : File) (kv : Key × V) => kv.1 = .inr f.1 ∧ LinesAt K H kv.2 f.2) fs kvs → ∀ {x : Str},
    (x ∉ fs.map (·.1) → valV kvs (.inr x) = none) ∧ ((fs.map (·.1)).Nodup → ∀ f ∈ fs, f.1 = x → ∃ v, valV kvs (.inr x) = some v ∧ LinesAt K H v f.2)
  | _, _, .nil, x => ⟨fun _ => rfl, fun _ f h => nomatch h⟩
  | _, _, .cons (a := g) (b := kv) h t, x => by
    obtain ⟨ih1, ih2⟩ := val_of t (x := x)
    refine ⟨fun n => ?_, fun nd f hf e => ?_⟩
    · rw [valV_neg (fun e => n ?_), ih1 fun m => n (List.mem_cons_of_mem _ m)]
      rw [h.1] at e
      rw [← Sum.inr.inj e]
      exact List.mem_cons_self
    · have nd2 := List.nodup_cons.mp nd
      rcases List.mem_cons.mp hf with rfl | hf1
      · exact ⟨kv.2, valV_pos (by rw [h.1, e]), h.2⟩
      · rw [valV_neg (fun e2 => nd2.1 ?_)]
        · exact ih2 nd2.2 f hf1 e
        · rw [h.1] at e2
          exact List.mem_map.mpr ⟨f, hf1, by rw [e, ← Sum.inr.inj e2]⟩
def spTFiles (K : PySem.W.Frag) (C : Addr) : Sp := fun vs H Q _ => ∃ (p : Addr) (fs : List File), vs = [.ref p] ∧ TreeAt K C H p fs ∧ ∀ H' a ws, Same H H' → H a = none → H' a = some (.tup ws) → RowsAt K H' ws (srtF fs) → Q (.ref a) H'
section
variable {P : Program} {w : World} {K : PySem.W.Frag} {mg : Str → Option Value} {base : Heap}
theorem ok_tfiles {f C : Addr} {fd : FuncData} (F : Fun K "files" "Tree.files" sTFiles f fd) (T : Tx mg) (tc : TreeC K C) : FnOk P w K mg base CX0 1 f fd ["self"] (spTFiles K C) := by
  refine F.ok scTFiles (fun vs H Q E h => ?_) (fun cdv A outer s H vs Q E hr h => ?_)
  · obtain ⟨p, fs, rfl, _⟩ := h
    rfl
  · obtain ⟨p, fs, rfl, ⟨dx, d, hp, kvs, hd, pr, nd, hl⟩, q⟩ := h
    refine ⟨_, pss_one (ps_ret (pe_callTy (callTup (K := K) rfl) (by rfl) T.tuple (by decide +kernel) (pa_cons
      (pe_lc (own := [("path", 1)]) rfl scTFiles.nd (piL (K := K) rfl (pe_callB (call_sortedD rfl) (by rfl) T.sorted (by decide +kernel) (pa_cons (peF (K := K) rfl (pv 0)) pa_nil)))
        (blkOk_by (N := ["self", "path"]) (sc := defScope sTFiles) (by decide +kernel)) (fun _ _ _ _ _ => pg_name (i := 1) scTFiles.nd rfl (Or.inl rfl)) (fun _ _ _ _ _ => pts_nil)
        (fun _ _ _ _ _ => pe_tup (pa_cons (pv 1) (pa_cons (pe_dget (hu_of hr) (peF (K := K) rfl (pv 0)) (pv 1) (fun _ _ => rfl)) pa_nil)))) pa_nil))), ?_⟩
    refine ⟨_, rfl, p, C, dx, _, _, rfl, hp, tc.cl, tc.nt, rfl, d, kvs, fs.map (·.1), rfl, .inl hd, keys_of pr, by rw [List.length_map]; omega, fun ys l perm srt nl => ?_⟩
    have ey := sorted_is perm srt
    subst ey
    have s1 : Same H (upd H l (.lst (((srtF fs).map (·.1)).map V.str))) := same_upd nl
    refine ⟨l, rfl, ⟨_, sqL upd_same⟩, fun D nD => ?_⟩
    refine lc_rel (R := fun H f y => RowAt K H y f) (as := srtF fs) (p := fun _ => true) nD (same_walkL (sqL upd_same)) (by simp) (by simp [srtF_len]; omega) (fun st h => h.st st) (fun i c x hc hx H2 Rk Rn s2 k _ => ?_) fun H2 ws s2 e2 pr2 => ?_
    · have ec : c = V.str x.1 := by
        rw [List.map_map, List.getElem?_map, hx] at hc
        exact (Option.some.inj hc).symm
      subst ec
      refine ⟨by rfl, ?_⟩
      dsimp only [tYes]
      rw [if_pos rfl]
      obtain ⟨v, ev, lv⟩ := (val_of pr (x := x.1)).2 nd x ((srtF_perm fs).mem_iff.mp (List.mem_of_getElem? hx)) rfl
      have sa := s1.trans s2
      refine ⟨_, rfl, _, rfl, p, C, dx, _, _, rfl, sa _ _ hp, tc.cl, tc.nt, rfl, _, rfl, d, v, rfl, ?_, by show 2 ≤ sizeLine; decide, fun t nt => ?_⟩
      · rw [← ev]
        exact DGet.k (k := .inr x.1) (sa _ _ hd)
      · exact k _ _ rfl (same_upd nt) ⟨t, v, rfl, sqT upd_same, lv.st (sa.trans (same_upd nt)).t⟩
    · rw [filterY] at pr2
      refine ⟨D, ws, rfl, .inl ⟨sqL e2, fun r nr => ?_⟩⟩
      have sb : Same H (upd H2 r (.tup ws)) := (s1.trans s2).trans (same_upd nr)
      refine q _ r ws sb ?_ upd_same (RowsAt.st (paired_swap pr2) (same_upd nr).t)
      cases e3 : H r with
      | none => rfl
      | some o => rw [(s1.trans s2) _ _ e3] at nr; cases nr
end
end K02

set_option maxRecDepth 100000
set_option maxHeartbeats 4000000
namespace K02
open PySem PySem.Spec PyProof.Rows L2 TL Ga NdefX
/-- the lines of the file with this path -/
def getF : List File → Str → Option (List Str)
  | [], _ => none
  | f :: r, x => if f.1 = x then some f.2 else getF r x
/-- these lines, or none -/
def OptAt (K : PySem.W.Frag) (H : Hp) (v : V) : Option (List Str) → Prop
  | none => v = .non
  | some l => LinesAt K H v l
theorem get_of {K : PySem.W.Frag} {H : Hp} {x : Str} : ∀ {fs : List File} {kvs : List (Key × V)}, Paired (fun (f : File) (kv : Key × V) => kv.1 = .inr f.1 ∧ LinesAt K H kv.2 f.2) fs kvs → OptAt K H ((valV kvs (.inr x)).getD .non) (getF fs x)
  | _, _, .nil => rfl
  | _, _, .cons (a := g) (b := kv) h t => by
    unfold getF
    by_cases e : g.1 = x
    · rw [if_pos e, valV_pos (by rw [h.1, e])]
      exact h.2
    · rw [if_neg e, valV_neg (fun z => e (by rw [h.1] at z; exact Sum.inr.inj z))]
      exact get_of t
def spTLines (K : PySem.W.Frag) (C : Addr) : Sp := fun vs H Q _ => ∃ (p : Addr) (x : Str) (fs : List File), vs = [.ref p, .str x] ∧ TreeAt K C H p fs ∧ ∀ v, OptAt K H v (getF fs x) → Q v H
/-- the paths inside a place -/
def pathsIn (fs : List File) (place : Str) : List Str := ((srtF fs).map (·.1)).filter fun x => inside x place
def spTPaths (K : PySem.W.Frag) (C : Addr) : Sp := fun vs H Q _ => ∃ (p : Addr) (x : Str) (fs : List File), vs = [.ref p, .str x] ∧ TreeAt K C H p fs ∧ (tl x).length ≤ 1000 ∧ (∀ f ∈ fs, (tl f.1).length ≤ 1000) ∧
  ∀ H' a, Same H H' → H a = none → H' a = some (.tup ((pathsIn fs x).map V.str)) → Q (.ref a) H'
def isFolder (fs : List File) (place : Str) : Bool := decide (place = "") || decide (0 < (pathsIn fs place).length)
def spTIsFolder (K : PySem.W.Frag) (C : Addr) : Sp := fun vs H Q _ => ∃ (p : Addr) (x : Str) (fs : List File), vs = [.ref p, .str x] ∧ TreeAt K C H p fs ∧ (tl x).length ≤ 1000 ∧ (∀ f ∈ fs, (tl f.1).length ≤ 1000) ∧
  ∀ H', Same H H' → Q (.bl (isFolder fs x)) H'
def spTreeOf (K : PySem.W.Frag) (C : Addr) : Sp := fun vs H Q _ => ∃ (d : Addr) (fs : List File), vs = [.ref d] ∧ Tab K H d fs ∧ ∀ H' p, Same H H' → H p = none → TreeAt K C H' p fs → Q (.ref p) H'
theorem Tab.same {K : PySem.W.Frag} {H H' : Hp} {d : Addr} {fs : List File} (t : Tab K H d fs) (s : Same H H') : Tab K H' d fs := by
  obtain ⟨kvs, hd, pr, nd, hl⟩ := t
  exact ⟨kvs, s _ _ hd, pr.mono fun _ _ h => ⟨h.1, h.2.st s.t⟩, nd, hl⟩
theorem TreeAt.same {K : PySem.W.Frag} {C : Addr} {H H' : Hp} {p : Addr} {fs : List File} (t : TreeAt K C H p fs) (s : Same H H') : TreeAt K C H' p fs := by
  obtain ⟨dx, d, hp, t⟩ := t
  exact ⟨dx, d, s _ _ hp, t.same s⟩
section
variable {P : Program} {w : World} {K : PySem.W.Frag} {mg : Str → Option Value} {base : Heap}
theorem ok_tlines {f C : Addr} {fd : FuncData} (F : Fun K "lines" "Tree.lines" sTLines f fd) (T : Tx mg) (tc : TreeC K C) : FnOk P w K mg base CX0 1 f fd ["self", "path"] (spTLines K C) := by
  refine F.ok scTLines (fun vs H Q E h => ?_) (fun cdv A outer s H vs Q E hr h => ?_)
  · obtain ⟨p, x, fs, rfl, _⟩ := h
    rfl
  · obtain ⟨p, x, fs, rfl, ⟨dx, d, hp, kvs, hd, pr, nd, hl⟩, q⟩ := h
    refine ⟨_, pss_one (ps_ret (pe_dget1 (hu_of hr) (peF (K := K) rfl (pv 0)) (pv 1) ⟨rfl, rfl, rfl, rfl⟩)), ?_⟩
    exact ⟨_, rfl, p, C, dx, _, _, rfl, hp, tc.cl, tc.nt, rfl, d, rfl, .inl ⟨kvs, .inl hd⟩, _, rfl, valV kvs (.inr x), DGet.k (k := .inr x) hd, q _ (get_of pr)⟩
theorem ok_tpaths {f f1 C : Addr} {fd fd1 : FuncData} (F : Fun K "paths" "Tree.paths" sTPaths f fd) (T : Tx mg) (tc : TreeC K C) (G1 : FnOk P w K mg base CX0 1 f1 fd1 ["path", "place"] spInside)
    (g1 : mg "is_inside" = some (.ref f1)) (k1 : PySem.W.keepIn K (.ref f1) = true) (b1 : Binds K fd1 ["path", "place"] []) : FnOk P w K mg base CX0 2 f fd ["self", "place"] (spTPaths K C) := by
  refine F.ok scTPaths (fun vs H Q E h => ?_) (fun cdv A outer s H vs Q E hr h => ?_)
  · obtain ⟨p, x, fs, rfl, _⟩ := h
    rfl
  · obtain ⟨p, x, fs, rfl, ⟨dx, d, hp, kvs, hd, pr, nd, hl⟩, hx, hf, q⟩ := h
    refine ⟨_, pss_one (ps_ret (pe_callTy (callTup (K := K) rfl) (by rfl) T.tuple (by decide +kernel) (pa_cons
      (pe_lc (own := [("path", 2)]) rfl scTPaths.nd (piL (K := K) rfl (pe_callB (call_sortedD rfl) (by rfl) T.sorted (by decide +kernel) (pa_cons (peF (K := K) rfl (pv 0)) pa_nil)))
        (blkOk_by (N := ["self", "place", "path"]) (sc := defScope sTPaths) (by decide +kernel)) (fun _ _ _ _ _ => pg_name (i := 2) scTPaths.nd rfl (Or.inl rfl))
        (fun _ _ _ _ _ => pts_one (pt_val (pe_call G1 hr (by rfl) g1 k1 b1 .nil pass0 (pa_cons (pv 2) (pa_cons (pv 1) pa_nil)))))
        (fun _ _ _ _ _ => pv 2)) pa_nil))), ?_⟩
    refine ⟨_, rfl, p, C, dx, _, _, rfl, hp, tc.cl, tc.nt, rfl, d, kvs, fs.map (·.1), rfl, .inl hd, keys_of pr, by rw [List.length_map]; omega, fun ys l perm srt nl => ?_⟩
    have ey := sorted_is perm srt
    subst ey
    have s1 : Same H (upd H l (.lst (((srtF fs).map (·.1)).map V.str))) := same_upd nl
    refine ⟨l, rfl, ⟨_, sqL upd_same⟩, fun D nD => ?_⟩
    refine lc_rel (R := fun H z y => y = V.str z) (as := (srtF fs).map (·.1)) (p := fun z => inside z x) nD (same_walkL (sqL upd_same)) (by simp) (by simp [srtF_len]; omega) (fun st h => h) (fun i c z hc hz H2 Rk Rn s2 k1 k2 => ?_) fun H2 ws s2 e2 pr2 => ?_
    · have ec : c = V.str z := by
        rw [List.getElem?_map, hz] at hc
        exact (Option.some.inj hc).symm
      subst ec
      refine ⟨by rfl, ?_⟩
      have hz2 : (tl z).length ≤ 1000 := by
        obtain ⟨g, hg, rfl⟩ := List.mem_map.mp (List.mem_of_getElem? hz)
        exact hf g ((srtF_perm fs).mem_iff.mp hg)
      refine ⟨_, rfl, _, rfl, z, x, rfl, hz2, hx, fun H3 s3 => ⟨_, rfl, ite2 (fun e => ?_) (fun e => ?_)⟩⟩
      · exact ⟨_, rfl, k1 _ H3 e s3 rfl⟩
      · exact k2 H3 (Bool.eq_false_iff.mpr e) s3
    · refine ⟨D, ws, rfl, .inl ⟨sqL e2, fun r nr => ?_⟩⟩
      have sb : Same H (upd H2 r (.tup ws)) := (s1.trans s2).trans (same_upd nr)
      refine q _ r sb (same_at (s1.trans s2) nr) ?_
      rw [upd_same, paired_map pr2]
      rfl
theorem ok_tisfolder {f f1 C : Addr} {fd fd1 : FuncData} (F : Fun K "is_folder" "Tree.is_folder" sTIsFolder f fd) (T : Tx mg) (tc : TreeC K C) (G1 : FnOk P w K mg base CX0 2 f1 fd1 ["self", "place"] (spTPaths K C))
    (m1 : Meth K C "paths" f1) (b1 : Binds K fd1 ["self", "place"] []) : FnOk P w K mg base CX0 3 f fd ["self", "place"] (spTIsFolder K C) := by
  refine F.ok scTIsFolder (fun vs H Q E h => ?_) (fun cdv A outer s H vs Q E hr h => ?_)
  · obtain ⟨p, x, fs, rfl, _⟩ := h
    rfl
  · obtain ⟨p, x, fs, rfl, t, hx, hf, q⟩ := h
    obtain ⟨dx, d, hp, tb⟩ := id t
    refine ⟨_, pss_one (ps_ret (pe_or (pe_cmpR op_eq (pv 1) pe_str (nomark _)) (pe_one (pe_cmpR op_gt (pe_callB call_len_seq (by rfl) T.len PySem.boot_len (pa_cons
      (pe_meth (pv 0) tc.cl m1 G1 hr b1 .nil pass0 (pa_cons (pv 1) pa_nil)) pa_nil)) pe_int (nomark _))))), ?_⟩
    refine ⟨_, rfl, rfl, _, rfl, ite2 (fun e => ?_) (fun e => ?_)⟩
    · have r := q H (.refl _)
      rw [isFolder, decide_eq_true (V.str.inj (of_decide_eq_true e)), Bool.true_or] at r
      exact r
    · refine ⟨_, rfl, p, dx, _, rfl, hp, rfl, _, rfl, p, x, fs, rfl, t, hx, hf, fun H' a s nA eA => ⟨a, _, rfl, .inr (sqT eA), _, _, rfl, rfl, ?_⟩⟩
      have r := q H' s
      rw [isFolder, decide_eq_false (fun z => e (by rw [z]; exact decide_eq_true rfl)), Bool.false_or] at r
      rw [List.length_map]
      have : decide ((0 : Int) < ((pathsIn fs x).length : Int)) = decide (0 < (pathsIn fs x).length) := decide_eq_decide.mpr (by omega)
      rw [← this] at r
      exact r
theorem ok_treeof {f f1 C Co fo : Addr} {fd fd1 fdo : FuncData} {e0 : Addr} {ds : List Value} (F : Fun K "tree_of" "tree_of" sTreeOf f fd) (T : Tx mg) (tc : TreeC K C) (M : Mk K C f1) (G1 : FnOk P w K mg base (L2.CX P w) 5 f1 fd1 ["self", "files"] (spInit K C Co))
    (g1 : mg "Tree" = some (.ref C)) (b1 : Binds K fd1 ["self", "files"] ds) (d1 : Vals [V.ref e0] ds) (he : ∀ H : Hp, SqT K H e0 []) : FnOk P w K mg base CX0 7 f fd ["table"] (spTreeOf K C) := by
  refine F.ok scTreeOf (fun vs H Q E h => ?_) (fun cdv A outer s H vs Q E hr h => ?_)
  · obtain ⟨d, fs, rfl, _⟩ := h
    rfl
  · obtain ⟨d, fs, rfl, tb, q⟩ := h
    refine ⟨_, pss_cons (ps_set (i := 1) scTreeOf.nd rfl (.inl rfl) (pe_make0 M G1 hr (by rfl) g1 b1 d1 passF))
      (pss_cons (ps_fld (pv 1) (pv 0) rfl) (pss_one (ps_ret (pv 1)))), ?_⟩
    intro x dx nx ndx nex
    refine ⟨x, dx, .ref e0, [], rfl, upd_same, ⟨e0, [], rfl, .inr (he _), .nil⟩, ⟨by decide, fun f h => nomatch h⟩, fun _ H' kp t => ⟨rfl, ?_⟩, fun z => ?_⟩
    · obtain ⟨dx2, d2, hx, tb2⟩ := t
      have s0 : Same H H' := fun b o e => by
        refine kp b o (ne_of_none e nx) ?_
        rw [upd_ne (ne_of_none e nx), upd_ne (ne_of_none e ndx)]
        exact e
      refine ⟨_, rfl, _, rfl, x, C, dx2, _, rfl, hx, tc.cl, tc.nt, by show 1 < 1000; decide, _, rfl, ?_⟩
      have s2 : Same H (upd H' x (.ins C dx2 [("_table", .ref d)])) := s0.mut nx
      exact q _ x s2 nx ⟨dx2, d, upd_same, tb.same s2⟩
    · exact absurd z (by decide +kernel)
end
end K02

set_option maxRecDepth 100000
set_option maxHeartbeats 4000000
namespace K02
open PySem PySem.Spec PyProof.Rows L2 TL Ga NdefX
/-! ### two tables compared -/
def sameB (fs gs : List File) : Bool := (fs.length == gs.length) && fs.all fun f => decide (getF gs f.1 = some f.2)
abbrev relF (K : PySem.W.Frag) (H : Hp) : File → Key × V → Prop := fun f kv => kv.1 = .inr f.1 ∧ LinesAt K H kv.2 f.2
def okLs (fs : List File) : Prop := ∀ f ∈ fs, ∀ z ∈ f.2, PyData.strOk z = true
theorem eqv_strs : ∀ l m : List Str, PyData.eqvAll (l.map PyData.str) (m.map PyData.str) = decide (l = m)
  | [], [] => rfl
  | [], _ :: _ => rfl
  | _ :: _, [] => rfl
  | x :: l, y :: m => by
    show (x == y && PyData.eqvAll (l.map PyData.str) (m.map PyData.str)) = decide (x :: l = y :: m)
    rw [eqv_strs l m]
    by_cases h1 : x = y
    · subst h1
      by_cases h2 : l = m
      · subst h2
        simp
      · simp [h2]
    · simp [h1]
theorem val_opt {K : PySem.W.Frag} {H : Hp} {x : Str} : ∀ {gs : List File} {kvs : List (Key × V)}, Paired (relF K H) gs kvs → (getF gs x = none ∧ valV kvs (.inr x) = none) ∨ ∃ l v, getF gs x = some l ∧ valV kvs (.inr x) = some v ∧ LinesAt K H v l
  | _, _, .nil => .inl ⟨rfl, rfl⟩
  | _, _, .cons (a := g) (b := kv) h t => by
    unfold getF
    by_cases e : g.1 = x
    · exact .inr ⟨g.2, kv.2, if_pos e, valV_pos (by rw [h.1, e]), h.2⟩
    · rw [if_neg e, valV_neg (fun z => e (by rw [h.1] at z; exact Sum.inr.inj z))]
      exact val_opt t
theorem getF_mem {x : Str} : ∀ {gs : List File} {l : List Str}, getF gs x = some l → (x, l) ∈ gs
  | [], _, h => by cases h
  | g :: r, l, h => by
    unfold getF at h
    by_cases e : g.1 = x
    · rw [if_pos e] at h
      cases h
      rw [← e]
      exact List.mem_cons_self
    · rw [if_neg e] at h
      exact List.mem_cons_of_mem _ (getF_mem h)
section
variable {X : Cx} {K : PySem.W.Frag}
def rEqTab (K : PySem.W.Frag) : R2 := fun x y H Q => ∃ (a b : Addr) (ks ls : List (Key × V)) (fs gs : List File), x = .ref a ∧ y = .ref b ∧ H a = some (.dK ks) ∧ H b = some (.dK ls) ∧ Paired (relF K H) fs ks ∧ Paired (relF K H) gs ls ∧
  okLs fs ∧ okLs gs ∧ Q (.bl (sameB fs gs)) H
theorem hits_tab {pins : List (Addr × Obj)} {σ : L2.St} {H : Hp} {s : Shared} (I : Inv X pins σ H s) {A : Around} (hu : A.units + 8 < cLine) {gs : List File} {ls : List (Key × V)} {vb : List (Key × Value)} (rb : KV ls vb) (pg : Paired (relF X.K H) gs ls) (og : okLs gs) :
    ∀ {fs : List File} {ks : List (Key × V)} {va : List (Key × Value)}, KV ks va → Paired (relF X.K H) fs ks → okLs fs → PySem.W.KeqHitsP X.prog X.w A s vb va (fs.all fun f => decide (getF gs f.1 = some f.2))
  | _, _, _, .nil, .nil, _ => .nil
  | f :: fs, _, _, .cons (a := kv) (b := q) h t, .cons h2 t2, ok => by
    have ih := hits_tab I hu rb pg og t t2 fun g hg => ok g (List.mem_cons_of_mem _ hg)
    obtain ⟨key, v⟩ := q
    obtain ⟨e1, rv⟩ := h
    have e1' : kv.1 = key := e1
    rw [List.all_cons]
    have rr := rb.val (.inr f.1)
    rw [← e1', h2.1]
    rcases val_opt pg (x := f.1) with ⟨g1, g2⟩ | ⟨l, u, g1, g2, lu⟩
    · rw [g2] at rr
      rw [g1, decide_eq_false (by intro z; cases z), Bool.false_and]
      refine .miss ?_
      cases e : valueAt vb (.inr f.1) with
      | none => rfl
      | some z => rw [e] at rr; exact rr.elim
    · rw [g2] at rr
      obtain ⟨y, hy, ry⟩ := rr.some_of
      refine .hit hy ?_ ih
      obtain ⟨as, r1⟩ := Dp.reads I _ _ _ h2.2.dp rv
      obtain ⟨bs, r2⟩ := Dp.reads I _ _ _ lu.dp ry
      have c1 : (dL f.2).canLay0 = true := canAll _ (ok f List.mem_cons_self)
      have c2 : (dL l).canLay0 = true := canAll _ (og _ (getF_mem g1))
      have d1 : (dL f.2).depth = 1 := by
        show PyData.depthAll (f.2.map PyData.str) + 1 = 1
        rw [depthAll0]
      have := SeqAt.EqAt.eqP (prog := X.prog) (w := X.w) (SeqAt.eqAt_reads (dL f.2) (dL l) A s v y as bs r1 r2 c1 c2 (by rw [d1]; omega))
      have e3 : PyData.eqv (dL f.2) (dL l) = decide (getF gs f.1 = some f.2) := by
        rw [g1]
        show PyData.eqvAll _ _ = _
        rw [eqv_strs]
        exact decide_eq_decide.mpr ⟨fun z => by rw [z], fun z => (Option.some.inj z).symm⟩
      rw [e3] at this
      exact this
theorem op_eqTab (hu : X.A.units + 64 < cLine) (h : X.K = K) : OpR X (compareOp .Eq) (rEqTab K) := by
  subst h
  intro pins s σ H x y v u Q I rx ry h
  obtain ⟨a, b, ks, ls, fs, gs, rfl, rfl, ea, eb, pf, pg, of, og, q⟩ := h
  obtain rfl : v = Value.ref a := rx
  obtain rfl : u = Value.ref b := ry
  obtain ⟨_, ya, va, ra, da⟩ := dk_of I.hok ea
  obtain ⟨_, yb, vb, rb, db⟩ := dk_of I.hok eb
  refine PySem.W.rcP_dicts ya yb da db (by omega) (fun _ => hits_tab I (by show X.A.units + 1 + 8 < cLine; omega) rb pg og ra pf of) _ _ ⟨.bl (sameB fs gs), H, I, ?_, q⟩
  show Value.bool _ = Value.bool _
  rw [sameB, ← ra.length, ← rb.length, ← pf.length, ← pg.length]
end
end K02

set_option maxRecDepth 100000
set_option maxHeartbeats 4000000
namespace K02
open PySem PySem.Spec PyProof.Rows L2 TL Ga NdefX
theorem ne_str {x y : Str} (h : x ≠ y) : (!decide (V.str x = V.str y)) = true := by
  rw [decide_eq_false fun z => h (V.str.inj z)]
  rfl
/-- with this file, in place of one with this path -/
def putFs (fs : List File) (x : Str) (l : List Str) : List File := if (fs.any fun f => decide (f.1 = x)) = true then fs.map (fun f => if f.1 = x then (f.1, l) else f) else fs ++ [(x, l)]
def dropFs (fs : List File) (x : Str) : List File := fs.filter fun f => decide (f.1 ≠ x)
theorem put_rel {K : PySem.W.Frag} {H : Hp} {x : Str} {v : V} {l : List Str} (hv : LinesAt K H v l) : ∀ {fs : List File} {kvs : List (Key × V)}, Paired (relF K H) fs kvs →
    (fs.any fun f => decide (f.1 = x)) = (kvs.any fun kv => decide (kv.1 = .inr x)) ∧ Paired (relF K H) (fs.map (fun f => if f.1 = x then (f.1, l) else f)) (kvs.map fun kv => if kv.1 = .inr x then (kv.1, v) else kv)
  | _, _, .nil => ⟨rfl, .nil⟩
  | _, _, .cons (a := g) (b := kv) h t => by
    obtain ⟨i1, i2⟩ := put_rel hv t
    have e : (g.1 = x) ↔ (kv.1 = (Sum.inr x : Key)) := by
      rw [h.1]
      exact ⟨fun z => by rw [z], fun z => Sum.inr.inj z⟩
    refine ⟨by rw [List.any_cons, List.any_cons, i1, decide_eq_decide.mpr e], ?_⟩
    rw [List.map_cons, List.map_cons]
    refine .cons ?_ i2
    by_cases q : g.1 = x
    · rw [if_pos q, if_pos (e.mp q)]
      exact ⟨h.1, hv⟩
    · rw [if_neg q, if_neg (fun z => q (e.mpr z))]
      exact h
theorem put_tab {K : PySem.W.Frag} {H : Hp} {x : Str} {v : V} {l : List Str} (hv : LinesAt K H v l) {fs : List File} {kvs : List (Key × V)} (pr : Paired (relF K H) fs kvs) : Paired (relF K H) (putFs fs x l) (putK kvs (.inr x) v) := by
  obtain ⟨e, p⟩ := put_rel (x := x) hv pr
  unfold putFs putK
  rw [e]
  split
  · exact p
  · exact pr.snoc ⟨rfl, hv⟩
theorem put_paths (fs : List File) (x : Str) (l : List Str) : (putFs fs x l).map (·.1) = if (fs.any fun f => decide (f.1 = x)) = true then fs.map (·.1) else fs.map (·.1) ++ [x] := by
  unfold putFs
  split
  · rw [List.map_map]
    refine List.map_congr_left fun f _ => ?_
    show (if f.1 = x then (f.1, l) else f).1 = f.1
    split <;> rfl
  · rw [List.map_append]
    rfl
theorem put_nodup {fs : List File} {x : Str} {l : List Str} (h : (fs.map (·.1)).Nodup) : ((putFs fs x l).map (·.1)).Nodup := by
  rw [put_paths]
  split
  · exact h
  · rename_i n
    refine List.nodup_append.mpr ⟨h, by simp, fun a ha b hb e => n ?_⟩
    obtain rfl := List.mem_singleton.mp hb
    obtain ⟨f, hf, e2⟩ := List.mem_map.mp ha
    exact List.any_eq_true.mpr ⟨f, hf, decide_eq_true (e2.trans e)⟩
theorem put_len (fs : List File) (x : Str) (l : List Str) : (putFs fs x l).length ≤ fs.length + 1 := by
  unfold putFs
  split
  · simp
  · simp
def spTWith (K : PySem.W.Frag) (C : Addr) : Sp := fun vs H Q _ => ∃ (p : Addr) (x : Str) (v : V) (l : List Str) (fs : List File), vs = [.ref p, .str x, v] ∧ TreeAt K C H p fs ∧ LinesAt K H v l ∧ fs.length < 40 ∧
  ∀ H' p', Same H H' → H p' = none → TreeAt K C H' p' (putFs fs x l) → Q (.ref p') H'
def spTWithout (K : PySem.W.Frag) (C : Addr) : Sp := fun vs H Q _ => ∃ (p : Addr) (x : Str) (fs : List File), vs = [.ref p, .str x] ∧ TreeAt K C H p fs ∧
  ∀ H' p', Same H H' → H p' = none → TreeAt K C H' p' (dropFs fs x) → Q (.ref p') H'
def spTIsSame (K : PySem.W.Frag) (C : Addr) : Sp := fun vs H Q _ => ∃ (p r : Addr) (fs gs : List File), vs = [.ref p, .ref r] ∧ TreeAt K C H p fs ∧ TreeAt K C H r gs ∧ okLs fs ∧ okLs gs ∧ Q (.bl (sameB fs gs)) H
section
variable {P : Program} {w : World} {K : PySem.W.Frag} {mg : Str → Option Value} {base : Heap}
theorem ok_tissame {f C : Addr} {fd : FuncData} (F : Fun K "is_same" "Tree.is_same" sTIsSame f fd) (T : Tx mg) (tc : TreeC K C) : FnOk P w K mg base CX0 1 f fd ["self", "other"] (spTIsSame K C) := by
  refine F.ok scTIsSame (fun vs H Q E h => ?_) (fun cdv A outer s H vs Q E hr h => ?_)
  · obtain ⟨p, r, fs, gs, rfl, _⟩ := h
    rfl
  · obtain ⟨p, r, fs, gs, rfl, ⟨dx, d, hp, kvs, hd, pr, nd, hl⟩, ⟨dx2, d2, hp2, kvs2, hd2, pr2, nd2, hl2⟩, o1, o2, q⟩ := h
    refine ⟨_, pss_one (ps_ret (pe_cmpR (op_eqTab hr.units rfl) (peF (K := K) rfl (pv 0)) (peF (K := K) rfl (pv 1)) (nomark _))), ?_⟩
    exact ⟨_, rfl, p, C, dx, _, _, rfl, hp, tc.cl, tc.nt, rfl, _, rfl, r, C, dx2, _, _, rfl, hp2, tc.cl, tc.nt, rfl, d, d2, kvs, kvs2, fs, gs, rfl, rfl, hd, hd2, pr, pr2, o1, o2, q⟩
theorem ok_twith {f f1 C : Addr} {fd fd1 : FuncData} (F : Fun K "with_file" "Tree.with_file" sTWith f fd) (T : Tx mg) (tc : TreeC K C) (G1 : FnOk P w K mg base CX0 7 f1 fd1 ["table"] (spTreeOf K C))
    (g1 : mg "tree_of" = some (.ref f1)) (k1 : PySem.W.keepIn K (.ref f1) = true) (b1 : Binds K fd1 ["table"] []) : FnOk P w K mg base CX0 8 f fd ["self", "path", "lines"] (spTWith K C) := by
  refine F.ok scTWith (fun vs H Q E h => ?_) (fun cdv A outer s H vs Q E hr h => ?_)
  · obtain ⟨p, x, v, l, fs, rfl, _⟩ := h
    rfl
  · obtain ⟨p, x, v, l, fs, rfl, ⟨dx, d, hp, kvs, hd, pr, nd, hl⟩, hv, hlt, q⟩ := h
    refine ⟨_, pss_cons (ps_set (i := 3) scTWith.nd rfl (.inl rfl) (pe_callTy call_dictD (by rfl) T.dict (by decide +kernel) (pa_cons (peF (K := K) rfl (pv 0)) pa_nil)))
      (pss_cons (ps_dput (hu_of hr) (pv 3) (pv 1) (pe_callTy (callTup (K := K) rfl) (by rfl) T.tuple (by decide +kernel) (pa_cons (pv 2) pa_nil)) rfl)
      (pss_one (ps_ret (pe_call G1 hr (by rfl) g1 k1 b1 .nil pass0 (pa_cons (pv 3) pa_nil))))), ?_⟩
    obtain ⟨b, rfl, hb⟩ := id hv
    refine ⟨_, rfl, p, C, dx, _, _, rfl, hp, tc.cl, tc.nt, rfl, d, kvs, rfl, .inl hd, fun t nt => ?_⟩
    have s1 : Same H (upd H t (.dK kvs)) := same_upd nt
    have kl : kvs.length = fs.length := pr.length.symm
    refine ⟨_, rfl, b, _, rfl, .inr ⟨s1.seqT hb, ?_⟩⟩
    refine ⟨_, rfl, _, rfl, t, _, rfl, DPut.k (k := .inr x) upd_same (Nat.lt_of_le_of_lt (show kvs.length ≤ 40 by omega) (by decide)), ?_⟩
    have s2 : Same H (upd (upd H t (.dK kvs)) t (.dK (putK kvs (.inr x) (.ref b)))) := s1.mut nt
    refine ⟨_, rfl, t, putFs fs x l, rfl, ⟨_, upd_same, put_tab (hv.st s2.t) (pr.mono fun _ _ h => ⟨h.1, h.2.st s2.t⟩), put_nodup nd, by have := put_len fs x l; omega⟩, fun H' p' s3 np tr => ?_⟩
    exact q H' p' (s2.trans s3) (same_at s2 np) tr
theorem ok_twithout {f f1 C : Addr} {fd fd1 : FuncData} (F : Fun K "without" "Tree.without" sTWithout f fd) (T : Tx mg) (tc : TreeC K C) (G1 : FnOk P w K mg base CX0 7 f1 fd1 ["table"] (spTreeOf K C))
    (g1 : mg "tree_of" = some (.ref f1)) (k1 : PySem.W.keepIn K (.ref f1) = true) (b1 : Binds K fd1 ["table"] []) : FnOk P w K mg base CX0 8 f fd ["self", "path"] (spTWithout K C) := by
  refine F.ok scTWithout (fun vs H Q E h => ?_) (fun cdv A outer s H vs Q E hr h => ?_)
  · obtain ⟨p, x, fs, rfl, _⟩ := h
    rfl
  · obtain ⟨p, x, fs, rfl, ⟨dx, d, hp, kvs, hd, pr, nd, hl⟩, q⟩ := h
    refine ⟨_, pss_one (ps_ret (pe_call G1 hr (by rfl) g1 k1 b1 .nil pass0 (pa_cons (pe_lock
      (pe_dc (own := [("kept", 2)]) rfl scTWithout.nd (pi_keys (peF (K := K) rfl (pv 0))) (blkOk_by (N := ["self", "path", "kept"]) (sc := defScope sTWithout) (by decide +kernel))
        (fun _ _ _ _ _ => pg_name (i := 2) scTWithout.nd rfl (Or.inl rfl)) (fun _ _ _ _ _ => pts_one (pt_cmpR op_ne (pv 2) (pv 1) (nomark _)))
        (fun _ _ _ _ _ => pv 2) (fun _ _ _ _ _ => pe_dget (hu_of hr) (peF (K := K) rfl (pv 0)) (pv 2) (fun _ _ => rfl)))) pa_nil))), ?_⟩
    refine ⟨d, _, hd, trivial, fun od => ?_⟩
    have np : p ≠ d := fun z => by rw [z, hd] at hp; cases hp
    have hp2 : (upd H d (.frz od (.dK kvs))) p = some (.ins C dx [("_table", .ref d)]) := by rw [upd_ne np]; exact hp
    have stL : SameT H (upd H d (.frz od (.dK kvs))) := .put hd rfl
    refine ⟨_, rfl, p, C, dx, _, _, rfl, hp2, tc.cl, tc.nt, rfl, d, od, rfl, .inl ⟨kvs, upd_same, fun D nD => ?_⟩⟩
    refine dc_rel (R := relF K) (as := fs) (p := fun f => decide (f.1 ≠ x)) nD (same_walkK upd_same) (by rw [List.length_map]; exact pr.length.symm) (by rw [List.length_map, ← pr.length]; omega) (fun st h => ⟨h.1, h.2.st st⟩) (fun f => .inr f.1) (fun h => h.1) ?_ (fun i c f hc hf H2 Rk Rn s2 k1 k2 => ?_) fun H2 ys s2 e2 pr2 => ?_
    · have n1 := nd_inr nd
      rw [List.map_map] at n1
      exact n1.sublist (List.Sublist.map _ List.filter_sublist)
    · rw [List.getElem?_map] at hc
      obtain ⟨kv, hkv, rk⟩ := paired_get pr i f hf
      rw [hkv] at hc
      have ec : c = V.str f.1 := by
        have : kV kv.1 = c := Option.some.inj hc
        rw [← this, rk.1]
        rfl
      subst ec
      refine ⟨by rfl, ?_⟩
      refine ⟨_, rfl, _, rfl, rfl, _, rfl, ite2 (fun e => ?_) (fun e => ?_)⟩
      · obtain ⟨v, ev, lv⟩ := (val_of pr (x := f.1)).2 nd f (List.mem_of_getElem? hf) rfl
        refine ⟨_, rfl, _, rfl, p, C, dx, _, _, rfl, s2 _ _ hp2, tc.cl, tc.nt, rfl, _, rfl, d, v, rfl, .inl ⟨kvs, .inr f.1, .inr ⟨od, s2 _ _ upd_same⟩, rfl, ev.symm⟩, ?_⟩
        refine k1 (.inr f.1, v) H2 ?_ (.refl _) ⟨rfl, lv.st (stL.trans s2.t)⟩
        exact decide_eq_true fun z => by
          rw [z] at e
          exact absurd e (by simp)
      · refine k2 H2 ?_ (.refl _)
        refine decide_eq_false fun z => e ?_
        exact ne_str z
    · have nDd : D ≠ d := fun z => by rw [z, upd_same] at nD; cases nD
      have f2 : H2 d = some (.frz od (.dK kvs)) := s2 _ _ upd_same
      refine ⟨f2, D, dropFs fs x, rfl, ⟨ys, by rw [upd_ne nDd]; exact e2, ?_, ?_, ?_⟩, fun H' p' s3 np' tr => ?_⟩
      · exact pr2.mono fun _ _ h => ⟨h.1, h.2.st (.put f2 rfl)⟩
      · exact nd.sublist (List.Sublist.map _ List.filter_sublist)
      · exact Nat.le_trans (List.length_filter_le _ _) hl
      · have s4 : Same H (upd H2 d (.dK kvs)) := unlock s2 hd
        exact q H' p' (s4.trans s3) (same_at s4 np') tr
end
end K02

set_option maxRecDepth 100000
set_option maxHeartbeats 4000000
namespace K02
open PySem PySem.Spec PyProof.Rows L2 TL Ga NdefX
abbrev sLLines : Stmt := top 29
abbrev sBlocked : Stmt := top 31
abbrev sLFiles : Stmt := top 32
abbrev sRows : Stmt := top 33
abbrev sLIsFolder : Stmt := top 34
abbrev sTold : Stmt := top 42
abbrev sMany : Stmt := top 43
abbrev sBad : Stmt := top 44
abbrev sGood : Stmt := top 45
abbrev sLaw : Stmt := top 46
/-! ### tests -/
section
variable {K : PySem.W.Frag} {H : Hp} {σ : L2.St} {p q : Bool} {te : TE} {ta tb : TT}
def EvT (te : TT) (σ : L2.St) (H : Hp) (b : Bool) : Prop := ∀ H1, Same H H1 → ∀ Q : Bool → Hp → Prop, (∀ H2, Same H1 H2 → Q b H2) → te σ H1 Q
theorem etVal (h : EvS te σ H (.bl p)) : EvT (tB te) σ H p := fun H1 s Q k => h H1 s _ fun H2 s2 => ⟨p, rfl, k H2 s2⟩
theorem etNot (h : EvT ta σ H p) : EvT (tNot ta) σ H (!p) := fun H1 s Q k => h H1 s _ fun H2 s2 => k H2 s2
theorem etAnd (ha : EvT ta σ H p) (hb : EvT tb σ H q) : EvT (tAnd ta tb) σ H (p && q) := fun H1 s Q k => by
  refine ha H1 s _ fun H2 s2 => ?_
  cases p with
  | true => exact hb H2 (s.trans s2) _ fun H3 s3 => k H3 (s2.trans s3)
  | false => exact k H2 s2
theorem etOr (ha : EvT ta σ H p) (hb : EvT tb σ H q) : EvT (tOr ta tb) σ H (p || q) := fun H1 s Q k => by
  refine ha H1 s _ fun H2 s2 => ?_
  cases p with
  | true => exact k H2 s2
  | false => exact hb H2 (s.trans s2) _ fun H3 s3 => k H3 (s2.trans s3)
theorem etNe {i j : Nat} {x y : Str} (h : σ[i]? = some (some (.str x))) (g : σ[j]? = some (some (.str y))) : EvT (tTest (tOp rNe (tVar i) (tVar j))) σ H (!decide (x = y)) := fun H1 s Q k =>
  ⟨_, h, _, g, rfl, _, rfl, by
    have : decide (V.str x = V.str y) = decide (x = y) := decide_eq_decide.mpr ⟨V.str.inj, fun z => by rw [z]⟩
    rw [this]
    exact k H1 (.refl _)⟩
theorem EvT.go {b : Bool} (h : EvT ta σ H b) {Q : Bool → Hp → Prop} (k : ∀ H2, Same H H2 → Q b H2) : ta σ H Q := h H (.refl _) Q k
end
/-- a file of the law -/
def okFile (f : File) : Prop := isPth (.str f.1) ∧ f.2.length ≤ 13 ∧ ∀ z ∈ f.2, okText 21 z
def blocked (fs : List File) (x : Str) : Bool := fs.any fun f => !decide (f.1 = x) && (inside f.1 x || inside x f.1)
/-- lines, drawn -/
def spLLines (K : PySem.W.Frag) : Sp := fun vs H Q _ => ∃ (B D : Addr) (m : Int), vs = [.ref B, .int m] ∧ 0 ≤ m ∧ m ≤ 12 ∧ Box H B D ∧
  ∀ v l H', LinesAt K H' v l → l.length ≤ 12 → (∀ z ∈ l, okText 20 z ∧ isLine z = true) → Kp B H H' → Box H' B D → Q v H'
def spBlocked (K : PySem.W.Frag) : Sp := fun vs H Q _ => ∃ (d : Addr) (x : Str) (fs : List File), vs = [.ref d, .str x] ∧ Tab K H d fs ∧ (tl x).length ≤ 1000 ∧ (∀ f ∈ fs, (tl f.1).length ≤ 1000) ∧ ∀ H', Same H H' → Q (.bl (blocked fs x)) H'
theorem scLLines : FnScope ["box", "most", "k"] ["box", "most"] (defScope sLLines) := ⟨rfl, rfl, rfl, by decide +kernel, rfl, by decide +kernel, by decide +kernel⟩
theorem scBlocked : FnScope ["files", "path", "other"] ["files", "path"] (defScope sBlocked) := ⟨rfl, rfl, rfl, by decide +kernel, rfl, by decide +kernel, by decide +kernel⟩
theorem scRows : FnScope ["files", "path"] ["files"] (defScope sRows) := ⟨rfl, rfl, rfl, by decide +kernel, rfl, by decide +kernel, by decide +kernel⟩
theorem scLIsFolder : FnScope ["files", "place", "path"] ["files", "place"] (defScope sLIsFolder) := ⟨rfl, rfl, rfl, by decide +kernel, rfl, by decide +kernel, by decide +kernel⟩
theorem any_take {α : Type} {p : α → Bool} {l : List α} {i : Nat} {c : α} (h : l[i]? = some c) : (l.take (i + 1)).any p = ((l.take i).any p || p c) := by
  rw [List.take_add_one, h, List.any_append]
  simp
section
variable {P : Program} {w : World} {K : PySem.W.Frag} {mg : Str → Option Value} {base : Heap}
theorem ok_llines {f : Addr} {fd : FuncData} (F : Fun K "_law_lines" "_law_lines" sLLines f fd) (T : Tx mg) (CD : Cal P w K mg base 1 "_law_draw" ["box", "many"] spDraw) (CL : Cal P w K mg base 2 "_law_line" ["box"] spLine) :
    FnOk P w K mg base CX0 3 f fd ["box", "most"] (spLLines K) := by
  obtain ⟨fD, fdD, GD, gD, kD, bD⟩ := CD.ex
  obtain ⟨fL, fdL, GL, gL, kL, bL⟩ := CL.ex
  refine F.ok scLLines (fun vs H Q E h => ?_) (fun cdv A outer s H vs Q E hr h => ?_)
  · obtain ⟨B, D, m, rfl, _⟩ := h
    rfl
  · obtain ⟨B, D, m, rfl, m0, m12, bx, q⟩ := h
    refine ⟨_, pss_one (ps_ret (pe_callTy (callTup (K := K) rfl) (by rfl) T.tuple (by decide +kernel) (pa_cons
      (pe_lc (own := [("k", 2)]) rfl scLLines.nd (pi_range1 (by rfl) T.range (pa_cons (pe_call GD (hr.mono (by decide)) (by rfl) gD kD bD .nil pass0 (pa_cons (pv 0) (pa_cons (pe_op op_add (pv 1) pe_int) pa_nil))) pa_nil))
        (blkOk_by (N := ["box", "most", "k"]) (sc := defScope sLLines) (by decide +kernel)) (fun _ _ _ _ _ => pg_name (i := 2) scLLines.nd rfl (Or.inl rfl)) (fun _ _ _ _ _ => pts_nil)
        (fun _ _ _ _ _ => pe_call GL hr (by rfl) gL kL bL .nil pass0 (pa_cons (pv 0) pa_nil))) pa_nil))), ?_⟩
    refine ⟨_, rfl, _, rfl, _, _, rfl, rfl, B, D, m + 1, rfl, by omega, bx, fun r H1 r0 rm kp1 bx1 => ?_⟩
    refine ⟨r, rfl, by omega, by omega, fun C nC => ?_⟩
    refine lc_rng_box (n := r.toNat) (R := fun v => ∃ z, v = .str z ∧ okText 20 z ∧ isLine z = true) nC bx1 (by omega) (fun m H2 Q2 hm b2 kp2 hq => ?_) (fun H' vs kp b hC hl hR => ?_)
    · exact ⟨_, rfl, B, D, rfl, b2, fun v H' ⟨z, e, o⟩ kp' b' => hq v H' ⟨z, e, o⟩ kp' b'⟩
    · obtain ⟨l, rfl, hz⟩ : ∃ l : List Str, vs = l.map V.str ∧ ∀ z ∈ l, okText 20 z ∧ isLine z = true := by
        clear hC hl
        induction vs with
        | nil => exact ⟨[], rfl, fun _ h => nomatch h⟩
        | cons v r ih =>
          obtain ⟨l, e, g⟩ := ih fun u hu => hR u (List.mem_cons_of_mem _ hu)
          obtain ⟨z, e2, o⟩ := hR v List.mem_cons_self
          refine ⟨z :: l, by rw [e, e2]; rfl, fun u hu => ?_⟩
          rcases List.mem_cons.mp hu with rfl | hu
          · exact o
          · exact g u hu
      rw [List.length_map] at hl
      refine ⟨C, _, rfl, .inl ⟨sqL hC, fun t nt => ?_⟩⟩
      exact q (.ref t) l _ ⟨t, rfl, sqT upd_same⟩ (by omega) hz (Kp.back (kp1.trans kp) (by
        cases e : H t with
        | none => rfl
        | some o =>
          have ntB : t ≠ B := b.ne nt
          rw [kp _ _ ntB (kp1 _ _ ntB e)] at nt
          cases nt)) (b.new nt)
theorem ok_blocked {f : Addr} {fd : FuncData} (F : Fun K "_law_blocked" "_law_blocked" sBlocked f fd) (T : Tx mg) (CI : Cal P w K mg base 1 "_law_inside" ["path", "place"] spInside) :
    FnOk P w K mg base CX0 2 f fd ["files", "path"] (spBlocked K) := by
  obtain ⟨fI, fdI, GI, gI, kI, bI⟩ := CI.ex
  refine F.ok scBlocked (fun vs H Q E h => ?_) (fun cdv A outer s H vs Q E hr h => ?_)
  · obtain ⟨d, x, fs, rfl, _⟩ := h
    rfl
  · obtain ⟨d, x, fs, rfl, ⟨kvs, hd, pr, nd, hl⟩, hx, hf, q⟩ := h
    refine ⟨_, pss_cons (ps_lock (ps_for PassesOwn.never rfl (pi_keys (pv 0)) (pg_name (i := 2) scBlocked.nd rfl (Or.inl rfl))
        (pss_one (ps_if (PW.pt (pw_and (pt_cmpR op_ne (pv 2) (pv 1) (nomark _)) (pw_and1 (PW.pt (pw_or
          (pt_val (pe_call GI hr (by rfl) gI kI bI .nil pass0 (pa_cons (pv 2) (pa_cons (pv 1) pa_nil)))) (pw_or1 (pt_val (pe_call GI hr (by rfl) gI kI bI .nil pass0 (pa_cons (pv 1) (pa_cons (pv 2) pa_nil)))))))))) (pss_one (ps_ret pe_bl)) pss_nil))))
      (pss_one (ps_ret pe_bl)), ?_⟩
    refine ⟨d, _, hd, trivial, fun od => ?_⟩
    refine ⟨_, rfl, d, od, rfl, .inl ⟨kvs, upd_same, ?_⟩⟩
    refine for_it (same_walkK upd_same) (fun i σ H' => Same (upd H d (.frz od (.dK kvs))) H' ∧ (fs.take i).any (fun f => !decide (f.1 = x) && (inside f.1 x || inside x f.1)) = false ∧ ∃ o, σ = [some (.ref d), some (.str x), o]) ⟨.refl _, rfl, none, rfl⟩ (fun _ _ _ _ h => h.1) ?_ ?_
    · rintro i c σ H1 H2 hi ⟨s1, hb, o, rfl⟩ ⟨rfl, hc⟩
      rw [List.getElem?_map] at hc
      cases hk : kvs[i]? with
      | none => rw [hk] at hc; cases hc
      | some kv =>
      obtain ⟨g, hg, rg⟩ := paired_get2 pr i kv hk
      rw [hk] at hc
      have ec : c = V.str g.1 := by
        have : kV kv.1 = c := Option.some.inj hc
        rw [← this, rg.1]
        rfl
      subst ec
      have hg2 := hf g (List.mem_of_getElem? hg)
      refine EvT.go (etAnd (etNe rfl rfl) (etOr (etVal (evIns rfl rfl hg2 hx)) (etVal (evIns rfl rfl hx hg2)))) fun H3 s3 => ?_
      refine ite2 (fun e => ?_) (fun e => ?_)
      · refine ⟨(s1.trans s3) _ _ upd_same, ?_⟩
        have r := q _ (unlock (s1.trans s3) hd)
        have : blocked fs x = true := List.any_eq_true.mpr ⟨g, List.mem_of_getElem? hg, e⟩
        rw [this] at r
        exact r
      · refine ⟨s1.trans s3, ?_, _, rfl⟩
        rw [any_take hg, hb, Bool.false_or]
        exact Bool.eq_false_iff.mpr e
    · rintro σ H1 ⟨s1, hb, o, rfl⟩
      refine ⟨s1 _ _ upd_same, ?_⟩
      rw [List.length_map, ← pr.length, List.take_length] at hb
      have r := q _ (unlock s1 hd)
      rw [blocked, hb] at r
      exact r
end
end K02

set_option maxRecDepth 100000
set_option maxHeartbeats 4000000
namespace K02
open PySem PySem.Spec PyProof.Rows L2 TL Ga NdefX
/-! ### the paths of the law -/
def nm : List Str := ["a", "b", "ab", "x1"]
def pAll : List Str := (nm.map fun a => Txt.join sl [a]) ++ ((nm.flatMap fun a => nm.map fun b => Txt.join sl [a, b]) ++ (nm.flatMap fun a => nm.flatMap fun b => nm.map fun c => Txt.join sl [a, b, c]))
def pchk (z : Str) : Bool := isPath z && (decide (okText 8 z) && (!inside z z && (!inside z "zz" && (!inside "zz" z && (!decide (z = "zz") && (inside (z ++ "/z") z && decide (z ≠ "")))))))
theorem nm_mem {p : Str} (h : V.str p ∈ pnames) : p ∈ nm := by
  have : V.str p ∈ nm.map V.str := h
  obtain ⟨q, hq, e⟩ := List.mem_map.mp this
  cases e
  exact hq
theorem pth_mem {z : Str} (h : isPth (.str z)) : z ∈ pAll := by
  obtain ⟨ps, e, h1, h3, hn⟩ := h
  have e := V.str.inj e
  subst e
  unfold pAll
  match ps, h1, h3, hn with
  | [a], _, _, hn =>
    exact List.mem_append_left _ (List.mem_map.mpr ⟨a, nm_mem (hn a (by simp)), rfl⟩)
  | [a, b], _, _, hn =>
    exact List.mem_append_right _ (List.mem_append_left _ (List.mem_flatMap.mpr ⟨a, nm_mem (hn a (by simp)), List.mem_map.mpr ⟨b, nm_mem (hn b (by simp)), rfl⟩⟩))
  | [a, b, c], _, _, hn =>
    exact List.mem_append_right _ (List.mem_append_right _ (List.mem_flatMap.mpr ⟨a, nm_mem (hn a (by simp)), List.mem_flatMap.mpr ⟨b, nm_mem (hn b (by simp)), List.mem_map.mpr ⟨c, nm_mem (hn c (by simp)), rfl⟩⟩⟩))
theorem pAll_ok : pAll.all pchk = true := by decide +kernel
structure Pth (z : Str) : Prop where
  path : isPath z = true
  text : okText 8 z
  self : inside z z = false
  zz1 : inside z "zz" = false
  zz2 : inside "zz" z = false
  zz : z ≠ "zz"
  sub : inside (z ++ "/z") z = true
  ne : z ≠ ""
theorem pth {z : Str} (h : isPth (.str z)) : Pth z := by
  have := List.all_eq_true.mp pAll_ok z (pth_mem h)
  simp only [pchk, Bool.and_eq_true, Bool.not_eq_true', decide_eq_true_eq, decide_eq_false_iff_not] at this
  obtain ⟨a, b, c, d, e, f, g, i⟩ := this
  exact ⟨a, b, c, d, e, f, g, i⟩
/-- files of the law -/
structure LawF (fs : List File) : Prop where
  each : ∀ f ∈ fs, isPth (.str f.1) ∧ f.2.length ≤ 12 ∧ ∀ z ∈ f.2, okText 20 z ∧ isLine z = true
  clean : ∀ f ∈ fs, ∀ g ∈ fs, inside f.1 g.1 = false
  few : fs.length ≤ 8
theorem put_mem {fs : List File} {x : Str} {l : List Str} {f : File} (h : f ∈ putFs fs x l) : f = (x, l) ∨ (f ∈ fs ∧ f.1 ≠ x) := by
  unfold putFs at h
  split at h
  · obtain ⟨g, hg, e⟩ := List.mem_map.mp h
    by_cases q : g.1 = x
    · rw [if_pos q, q] at e
      exact .inl e.symm
    · rw [if_neg q] at e
      subst e
      exact .inr ⟨hg, q⟩
  · rename_i n
    rcases List.mem_append.mp h with h | h
    · refine .inr ⟨h, fun e => n ?_⟩
      exact List.any_eq_true.mpr ⟨f, h, decide_eq_true e⟩
    · exact .inl (List.mem_singleton.mp h)
theorem LawF.put {fs : List File} {x : Str} {l : List Str} (h : LawF fs) (hx : isPth (.str x)) (hl : l.length ≤ 12) (hz : ∀ z ∈ l, okText 20 z ∧ isLine z = true) (hb : blocked fs x = false) (h7 : fs.length ≤ 7) : LawF (putFs fs x l) := by
  have nb : ∀ f ∈ fs, f.1 ≠ x → inside f.1 x = false ∧ inside x f.1 = false := fun f hf ne => by
    have := List.any_eq_false.mp hb f hf
    rw [decide_eq_false ne, Bool.not_false, Bool.true_and] at this
    exact Bool.or_eq_false_iff.mp (Bool.eq_false_iff.mpr this)
  refine ⟨fun f hf => ?_, fun f hf g hg => ?_, Nat.le_trans (put_len fs x l) (by omega)⟩
  · rcases put_mem hf with rfl | ⟨hf, _⟩
    · exact ⟨hx, hl, hz⟩
    · exact h.each f hf
  · rcases put_mem hf with rfl | ⟨hf, n1⟩
    · rcases put_mem hg with rfl | ⟨hg, n2⟩
      · exact (pth hx).self
      · exact (nb g hg n2).2
    · rcases put_mem hg with rfl | ⟨hg, n2⟩
      · exact (nb f hf n1).1
      · exact h.clean f hf g hg
def spLFiles (K : PySem.W.Frag) : Sp := fun vs H Q _ => ∃ (B D : Addr), vs = [.ref B, .int 8] ∧ Box H B D ∧ ∀ d fs H', Tab K H' d fs → LawF fs → Kp B H H' → H d = none → Box H' B D → Q (.ref d) H'
def spRows (K : PySem.W.Frag) : Sp := fun vs H Q _ => ∃ (d : Addr) (fs : List File), vs = [.ref d] ∧ Tab K H d fs ∧ ∀ H' a ws, Same H H' → H a = none → H' a = some (.tup ws) → RowsAt K H' ws (srtF fs) → Q (.ref a) H'
def lFolder (fs : List File) (x : Str) : Bool := fs.any (fun f => inside f.1 x) || decide (x = "")
def spLIsFolder (K : PySem.W.Frag) : Sp := fun vs H Q _ => ∃ (d : Addr) (x : Str) (fs : List File), vs = [.ref d, .str x] ∧ Tab K H d fs ∧ (tl x).length ≤ 1000 ∧ (∀ f ∈ fs, (tl f.1).length ≤ 1000) ∧ ∀ H', Same H H' → Q (.bl (lFolder fs x)) H'
theorem scLFiles : FnScope ["box", "most", "files", "turn", "path", "lines"] ["box", "most"] (defScope sLFiles) := ⟨rfl, rfl, rfl, by decide +kernel, rfl, by decide +kernel, by decide +kernel⟩
theorem Tab.kp {K : PySem.W.Frag} {H H' : Hp} {d B D : Addr} {fs : List File} (t : Tab K H d fs) (k : Kp B H H') (bx : Box H B D) : Tab K H' d fs := by
  obtain ⟨kvs, hd, pr, nd, hl⟩ := t
  have nB : d ≠ B := fun z => by
    obtain ⟨ds, i, h1, _⟩ := bx.ex
    rw [z, h1] at hd
    cases hd
  exact ⟨kvs, k _ _ nB hd, pr.mono fun _ _ h => ⟨h.1, h.2.st (SameT.box k bx)⟩, nd, hl⟩
section
variable {P : Program} {w : World} {K : PySem.W.Frag} {mg : Str → Option Value} {base : Heap}
theorem ok_lfiles {f : Addr} {fd : FuncData} (F : Fun K "_law_files" "_law_files" sLFiles f fd) (T : Tx mg) (CD : Cal P w K mg base 1 "_law_draw" ["box", "many"] spDraw) (CP : Cal P w K mg base 2 "_law_path" ["box"] spPth)
    (CL : Cal P w K mg base 3 "_law_lines" ["box", "most"] (spLLines K)) (CB : Cal P w K mg base 2 "_law_blocked" ["files", "path"] (spBlocked K)) :
    FnOk P w K mg base CX0 4 f fd ["box", "most"] (spLFiles K) := by
  obtain ⟨fD, fdD, GD, gD, kD, bD⟩ := CD.ex
  obtain ⟨fP, fdP, GP, gP, kP, bP⟩ := CP.ex
  obtain ⟨fL, fdL, GL, gL, kL, bL⟩ := CL.ex
  obtain ⟨fB, fdB, GB, gB, kB, bB⟩ := CB.ex
  refine F.ok scLFiles (fun vs H Q E h => ?_) (fun cdv A outer s H vs Q E hr h => ?_)
  · obtain ⟨B, D, rfl, _⟩ := h
    rfl
  · obtain ⟨B, D, rfl, bx, q⟩ := h
    refine ⟨_, pss_cons (ps_set (i := 2) scLFiles.nd rfl (.inl rfl) pe_dnewK)
      (pss_cons (ps_for PassesOwn.never rfl (pi_range1 (by rfl) T.range (pa_cons (pe_call GD (hr.mono (by decide)) (by rfl) gD kD bD .nil pass0 (pa_cons (pv 0) (pa_cons (pe_op op_add (pv 1) pe_int) pa_nil))) pa_nil)) (pg_name (i := 3) scLFiles.nd rfl (Or.inl rfl))
        (pss_cons (ps_set (i := 4) scLFiles.nd rfl (.inl rfl) (pe_call GP (hr.mono (by decide)) (by rfl) gP kP bP .nil pass0 (pa_cons (pv 0) pa_nil)))
        (pss_cons (ps_set (i := 5) scLFiles.nd rfl (.inl rfl) (pe_call GL hr (by rfl) gL kL bL .nil pass0 (pa_cons (pv 0) (pa_cons pe_int pa_nil))))
        (pss_one (ps_if (pt_not (pt_val (pe_call GB (hr.mono (by decide)) (by rfl) gB kB bB .nil pass0 (pa_cons (pv 2) (pa_cons (pv 4) pa_nil))))) (pss_one (ps_dput (hu_of hr) (pv 2) (pv 4) (pv 5) rfl)) pss_nil)))))
      (pss_one (ps_ret (pv 2)))), ?_⟩
    intro d nd
    have bx0 := bx.new (o := .dK []) nd
    refine ⟨_, rfl, _, rfl, _, _, rfl, rfl, B, D, 9, rfl, by decide, bx0, fun r H1 r0 r9 kp1 bx1 => ?_⟩
    refine ⟨r, rfl, by omega, by omega, ?_⟩
    have dB : d ≠ B := bx.ne nd
    have sd : Kp B H (upd H d (.dK [])) := fun b o _ e => same_upd nd b o e
    refine for_range (lo := 0) (n := r.toNat) (fun i σ H' => ∃ (a b c : Option V) (fs : List File), σ = [some (.ref B), some (.int 8), some (.ref d), a, b, c] ∧ Tab K H' d fs ∧ LawF fs ∧ fs.length ≤ i ∧ Kp B H H' ∧ Box H' B D)
      ⟨none, none, none, [], rfl, ⟨[], kp1 _ _ dB upd_same, .nil, List.nodup_nil, by decide⟩, ⟨(fun _ h => nomatch h), (fun _ h => nomatch h), by decide⟩, Nat.le_refl _, sd.trans kp1, bx1⟩ ?_ ?_
    · rintro i σ H2 hi ⟨a, b, c, fs, rfl, tb, lf, hl, kp2, bx2⟩
      refine ⟨_, rfl, B, D, rfl, bx2, fun v H3 hv kp3 bx3 => ?_⟩
      obtain ⟨ps, rfl, hps⟩ := id hv
      refine ⟨_, rfl, B, D, 4, rfl, by decide, by decide, bx3, fun u l H4 lv l12 lz kp4 bx4 => ?_⟩
      have tb3 := (tb.kp kp3 bx2).kp kp4 bx3
      have hx := (pth hv).text.1
      refine ⟨_, rfl, _, rfl, d, _, fs, rfl, tb3, by omega, fun f hf => by have := (pth (lf.each f hf).1).text.1; omega, fun H5 s5 => ⟨_, rfl, ite2 (fun e => ?_) (fun e => ?_)⟩⟩
      · have tb5 := tb3.same s5
        obtain ⟨kvs, hd, pr, ndp, h40⟩ := tb5
        have lf2 := lf.put hv l12 lz (not_t e) (by omega)
        have kl : kvs.length = fs.length := pr.length.symm
        have lv5 := lv.st s5.t
        refine ⟨_, rfl, _, rfl, _, rfl, d, _, rfl, DPut.k (k := .inr _) hd (Nat.lt_of_le_of_lt (show kvs.length ≤ 40 by omega) (by decide)), ?_⟩
        have st : SameT H5 (upd H5 d (.dK (putK kvs (.inr (Txt.join sl ps)) u))) := .put hd rfl
        refine ⟨_, _, _, putFs fs (Txt.join sl ps) l, rfl, ⟨_, upd_same, put_tab (lv5.st st) (pr.mono fun _ _ h => ⟨h.1, h.2.st st⟩), put_nodup ndp, by have := put_len fs (Txt.join sl ps) l; omega⟩, lf2, by have := put_len fs (Txt.join sl ps) l; omega, ?_, ?_⟩
        · exact Kp.back (((kp2.trans kp3).trans kp4).trans (.same s5)) nd
        · exact (bx4.same s5).put dB (bx.neD nd)
      · exact ⟨_, _, _, fs, rfl, tb3.same s5, lf, by omega, ((kp2.trans kp3).trans kp4).trans (.same s5), bx4.same s5⟩
    · rintro σ H2 ⟨a, b, c, fs, rfl, tb, lf, hl, kp2, bx2⟩
      exact ⟨_, rfl, q d fs H2 tb lf kp2 nd bx2⟩
end
end K02

set_option maxRecDepth 100000
set_option maxHeartbeats 4000000
namespace K02
open PySem PySem.Spec PyProof.Rows L2 TL Ga NdefX
theorem same_walkR {H : Hp} {n : Nat} : Walk (Itr 0 n) ((List.range n).map fun k => V.int (0 + (k : Nat))).length (fun H' => Same H H') (YAt ((List.range n).map fun k => V.int (0 + (k : Nat)))) := by
  rw [List.length_map, List.length_range]
  refine walk_range.mono (fun _ _ => trivial) fun i H1 x H2 hi _ y => ?_
  obtain ⟨e, e2⟩ := y
  refine ⟨e, ?_⟩
  rw [List.getElem?_map, List.getElem?_range hi, e2]
  rfl
def manyF (n : Nat) : List File := (List.range n).map fun k : Nat => ((("a" : Str) ++ (toString (0 + (k : Int)) : Str)) ++ ("/b" : Str), [("x" : Str)])
def spMany (K : PySem.W.Frag) : Sp := fun vs H Q _ => ∃ n : Nat, vs = [.int (n : Int)] ∧ n ≤ 21 ∧ ∀ H' a ws, Same H H' → H a = none → H' a = some (.lst ws) → RowsAt K H' ws (manyF n) → Q (.ref a) H'
theorem scMany : FnScope ["count", "k"] ["count"] (defScope sMany) := ⟨rfl, rfl, rfl, by decide +kernel, rfl, by decide +kernel, by decide +kernel⟩
theorem scGood : FnScope ["rows", "path", "lines", "line"] ["rows"] (defScope sGood) := ⟨rfl, rfl, rfl, by decide +kernel, rfl, by decide +kernel, by decide +kernel⟩
def badLine (z : Str) : Bool := decide ((20 : Int) < ((tl z).length : Int)) || decide (34 ∈ tl z)
def lawGood (gs : List File) : Bool := gs.all fun f => !(decide ((12 : Int) < (f.2.length : Int)) || !(f.2.filter badLine).isEmpty)
/-- rows of the law, good ones and others -/
structure LawR (gs : List File) : Prop where
  each : ∀ f ∈ gs, okText 50 f.1 ∧ f.2.length ≤ 50 ∧ ∀ z ∈ f.2, okText 50 z
  few : gs.length ≤ 40
def spGood (K : PySem.W.Frag) : Sp := fun vs H Q _ => ∃ (a : Addr) (ws : List V) (gs : List File), vs = [.ref a] ∧ SqL K H a ws ∧ RowsAt K H ws gs ∧ LawR gs ∧ ∀ H', Same H H' → Q (.bl (lawGood gs)) H'
theorem log2_le {n k : Nat} (h : n < 2 ^ k) : n.log2 ≤ k := by
  by_cases h0 : n = 0
  · subst h0; rw [Nat.log2_zero]; exact Nat.zero_le _
  · exact Nat.le_of_lt ((Nat.log2_lt h0).mpr h)
theorem okc_strOk {n : Nat} {z : Str} (h : okText n z) : PyData.strOk z = true := by
  have : (tl z).all (· < 0x110000) = true := by
    refine List.all_eq_true.mpr fun c hc => ?_
    have := List.all_eq_true.mp h.2 c hc
    simp only [okc, Bool.and_eq_true, decide_eq_true_eq] at this
    exact decide_eq_true (by omega)
  unfold PyData.strOk
  rw [← Array.all_toList]
  exact this
section
variable {P : Program} {w : World} {K : PySem.W.Frag} {mg : Str → Option Value} {base : Heap}
theorem ok_rows {f : Addr} {fd : FuncData} (F : Fun K "_law_rows" "_law_rows" sRows f fd) (T : Tx mg) : FnOk P w K mg base CX0 1 f fd ["files"] (spRows K) := by
  refine F.ok scRows (fun vs H Q E h => ?_) (fun cdv A outer s H vs Q E hr h => ?_)
  · obtain ⟨p, fs, rfl, _⟩ := h
    rfl
  · obtain ⟨d, fs, rfl, ⟨kvs, hd, pr, nd, hl⟩, q⟩ := h
    refine ⟨_, pss_one (ps_ret (pe_callTy (callTup (K := K) rfl) (by rfl) T.tuple (by decide +kernel) (pa_cons
      (pe_lc (own := [("path", 1)]) rfl scRows.nd (piL (K := K) rfl (pe_callB (call_sortedD rfl) (by rfl) T.sorted (by decide +kernel) (pa_cons (pv 0) pa_nil)))
        (blkOk_by (N := ["files", "path"]) (sc := defScope sRows) (by decide +kernel)) (fun _ _ _ _ _ => pg_name (i := 1) scRows.nd rfl (Or.inl rfl)) (fun _ _ _ _ _ => pts_nil)
        (fun _ _ _ _ _ => pe_tup (pa_cons (pv 1) (pa_cons (pe_dget (hu_of hr) (pv 0) (pv 1) (fun _ _ => rfl)) pa_nil)))) pa_nil))), ?_⟩
    refine ⟨_, rfl, d, kvs, fs.map (·.1), rfl, .inl hd, keys_of pr, by rw [List.length_map]; omega, fun ys l perm srt nl => ?_⟩
    have ey := sorted_is perm srt
    subst ey
    have s1 : Same H (upd H l (.lst (((srtF fs).map (·.1)).map V.str))) := same_upd nl
    refine ⟨l, rfl, ⟨_, sqL upd_same⟩, fun D nD => ?_⟩
    refine lc_rel (R := fun H f y => RowAt K H y f) (as := srtF fs) (p := fun _ => true) nD (same_walkL (sqL upd_same)) (by simp) (by simp [srtF_len]; omega) (fun st h => h.st st) (fun i c x hc hx H2 Rk Rn s2 k _ => ?_) fun H2 ws s2 e2 pr2 => ?_
    · have ec : c = V.str x.1 := by
        rw [List.map_map, List.getElem?_map, hx] at hc
        exact (Option.some.inj hc).symm
      subst ec
      refine ⟨by rfl, ?_⟩
      dsimp only [tYes]
      rw [if_pos rfl]
      obtain ⟨v, ev, lv⟩ := (val_of pr (x := x.1)).2 nd x ((srtF_perm fs).mem_iff.mp (List.mem_of_getElem? hx)) rfl
      have sa := s1.trans s2
      refine ⟨_, rfl, _, rfl, _, rfl, d, v, rfl, ?_, by show 2 ≤ sizeLine; decide, fun t nt => ?_⟩
      · rw [← ev]
        exact DGet.k (k := .inr x.1) (sa _ _ hd)
      · exact k _ _ rfl (same_upd nt) ⟨t, v, rfl, sqT upd_same, lv.st (sa.trans (same_upd nt)).t⟩
    · rw [filterY] at pr2
      refine ⟨D, ws, rfl, .inl ⟨sqL e2, fun r nr => ?_⟩⟩
      exact q _ r ws ((s1.trans s2).trans (same_upd nr)) (same_at (s1.trans s2) nr) upd_same (RowsAt.st (paired_swap pr2) (same_upd nr).t)
theorem ok_lisfolder {f : Addr} {fd : FuncData} (F : Fun K "_law_is_folder" "_law_is_folder" sLIsFolder f fd) (T : Tx mg) (CI : Cal P w K mg base 1 "_law_inside" ["path", "place"] spInside) :
    FnOk P w K mg base CX0 2 f fd ["files", "place"] (spLIsFolder K) := by
  obtain ⟨fI, fdI, GI, gI, kI, bI⟩ := CI.ex
  refine F.ok scLIsFolder (fun vs H Q E h => ?_) (fun cdv A outer s H vs Q E hr h => ?_)
  · obtain ⟨d, x, fs, rfl, _⟩ := h
    rfl
  · obtain ⟨d, x, fs, rfl, ⟨kvs, hd, pr, nd, hl⟩, hx, hf, q⟩ := h
    refine ⟨_, pss_cons (ps_lock (ps_for PassesOwn.never rfl (pi_keys (pv 0)) (pg_name (i := 2) scLIsFolder.nd rfl (Or.inl rfl))
        (pss_one (ps_if (pt_val (pe_call GI hr (by rfl) gI kI bI .nil pass0 (pa_cons (pv 2) (pa_cons (pv 1) pa_nil)))) (pss_one (ps_ret pe_bl)) pss_nil))))
      (pss_one (ps_ret (pe_cmpR op_eq (pv 1) pe_str (nomark _)))), ?_⟩
    refine ⟨d, _, hd, trivial, fun od => ?_⟩
    refine ⟨_, rfl, d, od, rfl, .inl ⟨kvs, upd_same, ?_⟩⟩
    refine for_it (same_walkK upd_same) (fun i σ H' => Same (upd H d (.frz od (.dK kvs))) H' ∧ (fs.take i).any (fun f => inside f.1 x) = false ∧ ∃ o, σ = [some (.ref d), some (.str x), o]) ⟨.refl _, rfl, none, rfl⟩ (fun _ _ _ _ h => h.1) ?_ ?_
    · rintro i c σ H1 H2 hi ⟨s1, hb, o, rfl⟩ ⟨rfl, hc⟩
      rw [List.getElem?_map] at hc
      cases hk : kvs[i]? with
      | none => rw [hk] at hc; cases hc
      | some kv =>
      obtain ⟨g, hg, rg⟩ := paired_get2 pr i kv hk
      rw [hk] at hc
      have ec : c = V.str g.1 := by
        have : kV kv.1 = c := Option.some.inj hc
        rw [← this, rg.1]
        rfl
      subst ec
      have hg2 := hf g (List.mem_of_getElem? hg)
      refine ⟨_, rfl, _, rfl, g.1, x, rfl, hg2, hx, fun H3 s3 => ⟨_, rfl, ite2 (fun e => ?_) (fun e => ?_)⟩⟩
      · refine ⟨(s1.trans s3) _ _ upd_same, ?_⟩
        have r := q _ (unlock (s1.trans s3) hd)
        have : fs.any (fun f => inside f.1 x) = true := List.any_eq_true.mpr ⟨g, List.mem_of_getElem? hg, e⟩
        rw [lFolder, this, Bool.true_or] at r
        exact r
      · refine ⟨s1.trans s3, ?_, _, rfl⟩
        rw [any_take hg, hb, Bool.false_or]
        exact Bool.eq_false_iff.mpr e
    · rintro σ H1 ⟨s1, hb, o, rfl⟩
      refine ⟨s1 _ _ upd_same, ?_⟩
      rw [List.length_map, ← pr.length, List.take_length] at hb
      have r := q _ (unlock s1 hd)
      rw [lFolder, hb, Bool.false_or] at r
      refine ⟨_, rfl, rfl, ?_⟩
      have : decide (V.str x = V.str "") = decide (x = "") := decide_eq_decide.mpr ⟨V.str.inj, fun z => by rw [z]⟩
      rw [this]
      exact r
theorem ok_many {f : Addr} {fd : FuncData} (F : Fun K "_law_many" "_law_many" sMany f fd) (T : Tx mg) : FnOk P w K mg base CX0 1 f fd ["count"] (spMany K) := by
  refine F.ok scMany (fun vs H Q E h => ?_) (fun cdv A outer s H vs Q E hr h => ?_)
  · obtain ⟨n, rfl, _⟩ := h
    rfl
  · obtain ⟨n, rfl, hn, q⟩ := h
    refine ⟨_, pss_one (ps_ret (pe_lc (own := [("k", 1)]) rfl scMany.nd (pi_range1 (by rfl) T.range (pa_cons (pv 0) pa_nil)) (blkOk_by (N := ["count", "k"]) (sc := defScope sMany) (by decide +kernel))
      (fun _ _ _ _ _ => pg_name (i := 1) scMany.nd rfl (Or.inl rfl)) (fun _ _ _ _ _ => pts_nil)
      (fun _ _ _ _ _ => pe_tup (pa_cons (pe_op op_add_str (pe_op op_add_str pe_str (pe_callTy call_str_int (by rfl) T.str (by decide +kernel) (pa_cons (pv 1) pa_nil))) pe_str) (pa_cons (pe_tup (pa_cons pe_str pa_nil)) pa_nil))))), ?_⟩
    refine ⟨_, rfl, n, rfl, by omega, by omega, fun C nC => ?_⟩
    rw [Int.toNat_natCast]
    refine lc_rel (R := fun H f y => RowAt K H y f) (as := manyF n) (p := fun _ => true) nC (same_walkR (n := n)) (by simp [manyF]) (by simp; omega) (fun st h => h.st st) (fun i c x hc hx H2 Rk Rn s2 k _ => ?_) fun H2 ws s2 e2 pr2 => ?_
    · have hi : i < n := by
        have := (List.getElem?_eq_some_iff.mp hx).1
        simpa [manyF] using this
      rw [List.getElem?_map, List.getElem?_range hi] at hc
      rw [manyF, List.getElem?_map, List.getElem?_range hi] at hx
      cases hc
      cases hx
      refine ⟨by rfl, ?_⟩
      dsimp only [tYes]
      rw [if_pos rfl]
      have kl : ((toString (0 + (i : Int)) : Str)).length ≤ 1000 := by
        have : i < 21 := by omega
        revert this
        generalize i = j
        intro hj
        have : ∀ j : Nat, j < 21 → ((toString (0 + (j : Int)) : Str)).length ≤ 1000 := by decide +kernel
        exact this j hj
      have sl1 : sizeLine = 16777216 := by decide
      have la : ("a" : Str).length = 1 := by decide +kernel
      have lb : ("/b" : Str).length = 2 := by decide +kernel
      refine ⟨_, rfl, _, rfl, ?_, _, _, rfl, rfl, ?_, _, _, rfl, rfl, ?_, by show 1 ≤ sizeLine; decide, fun t nt => ⟨by show 2 ≤ sizeLine; decide, fun t2 nt2 => ?_⟩⟩
      · have h1 : (0 + (i : Int)).natAbs < 2 ^ 5 := by omega
        have h2 := (log2_le h1)
        omega
      · have : (("a" : Str) ++ (toString (0 + (i : Int)) : Str)).length = 1 + ((toString (0 + (i : Int)) : Str)).length := by
          rw [len_tl, len_tl, tl_append, List.length_append]
          rfl
        omega
      · have : (("a" : Str) ++ (toString (0 + (i : Int)) : Str)).length = 1 + ((toString (0 + (i : Int)) : Str)).length := by
          rw [len_tl, len_tl, tl_append, List.length_append]
          rfl
        omega
      · refine k _ _ rfl ((same_upd nt).trans (same_upd nt2)) ⟨t2, .ref t, rfl, sqT upd_same, t, rfl, sqT ?_⟩
        rw [upd_ne (fun z => by rw [z, upd_same] at nt2; cases nt2), upd_same]
        rfl
    · rw [filterY] at pr2
      exact q H2 C ws s2 nC e2 (paired_swap pr2)
end
end K02

set_option maxRecDepth 100000
set_option maxHeartbeats 4000000
namespace K02
open PySem PySem.Spec PyProof.Rows L2 TL Ga NdefX
theorem scTold : FnScope ["rows", "tree", "e"] ["rows"] (defScope sTold) := ⟨rfl, rfl, rfl, by decide +kernel, rfl, by decide +kernel, by decide +kernel⟩
theorem okText1000 {z : Str} (h : okText 50 z) : (tl z).length ≤ 1000 := Nat.le_trans h.1 (by decide)
theorem isEmpty_map {α β : Type} (f : α → β) : ∀ l : List α, (l.map f).isEmpty = l.isEmpty
  | [] => rfl
  | _ :: _ => rfl
theorem all_take {α : Type} {p : α → Bool} {l : List α} {i : Nat} {c : α} (h : l[i]? = some c) : (l.take (i + 1)).all p = ((l.take i).all p && p c) := by
  rw [List.take_add_one, h, List.all_append]
  simp
section
variable {P : Program} {w : World} {K : PySem.W.Frag} {mg : Str → Option Value} {base : Heap}
theorem ok_good {f : Addr} {fd : FuncData} (F : Fun K "_law_good" "_law_good" sGood f fd) (T : Tx mg) : FnOk P w K mg base CX0 1 f fd ["rows"] (spGood K) := by
  refine F.ok scGood (fun vs H Q E h => ?_) (fun cdv A outer s H vs Q E hr h => ?_)
  · obtain ⟨a, ws, gs, rfl, _⟩ := h
    rfl
  · obtain ⟨a, ws, gs, rfl, hS, hR, lr, q⟩ := h
    refine ⟨_, pss_cons (ps_for PassesOwn.never rfl (pi_list (pv 0)) (pgT (K := K) (n := 2) rfl rfl (pgs_cons (pg_name (i := 1) scGood.nd rfl (Or.inl rfl)) (pgs_cons (pg_name (i := 2) scGood.nd rfl (Or.inl rfl)) pgs_nil)))
        (pss_one (ps_if (PW.pt (pw_or (pt_cmpR op_gt (pe_callB call_len_seq (by rfl) T.len PySem.boot_len (pa_cons (pv 2) pa_nil)) pe_int (nomark _)) (pw_or1 (pt_cmpR (op_neD hr.units)
          (pe_lc (own := [("line", 3)]) rfl scGood.nd (piT (K := K) rfl (pv 2)) (blkOk_by (N := ["rows", "path", "lines", "line"]) (sc := defScope sGood) (by decide +kernel))
            (fun _ _ _ _ _ => pg_name (i := 3) scGood.nd rfl (Or.inl rfl))
            (fun _ _ _ _ _ => pts_one (PW.pt (pw_or (pt_cmpR op_gt (pe_callB call_len_str (by rfl) T.len PySem.boot_len (pa_cons (pv 3) pa_nil)) pe_int (nomark _)) (pw_or1 (pt_cmpR op_in_sign pe_str (pv 3) (by rfl))))))
            (fun _ _ _ _ _ => pv 3)) (pe_lst pa_nil) (nomark _))))) (pss_one (ps_ret pe_bl)) pss_nil)))
      (pss_one (ps_ret pe_bl)), ?_⟩
    have hlen : ws.length = gs.length := hR.length
    refine ⟨_, rfl, a, rfl, ⟨_, hS⟩, ?_⟩
    refine for_list (xs := ws) (fun i σ H' => Same H H' ∧ (gs.take i).all (fun f => !(decide ((12 : Int) < (f.2.length : Int)) || !(f.2.filter badLine).isEmpty)) = true ∧ ∃ o1 o2 o3, σ = [some (.ref a), o1, o2, o3])
      ⟨.refl _, rfl, none, none, none, rfl⟩ (fun i σ H' _ h => h.1.seq hS) ?_ ?_
    · rintro i c σ H1 hc ⟨s1, hb, o1, o2, o3, rfl⟩
      obtain ⟨g, hg, rg⟩ := paired_get hR i c hc
      obtain ⟨g1, g2, g3⟩ := lr.each g (List.mem_of_getElem? hg)
      refine g_row (rg.st s1.t) fun u lu => ?_
      obtain ⟨b, rfl, hb2⟩ := lu
      refine ⟨_, rfl, b, _, rfl, .inr hb2, _, _, rfl, rfl, _, rfl, ?_⟩
      rw [List.length_map]
      have bad : ∀ e, (decide ((12 : Int) < (g.2.length : Int)) || !(g.2.filter badLine).isEmpty) = e → e = true → lawGood gs = false := fun e he ht => by
        refine Bool.eq_false_iff.mpr fun z => ?_
        have := List.all_eq_true.mp z g (List.mem_of_getElem? hg)
        rw [he, ht] at this
        cases this
      refine ite2 (fun e => ?_) (fun e => ?_)
      · have r := q H1 s1
        rw [bad true (by rw [e, Bool.true_or]) rfl] at r
        exact r
      · have e0 : decide ((12 : Int) < (g.2.length : Int)) = false := Bool.eq_false_iff.mpr e
        refine ⟨_, rfl, b, rfl, ⟨_, hb2⟩, fun D nD => ?_⟩
        refine lc_rel (R := fun H z y => y = V.str z) (as := g.2) (p := badLine) nD (same_walkT hb2) (by simp) (by rw [List.length_map]; omega) (fun st h => h) (fun i2 c2 z hc2 hz H2 Rk Rn s2 k1 k2 => ?_) fun H2 ys s2 e2 pr2 => ?_
        · have ec : c2 = V.str z := by
            rw [List.getElem?_map, hz] at hc2
            exact (Option.some.inj hc2).symm
          subst ec
          have tz := g3 z (List.mem_of_getElem? hz)
          refine ⟨by rfl, ?_⟩
          refine ⟨_, rfl, z, rfl, lenle (okText1000 tz), _, _, rfl, rfl, _, rfl, ite2 (fun e3 => ?_) (fun e3 => ?_)⟩
          · refine ⟨_, rfl, k1 _ H2 ?_ (.refl _) rfl⟩
            rw [badLine, ← len_tl, e3, Bool.true_or]
          · refine ⟨_, rfl, 34, z, rfl, rfl, _, rfl, ite2 (fun e4 => ?_) (fun e4 => ?_)⟩
            · refine ⟨_, rfl, k1 _ H2 ?_ (.refl _) rfl⟩
              rw [badLine, show decide (34 ∈ tl z) = true from e4, Bool.or_true]
            · refine k2 H2 ?_ (.refl _)
              rw [badLine, ← len_tl, Bool.eq_false_iff.mpr e3, show decide (34 ∈ tl z) = false from Bool.eq_false_iff.mpr e4]
              rfl
        · have ey := paired_map pr2
          have hz0 : ∀ z ∈ g.2.filter badLine, PyData.strOk z = true := fun z hz => okc_strOk (g3 z (List.mem_filter.mp hz).1)
          refine ⟨Nat.zero_le _, fun l nl => ?_⟩
          have s3 : Same H2 (upd H2 l (.lst [])) := same_upd nl
          refine ⟨.list ((g.2.filter badLine).map PyData.str), .list [], ?_, .lst (sqL upd_same) .nil, shaped_strs hz0, by decide +kernel, _, rfl, ?_⟩
          · have : (upd H2 l (.lst [])) D = some (.lst ((g.2.filter badLine).map V.str)) := by
              rw [← ey]
              exact s3 _ _ e2
            exact .lst (sqL this) (dpAll_strs _)
          · rw [eqv_nil, isEmpty_map]
            refine ite2 (fun e3 => ?_) (fun e3 => ?_)
            · have r := q _ ((s1.trans s2).trans s3)
              rw [bad true (by rw [e3, Bool.or_true]) rfl] at r
              exact r
            · refine ⟨(s1.trans s2).trans s3, ?_, _, _, _, rfl⟩
              rw [all_take hg, hb, e0, Bool.eq_false_iff.mpr e3]
              rfl
    · rintro σ H1 ⟨s1, hb, o1, o2, o3, rfl⟩
      rw [hlen, List.take_length] at hb
      have r := q H1 s1
      rw [lawGood, hb] at r
      exact r
/-- what the top has left of the errors' classes -/
structure ErrC (K : PySem.W.Frag) (mg : Str → Option Value) (Ct Co Cn : Addr) : Prop where
  gt : mg "TrunkError" = some (.ref Ct)
  gn : mg "NoSession" = some (.ref Cn)
  exm : PySem.W.exmOne K (.ref Co) (.ref Ct) = some true
  is : ExcC K Co
  yes : PySem.W.kitOne K (.ref Co) (.ref Co) = some true
  no : PySem.W.kitOne K (.ref Co) (.ref Cn) = some false
  xf : XfC K Co
  nm : PySem.W.findIn K (.ref Co) "name" = some none
def spTold (K : PySem.W.Frag) : Sp := fun vs H Q _ => ∃ (x : V) (gs : List File), vs = [x] ∧ Files K H x gs ∧ Small gs ∧
  (goodFiles gs = true → ∀ H' a ws, Same H H' → H a = none → H' a = some (.tup ws) → RowsAt K H' ws (srtF gs) → Q (.ref a) H') ∧
  (goodFiles gs = false → ∀ H' a, Same H H' → H a = none → H' a = some (.tup [.str "refused", .str "files"]) → Q (.ref a) H')
theorem Files.same {H H' : Hp} {x : V} {fs : List File} (h : Files K H x fs) (s : Same H H') : Files K H' x fs := by
  obtain ⟨a, vs, rfl, hS, hR⟩ := h
  exact ⟨a, vs, rfl, hS.elim (fun z => .inl (s.seq z)) fun z => .inr (s.seqT z), hR.st s.t⟩
theorem ok_told {f fi ff C Ct Co Cn : Addr} {fd fdi fdf : FuncData} (F : Fun K "_law_told" "_law_told" sTold f fd) (T : Tx mg) (tc : TreeC K C) (M : Mk K C fi) (GI : FnOk P w K mg base (L2.CX P w) 5 fi fdi ["self", "files"] (spInit K C Co))
    (gC : mg "Tree" = some (.ref C)) (bI : Binds K fdi ["self", "files"] []) (GF : FnOk P w K mg base CX0 1 ff fdf ["self"] (spTFiles K C)) (mF : Meth K C "files" ff) (bF : Binds K fdf ["self"] []) (gO : mg "OutOfRange" = some (.ref Co)) (R : ErrC K mg Ct Co Cn) :
    FnOk P w K mg base CX0 7 f fd ["rows"] (spTold K) := by
  refine F.ok scTold (fun vs H Q E h => ?_) (fun cdv A outer s H vs Q E hr h => ?_)
  · obtain ⟨x, gs, rfl, _⟩ := h
    rfl
  · obtain ⟨x, gs, rfl, hx, hsm, q1, q2⟩ := h
    refine ⟨_, pss_cons (ps_try_as (i := 2) rfl rfl scTold.nd rfl rfl ⟨rfl, by decide, .inl R.gt⟩ takes0
        (fun W pn xe tk _ => pss_one (ps_set (i := 1) scTold.nd rfl (.inl rfl) (pe_makeS M GI hr (by rfl) gC bI .nil (fun σ => passAt tk σ) (pa_cons (pv 0) pa_nil))))
        (fun a oe cls d pn hz hf => pss_cons (ps_if (PW.pt (pw_and (pt_val (pe_callB (call_isX hz hf) (by rfl) T.isinstance (by decide +kernel) (pa_cons (pv 2) (pa_cons (pe_glob (v := .ref Co) rfl gO rfl) pa_nil))))
            (pw_and1 (pt_not (pt_val (pe_callB (call_isX hz hf) (by rfl) T.isinstance (by decide +kernel) (pa_cons (pv 2) (pa_cons (pe_glob (v := .ref Cn) rfl R.gn rfl) pa_nil)))))))) (pss_one (ps_ret (pe_tup (pa_cons pe_str (pa_cons (pe_xf R.xf R.nm hz hf (pv 2)) pa_nil))))) pss_nil)
          (pss_one (ps_ret (pe_tup (pa_cons pe_str (pa_cons pe_int pa_nil)))))))
      (pss_one (ps_ret (pe_meth0 (pv 1) tc.cl mF GF (hr.mono (by decide)) bF .nil pass0))), ?_⟩
    refine ⟨_, rfl, fun p dx np ndx nex => ?_⟩
    have s0 : Same H (upd (upd H dx (.own p)) p (.ins C dx [])) := fun b o e => by
      rw [upd_ne (ne_of_none e np), upd_ne (ne_of_none e ndx)]
      exact e
    refine ⟨p, dx, x, gs, rfl, upd_same, hx.same s0, hsm, fun gd H1 kp t => ⟨rfl, ?_⟩, fun gd H1 e s1 ne he => ?_⟩
    · have s1 : Same H H1 := fun b o eb => kp b o (ne_of_none eb np) (s0 b o eb)
      obtain ⟨dx2, d2, hp, tb⟩ := id t
      refine ⟨_, rfl, p, dx2, _, rfl, hp, rfl, p, gs, rfl, t, fun H2 a ws s2 na ea hR => ?_⟩
      exact q1 gd H2 a ws (s1.trans s2) (same_at s1 na) ea hR
    · refine ⟨true, R.exm, fun _ a na => ?_, fun z => nomatch z⟩
      have sA := s0.trans s1
      refine ⟨_, rfl, Co, e, _, .ref Co, .ref Co, true, rfl, rfl, he, R.is, rfl, fun u r => r, R.yes, _, rfl, ?_⟩
      refine ⟨_, rfl, Co, e, _, .ref Cn, .ref Cn, false, rfl, rfl, he, R.is, rfl, fun u r => r, R.no, _, rfl, ?_⟩
      refine ⟨_, rfl, rfl, rfl, e, _, .str "files", rfl, he, rfl, by show 2 ≤ sizeLine; decide, fun t nt => ?_⟩
      exact q2 gd _ t (sA.trans (same_upd nt)) (same_at sA nt) upd_same
end
end K02

set_option maxRecDepth 100000
set_option maxHeartbeats 4000000
namespace K02
open PySem PySem.Spec PyProof.Rows L2 TL Ga NdefX
theorem apart_of {l : List Str} (nd : l.Nodup) (h : ∀ a ∈ l, ∀ b ∈ l, inside a b = false) : apart l = true := by
  have h3 := (cnt_nodup l l.length (Nat.le_refl _)).mpr (by rw [List.take_length]; exact nd)
  have h4 : (l.any fun a => l.any fun b => inside a b) = false := List.any_eq_false.mpr fun a ha => by
    rw [Bool.not_eq_true]
    exact List.any_eq_false.mpr fun b hb => by rw [h a ha b hb]; exact Bool.false_ne_true
  rw [apart, h3, h4, decide_eq_false (by omega)]
  rfl
theorem apart_in {l : List Str} (h : apart l = true) {a b : Str} (ha : a ∈ l) (hb : b ∈ l) : inside a b = false := by
  have h2 := not_t (Bool.and_eq_true_iff.mp h).2
  have h3 := List.any_eq_false.mp h2 a ha
  rw [Bool.not_eq_true] at h3
  have h4 := List.any_eq_false.mp h3 b hb
  rwa [Bool.not_eq_true] at h4
theorem good_apart {fs : List File} (h : goodFiles fs = true) : apart (fs.map (·.1)) = true := (Bool.and_eq_true_iff.mp h).2
/-- a sign of the law is a sign of a line, but for the quote -/
theorem sign_ok : ∀ c : Nat, okc c = true → signOk c = !decide (c = 34) := by
  intro c h
  simp only [okc, Bool.and_eq_true, decide_eq_true_eq, Bool.not_eq_true', decide_eq_false_iff_not] at h
  obtain ⟨h1, h2, h3⟩ := h
  have e1 : decide ([c] < [32]) = false := decide_eq_false fun z => by
    have := List.cons_lt_cons_iff.mp z
    rcases this with z | ⟨_, z⟩
    · omega
    · exact absurd z (by simp)
  have e2 : decide ([126] < [c]) = false := decide_eq_false fun z => by
    have := List.cons_lt_cons_iff.mp z
    rcases this with z | ⟨_, z⟩
    · omega
    · exact absurd z (by simp)
  rw [signOk, e1, e2, decide_eq_false h3]
  cases decide (c = 34) <;> rfl
theorem line_bad {n : Nat} {z : Str} (h : okText n z) : isLine z = !badLine z := by
  have hs : (tl z).all signOk = !decide (34 ∈ tl z) := by
    have h2 := h.2
    generalize tl z = l at h2 ⊢
    induction l with
    | nil => rfl
    | cons c l ih =>
      rw [List.all_cons] at h2
      obtain ⟨a, b⟩ := Bool.and_eq_true_iff.mp h2
      rw [List.all_cons, ih b, sign_ok c a]
      by_cases e : c = 34
      · subst e
        simp
      · have e2 : (34 ∈ c :: l) ↔ 34 ∈ l := by
          rw [List.mem_cons]
          exact ⟨fun z => z.resolve_left fun y => e y.symm, .inr⟩
        rw [decide_eq_false e, decide_eq_decide.mpr e2]
        rfl
  rw [isLine, badLine, hs]
  by_cases e : ((tl z).length : Int) ≤ 20
  · rw [decide_eq_true e, decide_eq_false (show ¬ (20 : Int) < ((tl z).length : Int) by omega)]
    rfl
  · rw [decide_eq_false e, decide_eq_true (show (20 : Int) < ((tl z).length : Int) by omega)]
    rfl
theorem lines_bad {l : List Str} (h : ∀ z ∈ l, okText 50 z) : isLines l = !(decide ((12 : Int) < (l.length : Int)) || !(l.filter badLine).isEmpty) := by
  have h1 : l.all isLine = (l.filter badLine).isEmpty := by
    induction l with
    | nil => rfl
    | cons z l ih =>
      rw [List.all_cons, ih fun y hy => h y (List.mem_cons_of_mem _ hy), line_bad (h z List.mem_cons_self), List.filter_cons]
      cases badLine z <;> simp
  rw [isLines, h1]
  by_cases e : (l.length : Int) ≤ 12
  · rw [decide_eq_true e, decide_eq_false (show ¬ (12 : Int) < (l.length : Int) by omega)]
    cases (l.filter badLine).isEmpty <;> rfl
  · rw [decide_eq_false e, decide_eq_true (show (12 : Int) < (l.length : Int) by omega)]
    rfl
theorem LawF.nodupI {fs : List File} (h : LawF fs) (nd : (fs.map (·.1)).Nodup) : apart (fs.map (·.1)) = true := by
  refine apart_of nd fun a ha b hb => ?_
  obtain ⟨f, hf, rfl⟩ := List.mem_map.mp ha
  obtain ⟨g, hg, rfl⟩ := List.mem_map.mp hb
  exact h.clean f hf g hg
theorem LawF.linesT {fs : List File} (h : LawF fs) {f : File} (hf : f ∈ fs) : isLines f.2 = true := by
  obtain ⟨_, h2, h3⟩ := h.each f hf
  rw [isLines, decide_eq_true (by omega)]
  exact List.all_eq_true.mpr fun z hz => (h3 z hz).2
theorem LawF.good {fs : List File} (h : LawF fs) (nd : (fs.map (·.1)).Nodup) : goodFiles fs = true := by
  rw [goodFiles, h.nodupI nd, decide_eq_true (by have := h.few; omega)]
  have : (fs.all fun f => isPath f.1 && isLines f.2) = true := List.all_eq_true.mpr fun f hf => by
    rw [(pth (h.each f hf).1).path, h.linesT hf]
    rfl
  rw [this]
  rfl
theorem LawF.lawR {fs : List File} (h : LawF fs) : LawR fs := ⟨fun f hf => by
  obtain ⟨a, b, c⟩ := h.each f hf
  exact ⟨(pth a).text.mono (by decide), by omega, fun z hz => (c z hz).1.mono (by decide)⟩, by have := h.few; omega⟩
theorem zz_path : isPath "zz" = true := by decide +kernel
theorem zz_self : inside "zz" "zz" = false := by decide +kernel
/-- a last file "zz" with any lines -/
theorem LawF.zz {fs : List File} (h : LawF fs) (nd : (fs.map (·.1)).Nodup) {l : List Str} (hl : ∀ z ∈ l, okText 50 z) : lawGood (fs ++ [(("zz" : Str), l)]) = goodFiles (fs ++ [(("zz" : Str), l)]) := by
  have hA : apart ((fs ++ [(("zz" : Str), l)]).map (·.1)) = true := by
    rw [List.map_append]
    refine apart_of (List.nodup_append.mpr ⟨nd, by simp, fun a ha b hb e => ?_⟩) fun a ha b hb => ?_
    · obtain ⟨f, hf, e1⟩ := List.mem_map.mp ha
      have e2 := List.mem_singleton.mp hb
      exact (pth (h.each f hf).1).zz (e1.trans (e.trans e2))
    · rcases List.mem_append.mp ha with ha | ha
      · obtain ⟨f, hf, rfl⟩ := List.mem_map.mp ha
        rcases List.mem_append.mp hb with hb | hb
        · obtain ⟨g, hg, rfl⟩ := List.mem_map.mp hb
          exact h.clean f hf g hg
        · rw [List.mem_singleton.mp hb]
          exact (pth (h.each f hf).1).zz1
      · rw [List.mem_singleton.mp ha]
        rcases List.mem_append.mp hb with hb | hb
        · obtain ⟨g, hg, rfl⟩ := List.mem_map.mp hb
          exact (pth (h.each g hg).1).zz2
        · rw [List.mem_singleton.mp hb]
          exact zz_self
  rw [lawGood, goodFiles, hA, decide_eq_true (by have := h.few; rw [List.length_append]; show ((fs.length + 1 : Nat) : Int) ≤ 20; omega), List.all_append, List.all_append]
  have e1 : (fs.all fun f => !(decide ((12 : Int) < (f.2.length : Int)) || !(f.2.filter badLine).isEmpty)) = true := List.all_eq_true.mpr fun f hf => by
    rw [← lines_bad fun z hz => ((h.each f hf).2.2 z hz).1.mono (by decide)]
    exact h.linesT hf
  have e2 : (fs.all fun f => isPath f.1 && isLines f.2) = true := List.all_eq_true.mpr fun f hf => by
    rw [(pth (h.each f hf).1).path, h.linesT hf]
    rfl
  rw [e1, e2]
  show (true && (_ && true)) = ((true && (true && ((isPath "zz" && isLines l) && true))) && true)
  rw [zz_path, lines_bad hl]
  simp
theorem good_dup {fs : List File} {f : File} {l : List Str} (hf : f ∈ fs) : goodFiles (fs ++ [(f.1, l)]) = false := Bool.eq_false_iff.mpr fun z => by
  have nd := good_nodup z
  rw [paths, List.map_append] at nd
  exact (List.nodup_append.mp nd).2.2 f.1 (List.mem_map_of_mem hf) f.1 (by simp) rfl
theorem good_sub {fs : List File} (h : LawF fs) {f : File} {l : List Str} (hf : f ∈ fs) : goodFiles (fs ++ [(f.1 ++ "/z", l)]) = false := Bool.eq_false_iff.mpr fun z => by
  have hA := good_apart z
  rw [List.map_append] at hA
  have := apart_in hA (a := f.1 ++ "/z") (b := f.1) (List.mem_append_right _ (by simp)) (List.mem_append_left _ (List.mem_map_of_mem hf))
  rw [(pth (h.each f hf).1).sub] at this
  cases this
theorem good_bad {fs : List File} {x : Str} {l : List Str} (hx : isPath x = false) : goodFiles (fs ++ [(x, l)]) = false := Bool.eq_false_iff.mpr fun z => by
  have := (Bool.and_eq_true_iff.mp (Bool.and_eq_true_iff.mp z).1).2
  have := List.all_eq_true.mp this (x, l) (by simp)
  rw [hx] at this
  cases this
theorem many19 : goodFiles (manyF 19) = true := by decide +kernel
theorem many20 : goodFiles (manyF 20) = true := by decide +kernel
theorem many21 : goodFiles (manyF 21) = false := by decide +kernel
end K02

set_option maxRecDepth 100000
set_option maxHeartbeats 4000000
namespace K02
open PySem PySem.Spec PyProof.Rows L2 TL Ga NdefX
theorem scBad : FnScope ["box", "rows", "kind", "many"] ["box", "rows"] (defScope sBad) := ⟨rfl, rfl, rfl, by decide +kernel, rfl, by decide +kernel, by decide +kernel⟩
/-- what the second item tells of the files -/
def Flag (gs : List File) (g : V) : Prop := (∃ b, g = .bl b ∧ goodFiles gs = b) ∨ (g = .non ∧ lawGood gs = goodFiles gs)
def spBad (K : PySem.W.Frag) : Sp := fun vs H Q _ => ∃ (B D r : Addr) (ws : List V) (fs : List File), vs = [.ref B, .ref r] ∧ Box H B D ∧ H r = some (.lst ws) ∧ r ≠ B ∧ RowsAt K H ws fs ∧ LawF fs ∧ (fs.map (·.1)).Nodup ∧
  ∀ res r' g ws' gs H', H' res = some (.lst [.ref r', g]) → H' r' = some (.lst ws') → RowsAt K H' ws' gs → LawR gs → Flag gs g → Kp B H H' → Box H' B D → Q (.ref res) H'
theorem depthL (l : List Str) : (dL l).depth = 1 := by
  show PyData.depthAll (l.map PyData.str) + 1 = 1
  rw [depthAll0]
theorem depthF (f : File) : (dF f).depth = 2 := by
  show max 0 (max (dL f.2).depth 0) + 1 = 2
  rw [depthL]
  rfl
theorem depthRows : ∀ fs : List File, PyData.depthAll (fs.map dF) ≤ 2
  | [] => Nat.zero_le _
  | f :: r => by
    show max (dF f).depth (PyData.depthAll (r.map dF)) ≤ 2
    rw [depthF]
    have := depthRows r
    omega
theorem canF {f : File} (h1 : PyData.strOk f.1 = true) (h2 : ∀ z ∈ f.2, PyData.strOk z = true) : (dF f).canLay0 = true := by
  show (PyData.strOk f.1 && ((dL f.2).canLay0 && true)) = true
  rw [h1, show (dL f.2).canLay0 = true from canAll _ h2]
  rfl
theorem canRows : ∀ fs : List File, LawR fs → PyData.canLayAll0 (fs.map dF) = true
  | [], _ => rfl
  | f :: r, h => by
    show ((dF f).canLay0 && PyData.canLayAll0 (r.map dF)) = true
    obtain ⟨a, b, c⟩ := h.each f List.mem_cons_self
    rw [canF (okc_strOk a) fun z hz => okc_strOk (c z hz), canRows r ⟨fun g hg => h.each g (List.mem_cons_of_mem _ hg), by have := h.few; rw [List.length_cons] at this; omega⟩]
    rfl
theorem shaped_rows {fs : List File} (h : LawR fs) : SeqAt.shaped (.list (fs.map dF)) = true := by
  unfold SeqAt.shaped
  have e1 : PyData.canLay0 (.list (fs.map dF)) = true := canRows fs h
  have e2 : PyData.depth (.list (fs.map dF)) ≤ 3 := by
    show PyData.depthAll (fs.map dF) + 1 ≤ 3
    have := depthRows fs
    omega
  rw [e1]
  simp only [Bool.true_and, decide_eq_true_eq]
  omega
section
variable {K : PySem.W.Frag} {H : Hp} {σ : L2.St}
theorem etEqI {i : Nat} {k n : Int} (h : σ[i]? = some (some (.int k))) : EvT (tTest (tOp rEq (tVar i) (tC (.int n)))) σ H (decide (k = n)) := fun H1 s Q q =>
  ⟨_, h, rfl, _, rfl, by
    have : decide (V.int k = V.int n) = decide (k = n) := decide_eq_decide.mpr ⟨V.int.inj, fun z => by rw [z]⟩
    rw [this]
    exact q H1 (.refl _)⟩
theorem etNeRows {i : Nat} {r : Addr} {ws : List V} {fs : List File} (h : σ[i]? = some (some (.ref r))) (hr : H r = some (.lst ws)) (hR : RowsAt K H ws fs) (lr : LawR fs) : EvT (tTest (tOp (rNeD K) (tVar i) (tLst tNil))) σ H (!fs.isEmpty) := fun H1 s Q q => by
  refine ⟨_, h, Nat.zero_le _, fun l nl => ?_⟩
  have s2 : Same H1 (upd H1 l (.lst [])) := same_upd nl
  refine ⟨.list (fs.map dF), .list [], .lst (sqL ((s.trans s2) _ _ hr)) (hR.st (s.trans s2).t).dp, .lst (sqL upd_same) .nil, shaped_rows lr, by decide +kernel, _, rfl, ?_⟩
  rw [eqv_nil, isEmpty_map]
  exact q _ s2
/-- rows + [e], and the flag behind it -/
theorem cat_end {B D r : Addr} {ws : List V} {fs : List File} {H3 : Hp} {e g : V} {f : File} {Q : VK} (hr : H3 r = some (.lst ws)) (hR : RowsAt K H3 ws fs) (hf : RowAt K H3 e f) (lr : LawR (fs ++ [f])) (fl : Flag (fs ++ [f]) g) (kp : Kp B H H3) (bx : Box H3 B D)
    (q : ∀ res r' g ws' gs H', H' res = some (.lst [.ref r', g]) → H' r' = some (.lst ws') → RowsAt K H' ws' gs → LawR gs → Flag gs g → Kp B H H' → Box H' B D → Q (.ref res) H') :
    [e].length ≤ sizeLine ∧ ∀ l, H3 l = none → rCat (.ref r) (.ref l) (upd H3 l (.lst [e])) fun x H5 => [x, g].length ≤ sizeLine ∧ ∀ p, H5 p = none → Q (.ref p) (upd H5 p (.lst [x, g])) := by
  have hl : ws.length = fs.length := hR.length
  have hf2 := lr.few
  rw [List.length_append] at hf2
  refine ⟨by show 1 ≤ sizeLine; decide, fun l nl => ?_⟩
  have s1 : Same H3 (upd H3 l (.lst [e])) := same_upd nl
  refine ⟨r, l, ws, [e], rfl, rfl, s1 _ _ hr, upd_same, Nat.le_trans (show ws.length + 1 ≤ 41 by omega) (by decide), fun p np => ⟨by show 2 ≤ sizeLine; decide, fun res nres => ?_⟩⟩
  have s2 : Same (upd H3 l (.lst [e])) (upd (upd H3 l (.lst [e])) p (.lst (ws ++ [e]))) := same_upd np
  have s3 : Same (upd (upd H3 l (.lst [e])) p (.lst (ws ++ [e]))) (upd (upd (upd H3 l (.lst [e])) p (.lst (ws ++ [e]))) res (.lst [.ref p, g])) := same_upd nres
  have st := (s1.trans s2).trans s3
  refine q res p g (ws ++ [e]) (fs ++ [f]) _ upd_same ?_ ?_ lr fl (kp.trans (.same st)) (bx.same st)
  · exact s3 _ _ upd_same
  · exact (hR.st st.t).snoc (hf.st st.t)
end
theorem LawR.snoc {fs : List File} (h : LawF fs) {f : File} (h1 : okText 50 f.1) (h2 : f.2.length ≤ 50) (h3 : ∀ z ∈ f.2, okText 50 z) : LawR (fs ++ [f]) := by
  refine ⟨fun g hg => ?_, by rw [List.length_append]; have := h.few; show fs.length + 1 ≤ 40; omega⟩
  rcases List.mem_append.mp hg with hg | hg
  · exact h.lawR.each g hg
  · rw [List.mem_singleton.mp hg]
    exact ⟨h1, h2, h3⟩
theorem manyR : ∀ n : Nat, n = 19 ∨ n = 20 ∨ n = 21 → LawR (manyF n) := by
  intro n hn
  have key : ∀ m : List File, m.all (fun f => decide (okText 50 f.1) && (decide (f.2.length ≤ 50) && f.2.all fun z => decide (okText 50 z))) = true → m.length ≤ 40 → LawR m := fun m h hl => ⟨fun f hf => by
    have := List.all_eq_true.mp h f hf
    simp only [Bool.and_eq_true, decide_eq_true_eq, List.all_eq_true] at this
    exact this, hl⟩
  rcases hn with rfl | rfl | rfl
  · exact key _ (by decide +kernel) (by decide +kernel)
  · exact key _ (by decide +kernel) (by decide +kernel)
  · exact key _ (by decide +kernel) (by decide +kernel)
theorem take_snocV {α : Type} {l : List α} {i : Nat} {c : α} (h : l[i]? = some c) : l.take (i + 1) = l.take i ++ [c] := by
  rw [List.take_add_one, h]; rfl
theorem at_last {ws : List V} {v : V} (h : 0 < ws.length) (e : ws[ws.length - 1]? = some v) : atI ws (-1) = some v := by
  have h2 := take_snocV e
  rw [show ws.length - 1 + 1 = ws.length by omega, List.take_length] at h2
  rw [h2]
  exact atI_last _ v
theorem badp_mem {v : V} (h : v ∈ ([.str "A", .str "", .str "a//b", .str "q/w/e/r", .str "a b"] : List V)) : ∃ z, v = .str z ∧ isPath z = false ∧ okText 50 z := by
  have key : ([.str "A", .str "", .str "a//b", .str "q/w/e/r", .str "a b"] : List V).all (fun v => match v with | .str z => !isPath z && decide (okText 50 z) | _ => false) = true := by decide +kernel
  have := List.all_eq_true.mp key v h
  cases v with
  | str z =>
    obtain ⟨a, b⟩ := Bool.and_eq_true_iff.mp this
    exact ⟨z, rfl, not_t a, of_decide_eq_true b⟩
  | _ => cases this
theorem flat_rep {z : Str} : ∀ n : Nat, (List.replicate n [V.str z]).flatten = (List.replicate n z).map V.str
  | 0 => rfl
  | n + 1 => by rw [List.replicate_succ, List.flatten_cons, flat_rep n, List.replicate_succ]; rfl
section
variable {P : Program} {w : World} {K : PySem.W.Frag} {mg : Str → Option Value} {base : Heap}
theorem ok_bad {f : Addr} {fd : FuncData} (F : Fun K "_law_bad" "_law_bad" sBad f fd) (T : Tx mg) (CD : Cal P w K mg base 1 "_law_draw" ["box", "many"] spDraw) (CM : Cal P w K mg base 1 "_law_many" ["count"] (spMany K)) :
    FnOk P w K mg base CX0 2 f fd ["box", "rows"] (spBad K) := by
  obtain ⟨fD, fdD, GD, gD, kD, bD⟩ := CD.ex
  obtain ⟨fM, fdM, GM, gM, kM, bM⟩ := CM.ex
  refine F.ok scBad (fun vs H Q E h => ?_) (fun cdv A outer s H vs Q E hr h => ?_)
  · obtain ⟨B, D, r, ws, fs, rfl, _⟩ := h
    rfl
  · obtain ⟨B, D, r, ws, fs, rfl, bx, hrr, nrB, hR, lf, nd, q⟩ := h
    refine ⟨_, pss_cons (ps_set (i := 2) scBad.nd rfl (.inl rfl) (pe_call GD hr (by rfl) gD kD bD .nil pass0 (pa_cons (pv 0) (pa_cons pe_int pa_nil))))
      (pss_cons (ps_if (PW.pt (pw_and (pt_cmpR op_eq (pv 2) pe_int (nomark _)) (pw_and1 (pt_cmpR (op_neD hr.units) (pv 1) (pe_lst pa_nil) (nomark _)))))
        (pss_one (ps_ret (pe_lst (pa_cons (pe_op op_cat (pv 1) (pe_lst (pa_cons (pe_tup (pa_cons (pe_ix ix_tup (pe_ix ix_list (pv 1) pe_int (fun _ _ => rfl)) pe_int (fun _ _ => rfl)) (pa_cons (pe_tup (pa_cons pe_str pa_nil)) pa_nil))) pa_nil))) (pa_cons pe_bl pa_nil))))) pss_nil)
      (pss_cons (ps_if (PW.pt (pw_and (pt_cmpR op_eq (pv 2) pe_int (nomark _)) (pw_and1 (pt_cmpR (op_neD hr.units) (pv 1) (pe_lst pa_nil) (nomark _)))))
        (pss_one (ps_ret (pe_lst (pa_cons (pe_op op_cat (pv 1) (pe_lst (pa_cons (pe_tup (pa_cons (pe_op op_add_str (pe_ix ix_tup (pe_ix ix_list (pv 1) (pe_un un_neg pe_int) (fun _ _ => rfl)) pe_int (fun _ _ => rfl)) pe_str) (pa_cons (pe_tup pa_nil) pa_nil))) pa_nil))) (pa_cons pe_bl pa_nil))))) pss_nil)
      (pss_cons (ps_if (pt_cmpR op_eq (pv 2) pe_int (nomark _))
        (pss_one (ps_ret (pe_lst (pa_cons (pe_op op_cat (pv 1) (pe_lst (pa_cons (pe_tup (pa_cons (pe_ix ix_list (pe_lst (pa_consts rfl)) (pe_call GD hr (by rfl) gD kD bD .nil pass0 (pa_cons (pv 0) (pa_cons pe_int pa_nil))) (fun _ _ => rfl)) (pa_cons (pe_tup pa_nil) pa_nil))) pa_nil))) (pa_cons pe_bl pa_nil))))) pss_nil)
      (pss_cons (ps_if (pt_cmpR op_eq (pv 2) pe_int (nomark _))
        (pss_one (ps_ret (pe_lst (pa_cons (pe_op op_cat (pv 1) (pe_lst (pa_cons (pe_tup (pa_cons pe_str (pa_cons (pe_op (op_repS (K := K) rfl) (pe_tup (pa_cons pe_str pa_nil)) (pe_op op_add pe_int (pe_call GD hr (by rfl) gD kD bD .nil pass0 (pa_cons (pv 0) (pa_cons pe_int pa_nil))))) pa_nil))) pa_nil))) (pa_cons pe_non pa_nil))))) pss_nil)
      (pss_cons (ps_if (pt_cmpR op_eq (pv 2) pe_int (nomark _))
        (pss_one (ps_ret (pe_lst (pa_cons (pe_op op_cat (pv 1) (pe_lst (pa_cons (pe_tup (pa_cons pe_str (pa_cons (pe_op op_catA (pe_op (op_repS (K := K) rfl) (pe_tup (pa_cons pe_str pa_nil)) (pe_call GD hr (by rfl) gD kD bD .nil pass0 (pa_cons (pv 0) (pa_cons pe_int pa_nil))))
          (pe_tup (pa_cons (pe_ix ix_list (pe_lst (pa_cons pe_str (pa_cons (pe_op op_mulS pe_str pe_int) (pa_cons (pe_op op_mulS pe_str pe_int) pa_nil)))) (pe_call GD hr (by rfl) gD kD bD .nil pass0 (pa_cons (pv 0) (pa_cons pe_int pa_nil))) (fun _ _ => rfl)) pa_nil))) pa_nil))) pa_nil))) (pa_cons pe_non pa_nil))))) pss_nil)
      (pss_cons (ps_if (pt_cmpR op_eq (pv 2) pe_int (nomark _))
        (pss_cons (ps_set (i := 3) scBad.nd rfl (.inl rfl) (pe_op op_add pe_int (pe_call GD hr (by rfl) gD kD bD .nil pass0 (pa_cons (pv 0) (pa_cons pe_int pa_nil)))))
          (pss_one (ps_ret (pe_lst (pa_cons (pe_call GM hr (by rfl) gM kM bM .nil pass0 (pa_cons (pv 3) pa_nil)) (pa_cons (pe_cmpR op_le (pv 3) pe_int (nomark _)) pa_nil)))))) pss_nil)
      (pss_one (ps_ret (pe_lst (pa_cons (pv 1) (pa_cons pe_bl pa_nil))))))))))), ?_⟩
    refine ⟨_, rfl, B, D, 7, rfl, by decide, bx, fun k H1 k0 k7 kp1 bx1 => ?_⟩
    have hr1 : H1 r = some (.lst ws) := kp1 _ _ nrB hrr
    have hR1 := hR.st (SameT.box kp1 bx)
    have wl : ws.length = fs.length := hR.length
    refine EvT.go (etAnd (etEqI rfl) (etNeRows rfl hr1 hR1 lf.lawR)) fun H2 s2 => ?_
    have hr2 := s2 _ _ hr1
    have hR2 := hR1.st s2.t
    have kp2 : Kp B H H2 := kp1.trans (.same s2)
    have bx2 := bx1.same s2
    refine ite2 (fun e => ?_) (fun e => ?_)
    · have hne := (Bool.and_eq_true_iff.mp e).2
      match fs, ws, hR2, hr2, hne with
      | f0 :: fs', v0 :: ws', .cons r0 rs, hr2, _ =>
        obtain ⟨t0, w0, rfl, ht0, hw0⟩ := id r0
        refine ⟨_, rfl, _, rfl, r, _, 0, .ref t0, rfl, rfl, sqL hr2, atI_nat (j := 0) rfl, t0, _, 0, .str f0.1, rfl, rfl, ht0, atI_nat (j := 0) rfl, by show 1 ≤ sizeLine; decide, fun t nt => ⟨by show 2 ≤ sizeLine; decide, fun t2 nt2 => ?_⟩⟩
        have sA : Same H2 (upd (upd H2 t (.tup [.str "y"])) t2 (.tup [.str f0.1, .ref t])) := (same_upd nt).trans (same_upd nt2)
        have n2 : t ≠ t2 := fun z => by rw [← z, upd_same] at nt2; cases nt2
        refine cat_end (B := B) (D := D) (f := (f0.1, ["y"])) (sA _ _ hr2) (RowsAt.st (.cons r0 rs) sA.t) ⟨t2, .ref t, rfl, sqT upd_same, t, rfl, sqT (by rw [upd_ne n2, upd_same]; rfl)⟩
          (LawR.snoc lf ((lf.lawR.each f0 List.mem_cons_self).1) (by show 1 ≤ 50; decide) (fun z hz => by rw [List.mem_singleton.mp hz]; decide +kernel)) (.inl ⟨false, rfl, good_dup List.mem_cons_self⟩) (kp2.trans (.same sA)) (bx2.same sA) q
    · refine EvT.go (etAnd (etEqI rfl) (etNeRows rfl hr2 hR2 lf.lawR)) fun H3 s3 => ?_
      have hr3 := s3 _ _ hr2
      have hR3 := hR2.st s3.t
      have kp3 : Kp B H H3 := kp2.trans (.same s3)
      have bx3 := bx2.same s3
      have cmp : ∀ n : Int, decide (V.int k = V.int n) = decide (k = n) := fun n => decide_eq_decide.mpr ⟨V.int.inj, fun z => by rw [z]⟩
      refine ite2 (fun e1 => ?_) (fun e1 => ?_)
      · have hne := not_t (Bool.and_eq_true_iff.mp e1).2
        have hpos : 0 < fs.length := by
          cases fs with
          | nil => cases hne
          | cons _ _ => exact Nat.succ_pos _
        obtain ⟨v0, hv0⟩ : ∃ v0, ws[ws.length - 1]? = some v0 := ⟨_, List.getElem?_eq_getElem (by omega)⟩
        obtain ⟨f0, hf0, r0⟩ := paired_get hR3 _ _ hv0
        obtain ⟨t0, w0, rfl, ht0, hw0⟩ := id r0
        have mf := List.mem_of_getElem? hf0
        have tp := (lf.each f0 mf).1
        refine ⟨_, rfl, _, rfl, 1, rfl, r, ws, -1, .ref t0, rfl, rfl, sqL hr3, ?_, t0, _, 0, .str f0.1, rfl, rfl, ht0, atI_nat (j := 0) rfl, _, _, rfl, rfl, ?_, Nat.zero_le _, fun t nt => ⟨by show 2 ≤ sizeLine; decide, fun t2 nt2 => ?_⟩⟩
        · exact at_last (by omega) hv0
        · have t1 := (pth tp).text.1
          rw [len_tl]
          have e9 : ("/z" : Str).length = 2 := by decide +kernel
          rw [e9]
          exact Nat.le_trans (show (tl f0.1).length + 2 ≤ 10 by omega) (by decide)
        · have sA : Same H3 (upd (upd H3 t (.tup [])) t2 (.tup [.str (f0.1 ++ "/z"), .ref t])) := (same_upd nt).trans (same_upd nt2)
          have n2 : t ≠ t2 := fun z => by rw [← z, upd_same] at nt2; cases nt2
          have tz : okText 2 ("/z" : Str) := by decide +kernel
          refine cat_end (B := B) (D := D) (f := (f0.1 ++ "/z", [])) (sA _ _ hr3) (RowsAt.st hR3 sA.t) ⟨t2, .ref t, rfl, sqT upd_same, t, rfl, sqT (by rw [upd_ne n2, upd_same]; rfl)⟩
            (LawR.snoc lf (((pth (lf.each f0 mf).1).text.app tz).mono (by decide)) (Nat.zero_le _) (fun z hz => nomatch hz)) (.inl ⟨false, rfl, good_sub lf mf⟩) (kp3.trans (.same sA)) (bx3.same sA) q
      · refine ⟨_, rfl, rfl, _, rfl, ?_⟩
        rw [cmp]
        refine ite2 (fun e2 => ?_) (fun e2 => ?_)
        · refine ⟨_, rfl, ?_⟩
          refine pick (B := B) (D := D) (by rfl) (by decide) (by decide) rfl bx3 fun v hv H4 kp4 bx4 => ?_
          obtain ⟨z, rfl, bz, oz⟩ := badp_mem hv
          refine ⟨Nat.zero_le _, fun t nt => ⟨by show 2 ≤ sizeLine; decide, fun t2 nt2 => ?_⟩⟩
          have sA : Same H4 (upd (upd H4 t (.tup [])) t2 (.tup [.str z, .ref t])) := (same_upd nt).trans (same_upd nt2)
          have n2 : t ≠ t2 := fun y => by rw [← y, upd_same] at nt2; cases nt2
          exact cat_end (B := B) (D := D) (f := (z, [])) (sA _ _ (kp4 _ _ nrB hr3)) (RowsAt.st hR3 ((SameT.box kp4 bx3).trans sA.t)) ⟨t2, .ref t, rfl, sqT upd_same, t, rfl, sqT (by rw [upd_ne n2, upd_same]; rfl)⟩
            (LawR.snoc lf oz (Nat.zero_le _) (fun z hz => nomatch hz)) (.inl ⟨false, rfl, good_bad bz⟩) ((kp3.trans kp4).trans (.same sA)) (bx4.same sA) q
        · refine ⟨_, rfl, rfl, _, rfl, ?_⟩
          rw [cmp]
          refine ite2 (fun e3 => ?_) (fun e3 => ?_)
          · refine ⟨_, rfl, by show 1 ≤ sizeLine; decide, fun tx ntx => ?_⟩
            refine ⟨_, rfl, B, D, 3, rfl, by decide, bx3.new ntx, fun n H4 n0 n3 kp4 bx4 => ?_⟩
            have kx : Kp B H3 H4 := Kp.new ntx kp4
            have ntB : tx ≠ B := bx3.ne ntx
            refine ⟨_, _, rfl, rfl, tx, 11 + n, [.str "x"], rfl, rfl, sqT (kp4 _ _ ntB upd_same), by simp, by omega, by omega, by show 1 ≤ 1000; decide, fun p H5 s5 hp => ⟨by show 2 ≤ sizeLine; decide, fun t2 nt2 => ?_⟩⟩
            rw [flat_rep] at hp
            have sA : Same H4 (upd H5 t2 (.tup [.str "zz", .ref p])) := s5.trans (same_upd nt2)
            have hl50 : ∀ z ∈ List.replicate (11 + n).toNat ("x" : Str), okText 50 z := fun z hz => by
              rw [List.eq_of_mem_replicate hz]
              decide +kernel
            exact cat_end (B := B) (D := D) (f := ("zz", List.replicate (11 + n).toNat "x")) (sA _ _ (kx _ _ nrB hr3)) (RowsAt.st hR3 ((SameT.box kx bx3).trans sA.t)) ⟨t2, .ref p, rfl, sqT upd_same, p, rfl, (same_upd nt2).seqT hp⟩
              (LawR.snoc lf (show okText 50 ("zz" : Str) by decide +kernel) (by show (List.replicate _ _).length ≤ 50; rw [List.length_replicate]; omega) hl50) (.inr ⟨rfl, lf.zz nd hl50⟩) ((kp3.trans kx).trans (.same sA)) (bx4.same sA) q
          · refine ⟨_, rfl, rfl, _, rfl, ?_⟩
            rw [cmp]
            refine ite2 (fun e4 => ?_) (fun e4 => ?_)
            · refine ⟨_, rfl, by show 1 ≤ sizeLine; decide, fun tx ntx => ?_⟩
              refine ⟨_, rfl, B, D, 3, rfl, by decide, bx3.new ntx, fun n H4 n0 n3 kp4 bx4 => ?_⟩
              have kx : Kp B H3 H4 := Kp.new ntx kp4
              have ntB : tx ≠ B := bx3.ne ntx
              refine ⟨tx, n, [.str "x"], rfl, rfl, sqT (kp4 _ _ ntB upd_same), by simp, n0, by omega, by show 1 ≤ 1000; decide, fun p H5 s5 hp => ?_⟩
              rw [flat_rep] at hp
              have bx5 := bx4.same s5
              refine ⟨"y", 21, rfl, rfl, by decide, by decide, by decide +kernel, fun z1 h1 => ⟨"y", 20, rfl, rfl, by decide, by decide, by decide +kernel, fun z2 h2 => ⟨by show 3 ≤ sizeLine; decide, fun l nl => ?_⟩⟩⟩
              refine pick_at (B := B) (D := D) (by rfl) (by decide) upd_same (bx5.ne nl) rfl (bx5.new nl) fun v hv H6 kp6 bx6 => ?_
              obtain ⟨z, rfl, oz⟩ : ∃ z, v = V.str z ∧ okText 50 z := by
                rcases List.mem_cons.mp hv with rfl | hv
                · exact ⟨_, rfl, by decide +kernel⟩
                rcases List.mem_cons.mp hv with rfl | hv
                · exact ⟨_, rfl, by rw [h1]; decide +kernel, by rw [h1]; decide +kernel⟩
                rcases List.mem_cons.mp hv with rfl | hv
                · exact ⟨_, rfl, by rw [h2]; decide +kernel, by rw [h2]; decide +kernel⟩
                cases hv
              have k56 : Kp B H5 H6 := Kp.new nl kp6
              have kAll : Kp B H3 H6 := (kx.trans (.same s5)).trans k56
              have hp6 : SqT K H6 p ((List.replicate n.toNat ("x" : Str)).map V.str) := (SameT.box k56 bx5).sq hp
              have hl50 : ∀ y ∈ List.replicate n.toNat ("x" : Str) ++ [z], okText 50 y := fun y hy => by
                rcases List.mem_append.mp hy with hy | hy
                · rw [List.eq_of_mem_replicate hy]
                  decide +kernel
                · rw [List.mem_singleton.mp hy]
                  exact oz
              refine ⟨by show 1 ≤ sizeLine; decide, fun t1 nt1 => ?_⟩
              have s7 : Same H6 (upd H6 t1 (.tup [.str z])) := same_upd nt1
              have fin : ∀ u H8, Same H6 H8 → SqT K H8 u ((List.replicate n.toNat ("x" : Str) ++ [z]).map V.str) → ([V.str "zz", V.ref u].length ≤ sizeLine ∧ ∀ t2, H8 t2 = none →
                  ([V.ref t2].length ≤ sizeLine ∧ ∀ l, (upd H8 t2 (.tup [.str "zz", .ref u])) l = none → rCat (.ref r) (.ref l) (upd (upd H8 t2 (.tup [.str "zz", .ref u])) l (.lst [.ref t2])) fun x H5 => [x, V.non].length ≤ sizeLine ∧ ∀ p, H5 p = none → Q (.ref p) (upd H5 p (.lst [x, .non])))) := fun u H8 s8 hu => by
                refine ⟨by show 2 ≤ sizeLine; decide, fun t2 nt2 => ?_⟩
                have sA : Same H6 (upd H8 t2 (.tup [.str "zz", .ref u])) := s8.trans (same_upd nt2)
                exact cat_end (B := B) (D := D) (f := ("zz", List.replicate n.toNat ("x" : Str) ++ [z])) (sA _ _ (kAll _ _ nrB hr3)) (RowsAt.st hR3 ((SameT.box kAll bx3).trans sA.t)) ⟨t2, .ref u, rfl, sqT upd_same, u, rfl, (same_upd nt2).seqT hu⟩
                  (LawR.snoc lf (show okText 50 ("zz" : Str) by decide +kernel) (by show (List.replicate _ _ ++ [z]).length ≤ 50; rw [List.length_append, List.length_replicate]; show n.toNat + 1 ≤ 50; omega) hl50) (.inr ⟨rfl, lf.zz nd hl50⟩) ((kp3.trans kAll).trans (.same sA)) (bx6.same sA) q
              have zt : SqT K (upd H6 t1 (.tup [.str z])) t1 [.str z] := sqT upd_same
              refine ⟨p, t1, _, [.str z], rfl, rfl, s7.seqT hp6, zt, ?_, fun e9 => ?_, fun _ e9 => (nomatch e9), fun _ _ p2 np2 => ?_⟩
              · rw [List.length_map, List.length_replicate]
                exact Nat.le_trans (show n.toNat + 1 ≤ 10 by omega) (by decide)
              · have e10 : List.replicate n.toNat ("x" : Str) = [] := List.map_eq_nil_iff.mp e9
                exact fin t1 _ s7 (by rw [e10]; exact zt)
              · exact fin p2 _ (s7.trans (same_upd np2)) (sqT (by rw [upd_same, List.map_append]; rfl))
            · refine ⟨_, rfl, rfl, _, rfl, ?_⟩
              rw [cmp]
              refine ite2 (fun e5 => ?_) (fun e5 => ?_)
              · refine ⟨_, rfl, B, D, 3, rfl, by decide, bx3, fun n H4 n0 n3 kp4 bx4 => ?_⟩
                refine ⟨_, _, rfl, rfl, ?_⟩
                have hn : 19 + n = (((19 + n).toNat : Nat) : Int) := by omega
                refine ⟨_, rfl, (19 + n).toNat, by rw [← hn]; rfl, by omega, fun H5 a ws5 s5 na ea hR5 => ?_⟩
                refine ⟨_, rfl, _, _, rfl, rfl, by show 2 ≤ sizeLine; decide, fun res nres => ?_⟩
                have sA : Same H5 (upd H5 res (.lst [.ref a, .bl (decide (19 + n ≤ 20))])) := same_upd nres
                have hm : (19 + n).toNat = 19 ∨ (19 + n).toNat = 20 ∨ (19 + n).toNat = 21 := by omega
                refine q res a _ ws5 (manyF (19 + n).toNat) _ upd_same (sA _ _ ea) (RowsAt.st hR5 sA.t) (manyR _ hm) (.inl ⟨_, rfl, ?_⟩) (((kp3.trans kp4).trans (.same s5)).trans (.same sA)) ((bx4.same s5).same sA)
                rcases hm with h | h | h
                · rw [h, many19, decide_eq_true (by omega)]
                · rw [h, many20, decide_eq_true (by omega)]
                · rw [h, many21, decide_eq_false (by omega)]
              · refine ⟨_, rfl, by show 2 ≤ sizeLine; decide, fun res nres => ?_⟩
                have sA : Same H3 (upd H3 res (.lst [.ref r, .bl true])) := same_upd nres
                exact q res r _ ws fs _ upd_same (sA _ _ hr3) (hR3.st sA.t) lf.lawR (.inl ⟨true, rfl, lf.good nd⟩) (kp3.trans (.same sA)) (bx3.same sA)
end
end K02

set_option maxRecDepth 100000
set_option maxHeartbeats 4000000
namespace K02
open PySem PySem.Spec PyProof.Rows L2 TL Ga NdefX
/-! ### files in any order -/
theorem getF_of {fs : List File} (nd : (fs.map (·.1)).Nodup) {f : File} (hf : f ∈ fs) : getF fs f.1 = some f.2 := by
  induction fs with
  | nil => cases hf
  | cons g r ih =>
    have n2 := List.nodup_cons.mp nd
    unfold getF
    by_cases e : g.1 = f.1
    · rw [if_pos e, file_eq nd List.mem_cons_self hf e]
    · rw [if_neg e]
      rcases List.mem_cons.mp hf with rfl | hf1
      · exact absurd rfl e
      · exact ih n2.2 hf1
theorem getF_perm {fs gs : List File} (p : gs.Perm fs) (nd : (fs.map (·.1)).Nodup) (x : Str) : getF gs x = getF fs x := by
  have nd2 : (gs.map (·.1)).Nodup := (p.map _).nodup_iff.mpr nd
  cases e : getF fs x with
  | some l =>
    have := getF_mem e
    exact getF_of nd2 (f := (x, l)) (p.mem_iff.mpr this)
  | none =>
    cases e2 : getF gs x with
    | none => rfl
    | some l =>
      have := getF_of nd (f := (x, l)) (p.mem_iff.mp (getF_mem e2))
      rw [e] at this
      cases this
theorem srtF_congr {fs gs : List File} (p : gs.Perm fs) (nd : (fs.map (·.1)).Nodup) : srtF gs = srtF fs :=
  sortedF_is ((srtF_perm gs).trans p) nd (srtF_pw gs)
theorem srtF_nodup {fs : List File} (nd : (fs.map (·.1)).Nodup) : ((srtF fs).map (·.1)).Nodup := ((srtF_perm fs).map _).nodup_iff.mpr nd
theorem srtF_drop {fs gs : List File} (p : gs.Perm fs) (nd : (fs.map (·.1)).Nodup) (x : Str) : srtF (dropFs gs x) = (srtF fs).filter fun f => decide (f.1 ≠ x) := by
  have nd2 : (gs.map (·.1)).Nodup := (p.map _).nodup_iff.mpr nd
  refine (sortedF_is (((srtF_perm fs).trans p.symm).filter _) (nd2.sublist (List.Sublist.map _ List.filter_sublist)) ((srtF_pw fs).sublist List.filter_sublist)).symm
theorem put_drop (fs : List File) (x : Str) (l : List Str) : putFs (dropFs fs x) x l = dropFs fs x ++ [(x, l)] := by
  unfold putFs
  rw [if_neg]
  intro h
  obtain ⟨f, hf, e⟩ := List.any_eq_true.mp h
  have := (List.mem_filter.mp hf).2
  exact absurd (of_decide_eq_true e) (of_decide_eq_true this)
theorem drop_nodup {fs : List File} (nd : (fs.map (·.1)).Nodup) (x : Str) (l : List Str) : ((dropFs fs x ++ [(x, l)]).map (·.1)).Nodup := by
  rw [← put_drop]
  exact put_nodup (nd.sublist (List.Sublist.map _ List.filter_sublist))
theorem drop_len {fs : List File} (nd : (fs.map (·.1)).Nodup) {x : Str} (h : x ∈ fs.map (·.1)) : (dropFs fs x).length + 1 = fs.length := by
  induction fs with
  | nil => cases h
  | cons g r ih =>
    have n2 := List.nodup_cons.mp nd
    unfold dropFs at ih ⊢
    rw [List.filter_cons]
    by_cases e : g.1 = x
    · subst e
      rw [if_neg (by simp)]
      have : r.filter (fun f => decide (f.1 ≠ g.1)) = r := List.filter_eq_self.mpr fun f hf => decide_eq_true fun z => n2.1 (List.mem_map.mpr ⟨f, hf, z⟩)
      rw [this]
      rfl
    · rw [if_pos (decide_eq_true e), List.length_cons, List.length_cons, ih n2.2]
      rcases List.mem_cons.mp h with z | z
      · exact absurd z.symm e
      · exact z
theorem sameB_of {fs gs : List File} (hl : fs.length = gs.length) (nd : (gs.map (·.1)).Nodup) (h : ∀ f ∈ fs, f ∈ gs) : sameB fs gs = true := by
  unfold sameB
  rw [hl, beq_self_eq_true, Bool.true_and]
  exact List.all_eq_true.mpr fun f hf => decide_eq_true (getF_of nd (h f hf))
theorem sameB_perm {fs gs : List File} (p : gs.Perm fs) (nd : (gs.map (·.1)).Nodup) : sameB fs gs = true := sameB_of p.length_eq.symm nd fun f hf => p.mem_iff.mpr hf
theorem sameB_put {fs : List File} (nd : (fs.map (·.1)).Nodup) {x : Str} (h : x ∈ fs.map (·.1)) (l : List Str) : sameB (putFs fs x l) (dropFs fs x ++ [(x, l)]) = true := by
  have e : (putFs fs x l).length = fs.length := by
    unfold putFs
    obtain ⟨f, hf, e⟩ := List.mem_map.mp h
    rw [if_pos (List.any_eq_true.mpr ⟨f, hf, decide_eq_true e⟩), List.length_map]
  refine sameB_of ?_ (drop_nodup nd x l) fun f hf => ?_
  · rw [e, List.length_append, ← drop_len nd h]
    rfl
  · rcases put_mem hf with rfl | ⟨h1, h2⟩
    · exact List.mem_append_right _ (by simp)
    · exact List.mem_append_left _ (List.mem_filter.mpr ⟨h1, decide_eq_true h2⟩)
theorem sameB_new {fs : List File} (nd : (fs.map (·.1)).Nodup) {x : Str} {l0 l : List Str} (h : (x, l0) ∈ fs) : sameB fs (dropFs fs x ++ [(x, l)]) = decide (l0 = l) := by
  have hx : x ∈ fs.map (·.1) := List.mem_map.mpr ⟨_, h, rfl⟩
  by_cases e : l0 = l
  · subst e
    rw [decide_eq_true rfl]
    refine sameB_of ?_ (drop_nodup nd x l0) fun f hf => ?_
    · rw [List.length_append, ← drop_len nd hx]
      rfl
    · by_cases q : f.1 = x
      · rw [file_eq nd hf h q]
        exact List.mem_append_right _ (by simp)
      · exact List.mem_append_left _ (List.mem_filter.mpr ⟨hf, decide_eq_true q⟩)
  · rw [decide_eq_false e]
    refine Bool.eq_false_iff.mpr fun z => e ?_
    have := List.all_eq_true.mp (Bool.and_eq_true_iff.mp z).2 _ h
    have g1 := of_decide_eq_true this
    have g2 := getF_of (drop_nodup nd x l) (f := (x, l)) (List.mem_append_right _ (by simp))
    have g3 : some l0 = some l := g1.symm.trans g2
    exact Option.some.inj g3
theorem sameB_drop {fs : List File} (nd : (fs.map (·.1)).Nodup) {x : Str} (h : x ∈ fs.map (·.1)) : sameB fs (dropFs fs x) = false := by
  unfold sameB
  have := drop_len nd h
  rw [beq_eq_false_iff_ne.mpr (by omega), Bool.false_and]
theorem apart_perm {l m : List Str} (p : m.Perm l) : apart m = apart l := by
  have key : ∀ {l m : List Str}, m.Perm l → apart l = true → apart m = true := fun p h => apart_of ((p.nodup_iff).mpr (cnt_apart h)) fun a ha b hb => apart_in h (p.mem_iff.mp ha) (p.mem_iff.mp hb)
  cases e : apart l with
  | true => exact key p e
  | false =>
    cases e2 : apart m with
    | false => rfl
    | true => rw [key p.symm e2] at e; cases e
theorem all_perm {α : Type} {q : α → Bool} {l m : List α} (p : m.Perm l) : m.all q = l.all q := by
  have key : ∀ {l m : List α}, m.Perm l → l.all q = true → m.all q = true := fun p h => List.all_eq_true.mpr fun a ha => List.all_eq_true.mp h a (p.mem_iff.mp ha)
  cases e : l.all q with
  | true => exact key p e
  | false =>
    cases e2 : m.all q with
    | false => rfl
    | true => rw [key p.symm e2] at e; cases e
theorem good_perm {fs gs : List File} (p : gs.Perm fs) : goodFiles gs = goodFiles fs := by
  rw [goodFiles, goodFiles, p.length_eq, all_perm p, apart_perm (p.map _)]
theorem folder_is {fs gs : List File} (p : gs.Perm fs) (x : Str) : isFolder gs x = lFolder fs x := by
  unfold isFolder lFolder
  have : decide (0 < (pathsIn gs x).length) = fs.any (fun f => inside f.1 x) := by
    cases e : fs.any (fun f => inside f.1 x) with
    | true =>
      obtain ⟨f, hf, h⟩ := List.any_eq_true.mp e
      refine decide_eq_true (List.length_pos_of_mem (a := f.1) (List.mem_filter.mpr ⟨List.mem_map.mpr ⟨f, ?_, rfl⟩, h⟩))
      exact ((srtF_perm gs).trans p).mem_iff.mpr hf
    | false =>
      refine decide_eq_false fun z => ?_
      obtain ⟨y, hy⟩ := List.exists_mem_of_length_pos z
      obtain ⟨h1, h2⟩ := List.mem_filter.mp hy
      obtain ⟨f, hf, rfl⟩ := List.mem_map.mp h1
      have := List.any_eq_false.mp e f (((srtF_perm gs).trans p).mem_iff.mp hf)
      exact this h2
  rw [this, Bool.or_comm]
/-! ### data that may be shown -/
structure Plain (d : PyData) : Prop where
  sh : d.showable = true
  nd : d.hasDict = false
  dp : d.depth ≤ 40
  ln : d.shown.length ≤ sizeLine
theorem plain_of {d : PyData} (h1 : d.canLay0 = true) (h2 : d.depth ≤ 40) (h3 : d.weight ≤ 1000000) (h4 : d.intsShort 13 = true) (h5 : d.showable = true) : Plain d := by
  refine ⟨h5, PyData.hasDict_of_canLay d h1, h2, ?_⟩
  have a := PyData.shown_le 13 (by decide) d (PyData.leavesShort_of_canLay0 13 d h1 h4)
  rw [sizeLine_eq]
  omega
end K02

set_option maxRecDepth 100000
set_option maxHeartbeats 4000000
namespace K02
open PySem PySem.Spec PyProof.Rows L2 TL Ga NdefX
theorem wL : ∀ {l : List Str}, (∀ z ∈ l, okText 50 z) → PyData.weightAll (l.map PyData.str) ≤ 51 * l.length
  | [], _ => Nat.zero_le _
  | z :: r, h => by
    have ih := wL (l := r) fun y hy => h y (List.mem_cons_of_mem _ hy)
    have h1 := (h z List.mem_cons_self).1
    rw [← size_tl] at h1
    show z.cps.size + 1 + PyData.weightAll (r.map PyData.str) ≤ 51 * (r.length + 1)
    omega
theorem iL : ∀ l : List Str, PyData.intsShortAll 13 (l.map PyData.str) = true
  | [] => rfl
  | z :: r => by
    show (true && PyData.intsShortAll 13 (r.map PyData.str)) = true
    rw [iL r]
    rfl
theorem sL : ∀ l : List Str, PyData.showableAll (l.map PyData.str) = true
  | [] => rfl
  | z :: r => by
    show (true && PyData.showableAll (r.map PyData.str)) = true
    rw [sL r]
    rfl
theorem plain_lines {l : List Str} (h : ∀ z ∈ l, okText 50 z) (hl : l.length ≤ 60) : Plain (dL l) := by
  refine plain_of (canAll _ fun z hz => okc_strOk (h z hz)) (by rw [depthL]; decide) ?_ (iL l) (sL l)
  have := wL h
  show PyData.weightAll (l.map PyData.str) ≤ 1000000
  omega
theorem wF {f : File} (h : okText 50 f.1 ∧ f.2.length ≤ 50 ∧ ∀ z ∈ f.2, okText 50 z) : (dF f).weight ≤ 2602 := by
  obtain ⟨h1, h2, h3⟩ := h
  have a := wL h3
  have b := h1.1
  rw [← size_tl] at b
  show f.1.cps.size + 1 + (PyData.weightAll (f.2.map PyData.str) + 1 + 0) ≤ 2602
  omega
theorem wRows : ∀ {gs : List File}, (∀ f ∈ gs, okText 50 f.1 ∧ f.2.length ≤ 50 ∧ ∀ z ∈ f.2, okText 50 z) → PyData.weightAll (gs.map dF) ≤ 2603 * gs.length
  | [], _ => Nat.zero_le _
  | f :: r, h => by
    have ih := wRows (gs := r) fun y hy => h y (List.mem_cons_of_mem _ hy)
    have h1 := wF (h f List.mem_cons_self)
    show (dF f).weight + 1 + PyData.weightAll (r.map dF) ≤ 2603 * (r.length + 1)
    omega
theorem iRows : ∀ gs : List File, PyData.intsShortAll 13 (gs.map dF) = true
  | [] => rfl
  | f :: r => by
    show ((true && (PyData.intsShortAll 13 (f.2.map PyData.str) && true)) && PyData.intsShortAll 13 (r.map dF)) = true
    rw [iRows r, iL]
    rfl
theorem shRows : ∀ gs : List File, PyData.showableAll (gs.map dF) = true
  | [] => rfl
  | f :: r => by
    show ((true && (PyData.showableAll (f.2.map PyData.str) && true)) && PyData.showableAll (r.map dF)) = true
    rw [shRows r, sL]
    rfl
def dR (gs : List File) : PyData := .tuple (gs.map dF)
theorem plain_rows {gs : List File} (h : LawR gs) : Plain (dR gs) := by
  refine plain_of (canRows _ h) ?_ ?_ (iRows gs) (shRows gs)
  · have := depthRows gs
    show PyData.depthAll (gs.map dF) + 1 ≤ 40
    omega
  · have := wRows h.each
    have := h.few
    show PyData.weightAll (gs.map dF) ≤ 1000000
    omega
theorem plain_bool (b : Bool) : Plain (.bool b) := by cases b <;> exact ⟨rfl, rfl, by decide, by decide +kernel⟩
theorem plain_none : Plain .none := ⟨rfl, rfl, by decide, by decide +kernel⟩
theorem plain_ref : Plain (.tuple [.str "refused", .str "files"]) := ⟨by decide +kernel, by decide +kernel, by decide +kernel, by decide +kernel⟩
theorem LawR.perm {fs gs : List File} (h : LawR fs) (p : gs.Perm fs) : LawR gs := ⟨fun f hf => h.each f (p.mem_iff.mp hf), by rw [p.length_eq]; exact h.few⟩
theorem LawF.perm {fs gs : List File} (h : LawF fs) (p : gs.Perm fs) : LawF gs := ⟨fun f hf => h.each f (p.mem_iff.mp hf), fun f hf g hg => h.clean f (p.mem_iff.mp hf) g (p.mem_iff.mp hg), by rw [p.length_eq]; exact h.few⟩
/-! ### files == {} -/
theorem valueAt_nil {x : Key} : valueAt ([] : List (Key × Value)) x = none := rfl
def rNeE : R2 := fun x y H Q => ∃ (a b : Addr) (ks : List (Key × V)), x = .ref a ∧ y = .ref b ∧ H a = some (.dK ks) ∧ H b = some (.dK []) ∧ Q (.bl (!ks.isEmpty)) H
theorem op_neE {X : Cx} (hu : X.A.units + 64 < cLine) : OpR X (compareOp .NotEq) rNeE := by
  intro pins s σ H x y v u Q I rx ry h
  obtain ⟨a, b, ks, rfl, rfl, ea, eb, q⟩ := h
  obtain rfl : v = Value.ref a := rx
  obtain rfl : u = Value.ref b := ry
  obtain ⟨_, ya, va, ra, da⟩ := dk_of I.hok ea
  obtain ⟨_, yb, vb, rb, db⟩ := dk_of I.hok eb
  have hb : vb = [] := by cases rb; rfl
  subst hb
  refine PySem.W.keq_ne (knd := mixKind X.prog X.w) (r := true) ya yb da db (by omega) (fun e => ?_) ?_
  · have : va = [] := List.eq_nil_of_length_eq_zero e
    subst this
    exact .nil
  · refine ⟨.bl (!ks.isEmpty), H, I, ?_, q⟩
    have hl := ra.length
    cases ks with
    | nil =>
      have : va = [] := List.eq_nil_of_length_eq_zero hl.symm
      subst this
      rfl
    | cons k r =>
      cases va with
      | nil => cases hl
      | cons _ _ => rfl
end K02

set_option maxRecDepth 100000
set_option maxHeartbeats 8000000
namespace K02
open PySem PySem.Spec PyProof.Rows L2 TL Ga NdefX
abbrev lawN : List Str := ["script", "box", "turn", "files", "told", "good", "mixed", "due", "tree", "place", "path", "other", "again", "rest", "row"]
theorem scLaw : FnScope lawN ["script"] (defScope sLaw) := ⟨rfl, rfl, rfl, by decide +kernel, rfl, by decide +kernel, by decide +kernel⟩
theorem alike_end {K : PySem.W.Frag} {H : Hp} {x y : V} {d : PyData} {Q : VK} {E : XK} (dx : Dp K H x d) (dy : Dp K H y d) (p : Plain d) (q : Q (.bl true) H) : spAlike K [x, y] H Q E := ⟨x, y, d, rfl, dx, dy, p.sh, p.nd, p.dp, p.ln, q⟩
theorem TreeAt.kp {K : PySem.W.Frag} {C : Addr} {H H' : Hp} {p B D : Addr} {fs : List File} (t : TreeAt K C H p fs) (k : Kp B H H') (bx : Box H B D) : TreeAt K C H' p fs := by
  obtain ⟨dx, d, hp, t⟩ := t
  refine ⟨dx, d, k _ _ (fun z => ?_) hp, t.kp k bx⟩
  obtain ⟨ds, i, h1, _⟩ := bx.ex
  rw [z, h1] at hp
  cases hp
/-- tuple + tuple -/
def rCatS (K : PySem.W.Frag) : R2 := fun x y H Q => ∃ a b xs ys, x = .ref a ∧ y = .ref b ∧ SqT K H a xs ∧ SqT K H b ys ∧ xs.length + ys.length ≤ sizeLine ∧ ∀ p H', Same H H' → SqT K H' p (xs ++ ys) → Q (.ref p) H'
theorem op_catS {X : Cx} {K : PySem.W.Frag} (hK : X.K = K) : OpR X (binaryOp .Add) (rCatS K) := by
  subst hK
  intro pins s σ H x y v u Q I rx ry h
  obtain ⟨a, b, xs, ys, rfl, rfl, hx, hy, hl, q⟩ := h
  refine op_catA pins s σ H _ _ v u Q I rx ry ⟨a, b, xs, ys, rfl, rfl, hx, hy, hl, fun e => ?_, fun _ e => ?_, fun _ _ p np => q p _ (same_upd np) (sqT upd_same)⟩
  · subst e
    exact q b H (.refl _) hy
  · subst e
    exact q a H (.refl _) (by rw [List.append_nil]; exact hx)
theorem joinG {P G : L2.St → Hp → Prop} {R : Prop} (main : (∀ σ H, G σ H → P σ H) → R) (key : ∀ σ H, G σ H → P σ H) : R := main key
theorem joinE {P : L2.St → Hp → Prop} {H : Hp} {σ τ : L2.St} (e : σ = τ) (h : P τ H) : P σ H := by
  subst e
  exact h
theorem shapedL {l : List Str} (h : ∀ z ∈ l, PyData.strOk z = true) : SeqAt.shaped (dL l) = true := by
  unfold SeqAt.shaped
  rw [show (dL l).canLay0 = true from canAll _ h, depthL]
  rfl
theorem eqv_dL (l m : List Str) : PyData.eqv (dL l) (dL m) = decide (l = m) := eqv_strs l m
theorem LawR.okLs {fs : List File} (h : LawR fs) : okLs fs := fun f hf z hz => okc_strOk ((h.each f hf).2.2 z hz)
theorem put_ok {fs : List File} (h : LawR fs) {x : Str} : okLs (putFs fs x ["new"]) := fun f hf z hz => by
  rcases put_mem hf with rfl | ⟨h1, _⟩
  · rw [List.mem_singleton.mp hz]
    decide +kernel
  · exact h.okLs f h1 z hz
theorem LawR.filter {fs : List File} (h : LawR fs) (p : File → Bool) : LawR (fs.filter p) := ⟨fun f hf => h.each f (List.mem_filter.mp hf).1, Nat.le_trans (List.length_filter_le _ _) h.few⟩
theorem paired_rev {α β : Type} {F : α → β → Prop} : ∀ {l : List α} {m : List β}, Paired F l m → Paired F l.reverse m.reverse
  | _, _, .nil => .nil
  | _, _, .cons h t => by
    rw [List.reverse_cons, List.reverse_cons]
    exact (paired_rev t).snoc h
/-- what is due for these files -/
def DueAt (K : PySem.W.Frag) (H : Hp) (t : Addr) (gs : List File) : Prop := (goodFiles gs = true ∧ ∃ ys, SqT K H t ys ∧ RowsAt K H ys (srtF gs)) ∨ (goodFiles gs = false ∧ SqT K H t [.str "refused", .str "files"])
theorem DueAt.st {K : PySem.W.Frag} {H H' : Hp} {t : Addr} {gs : List File} (h : DueAt K H t gs) (e : SameT H H') : DueAt K H' t gs := by
  rcases h with ⟨g, ys, h1, h2⟩ | ⟨g, h⟩
  · exact .inl ⟨g, ys, e.sq h1, h2.st e⟩
  · exact .inr ⟨g, e.sq h⟩
theorem joinS {H : Hp} {P : Hp → Prop} {R : Prop} (main : (∀ H1, Same H H1 → P H1) → R) (key : ∀ H1, Same H H1 → P H1) : R := main key
theorem joinD {H : Hp} {K : PySem.W.Frag} {gs : List File} {P : Addr → Hp → Prop} {R : Prop} (main : (∀ t H1, Same H H1 → DueAt K H1 t gs → P t H1) → R) (key : ∀ t H1, Same H H1 → DueAt K H1 t gs → P t H1) : R := main key
theorem rows_dp {K : PySem.W.Frag} {H : Hp} {t : Addr} {ys : List V} {gs : List File} (h1 : SqT K H t ys) (h2 : RowsAt K H ys gs) : Dp K H (.ref t) (dR gs) := .tup h1 h2.dp
theorem small_of {fs : List File} (h : LawR fs) : Small fs := ⟨by have := h.few; omega, fun f hf => by
  obtain ⟨a, b, c⟩ := h.each f hf
  exact ⟨Nat.le_trans a.1 (by decide), by omega, fun z hz => Nat.le_trans (c z hz).1 (by decide)⟩⟩
theorem same_made {H H' : Hp} {x dx C : Addr} (nx : H x = none) (ndx : H dx = none) (k : Kp x (upd (upd H dx (.own x)) x (.ins C dx [])) H') : Same H H' := fun b o e => by
  refine k b o (ne_of_none e nx) ?_
  rw [upd_ne (ne_of_none e nx), upd_ne (ne_of_none e ndx)]
  exact e
theorem same_made0 {H : Hp} {x dx C : Addr} (nx : H x = none) (ndx : H dx = none) : Same H (upd (upd H dx (.own x)) x (.ins C dx [])) := fun b o e => by
  rw [upd_ne (ne_of_none e nx), upd_ne (ne_of_none e ndx)]
  exact e
/-- a method of the class at C -/
structure Mtd (P : Program) (w : World) (K : PySem.W.Frag) (mg : Str → Option Value) (base : Heap) (C : Addr) (k : Nat) (x : Str) (ps : List Str) (sp : Sp) : Prop where
  ex : ∃ (f : Addr) (fd : FuncData), FnOk P w K mg base CX0 k f fd ps sp ∧ Meth K C x f ∧ Binds K fd ps []
/-- Tree, made of files or of nothing -/
structure TreeM (P : Program) (w : World) (K : PySem.W.Frag) (mg : Str → Option Value) (base : Heap) (C Co : Addr) : Prop where
  cls : TreeC K C
  gl : mg "Tree" = some (.ref C)
  ex : ∃ (f e0 : Addr) (fd : FuncData) (ds : List Value), Mk K C f ∧ FnOk P w K mg base (L2.CX P w) 5 f fd ["self", "files"] (spInit K C Co) ∧ Binds K fd ["self", "files"] [] ∧
    Binds K fd ["self", "files"] ds ∧ Vals [V.ref e0] ds ∧ ∀ H : Hp, SqT K H e0 []
section
variable {P : Program} {w : World} {K : PySem.W.Frag} {mg : Str → Option Value} {base : Heap}
theorem ok_law {f C Co : Addr} {fd : FuncData} (F : Fun K "law" "law" sLaw f fd) (T : Tx mg) (TM : TreeM P w K mg base C Co)
    (C1 : Cal P w K mg base 2 "_law_digits" ["script", "first", "last"] (spDigits K)) (C2 : Cal P w K mg base 1 "_law_draw" ["box", "many"] spDraw)
    (C3 : Cal P w K mg base 2 "_law_path" ["box"] spPth) (C4 : Cal P w K mg base 4 "_law_files" ["box", "most"] (spLFiles K)) (C5 : Cal P w K mg base 1 "_law_rows" ["files"] (spRows K))
    (C6 : Cal P w K mg base 2 "_law_bad" ["box", "rows"] (spBad K)) (C7 : CalG P w K mg base 1 "_law_alike" ["one", "two"] (spAlike K)) (C8 : Cal P w K mg base 1 "_law_good" ["rows"] (spGood K))
    (C9 : Cal P w K mg base 7 "_law_told" ["rows"] (spTold K)) (C10 : Cal P w K mg base 1 "_law_inside" ["path", "place"] spInside) (C11 : Cal P w K mg base 2 "_law_is_folder" ["files", "place"] (spLIsFolder K))
    (M1 : Mtd P w K mg base C 1 "files" ["self"] (spTFiles K C)) (M2 : Mtd P w K mg base C 1 "lines" ["self", "path"] (spTLines K C)) (M3 : Mtd P w K mg base C 2 "paths" ["self", "place"] (spTPaths K C))
    (M4 : Mtd P w K mg base C 3 "is_folder" ["self", "place"] (spTIsFolder K C)) (M5 : Mtd P w K mg base C 8 "with_file" ["self", "path", "lines"] (spTWith K C)) (M6 : Mtd P w K mg base C 8 "without" ["self", "path"] (spTWithout K C))
    (M7 : Mtd P w K mg base C 1 "is_same" ["self", "other"] (spTIsSame K C)) : FnG P w K mg base CX0 9 f fd ["script"] (spLaw K) := by
  obtain ⟨f1, d1, G1, g1, k1, b1⟩ := C1.ex
  obtain ⟨f2, d2, G2, g2, k2, b2⟩ := C2.ex
  obtain ⟨f3, d3, G3, g3, k3, b3⟩ := C3.ex
  obtain ⟨f4, d4, G4, g4, k4, b4⟩ := C4.ex
  obtain ⟨f5, d5, G5, g5, k5, b5⟩ := C5.ex
  obtain ⟨f6, d6, G6, g6, k6, b6⟩ := C6.ex
  obtain ⟨f7, d7, G7, g7, k7, b7⟩ := C7.ex
  obtain ⟨f8, d8, G8, g8, k8, b8⟩ := C8.ex
  obtain ⟨f9, d9, G9, g9, k9, b9⟩ := C9.ex
  obtain ⟨f10, d10, G10, g10, k10, b10⟩ := C10.ex
  obtain ⟨f11, d11, G11, g11, k11, b11⟩ := C11.ex
  obtain ⟨n1, e1, J1, m1, c1⟩ := M1.ex
  obtain ⟨n2, e2, J2, m2, c2⟩ := M2.ex
  obtain ⟨n3, e3, J3, m3, c3⟩ := M3.ex
  obtain ⟨n4, e4, J4, m4, c4⟩ := M4.ex
  obtain ⟨n5, e5, J5, m5, c5⟩ := M5.ex
  obtain ⟨n6, e6, J6, m6, c6⟩ := M6.ex
  obtain ⟨n7, e7, J7, m7, c7⟩ := M7.ex
  obtain ⟨fi, e0, fdi, ds0, MK, GI, bI, b0, v0, he0⟩ := TM.ex
  have tc := TM.cls
  have cl := tc.cl
  have gC := TM.gl
  obtain ⟨t20, m20⟩ := T.c_FILES_MOST
  refine okG F scLaw (fun vs H Q E h => ?_) (fun cdv A hg outer s H vs Q E hr h => ?_)
  · obtain ⟨a, ns, rfl, _⟩ := h
    rfl
  · obtain ⟨a, ns, rfl, hS, hlen, q⟩ := h
    have hr1 : Room 1 _ := hr.mono (by decide)
    have hr2 : Room 2 _ := hr.mono (by decide)
    have hr3 : Room 3 _ := hr.mono (by decide)
    have hr4 : Room 4 _ := hr.mono (by decide)
    have hr6 : Room 6 _ := hr.mono (by decide)
    have hr7 : Room 7 _ := hr.mono (by decide)
    refine ⟨_, pss_cons (ps_set (i := 1) scLaw.nd rfl (.inl rfl) (pe_lst (pa_cons (pe_call G1 hr2 (by rfl) g1 k1 b1 .nil pass0 (pa_cons (pv 0) (pa_cons pe_int (pa_cons pe_int pa_nil)))) (pa_cons pe_int pa_nil))))
      (pss_cons (ps_if (PW.pt (pw_or (pt_cmpR op_ne (pe_glob (v := .int 20) rfl m20 ⟨_, rfl⟩) pe_int (nomark _)) (pw_or1 (pt_cmpR (op_neD hr.units) (pe_meth0 (pe_make0 MK GI hr6 (by rfl) gC b0 v0 passF) cl m1 J1 hr1 c1 .nil pass0) (pe_tup pa_nil) (nomark _))))) (pss_one (ps_ret pe_bl)) pss_nil)
      (pss_cons (ps_for PassesOwn.never rfl (pi_range1 (by rfl) T.range (pa_cons pe_int pa_nil)) (pg_name (i := 2) scLaw.nd rfl (Or.inl rfl))
        (pss_cons (ps_set (i := 3) scLaw.nd rfl (.inl rfl) (pe_call G4 hr4 (by rfl) g4 k4 b4 .nil pass0 (pa_cons (pv 1) (pa_cons pe_int pa_nil))))
        (pss_cons (ps_set (i := 4) scLaw.nd rfl (.inl rfl) (pe_call G6 hr2 (by rfl) g6 k6 b6 .nil pass0 (pa_cons (pv 1) (pa_cons (pe_callTy call_list_of (by rfl) T.list (by decide +kernel) (pa_cons (pe_call G5 hr1 (by rfl) g5 k5 b5 .nil pass0 (pa_cons (pv 3) pa_nil)) pa_nil)) pa_nil))))
        (pss_cons (ps_set (i := 5) scLaw.nd rfl (.inl rfl) (pe_ix ix_list (pv 4) pe_int (fun _ _ => rfl)))
        (pss_cons (ps_if (pt_cmp (pc_isN (pv 5))) (pss_one (ps_set (i := 5) scLaw.nd rfl (.inl rfl) (pe_call G8 hr1 (by rfl) g8 k8 b8 .nil pass0 (pa_cons (pe_ix ix_list (pv 4) pe_int (fun _ _ => rfl)) pa_nil)))) pss_nil)
        (pss_cons (ps_set (i := 6) scLaw.nd rfl (.inl rfl) (pe_revL (pe_ix ix_list (pv 4) pe_int (fun _ _ => rfl))))
        (pss_cons (ps_set (i := 7) scLaw.nd rfl (.inl rfl) (pe_tup (pa_consts rfl)))
        (pss_cons (ps_if (pt_val (pv 5)) (pss_one (ps_set (i := 7) scLaw.nd rfl (.inl rfl) (pe_callTy (callTup (K := K) rfl) (by rfl) T.tuple (by decide +kernel) (pa_cons (pe_callB (call_sortF (K := K) rfl) (by rfl) T.sorted (by decide +kernel) (pa_cons (pv 6) pa_nil)) pa_nil)))) pss_nil)
        (pss_cons (ps_if (pt_not (pt_val (pe_callG hg G7 hr1 (by rfl) g7 k7 b7 .nil pass0 (pa_cons (pe_call G9 hr7 (by rfl) g9 k9 b9 .nil pass0 (pa_cons
            (pe_ix ix_list (pe_lst (pa_cons (pv 6) (pa_cons (pe_callTy (callTup (K := K) rfl) (by rfl) T.tuple (by decide +kernel) (pa_cons (pv 6) pa_nil)) pa_nil))) (pe_call G2 hr1 (by rfl) g2 k2 b2 .nil pass0 (pa_cons (pv 1) (pa_cons pe_int pa_nil))) (fun _ _ => rfl)) pa_nil))
            (pa_cons (pv 7) pa_nil))))) (pss_one (ps_ret pe_bl)) pss_nil)
        (pss_cons (ps_set (i := 8) scLaw.nd rfl (.inl rfl) (pe_make MK GI hr6 (by rfl) gC bI .nil passF (pa_cons (pe_revL (pe_callTy call_list_of (by rfl) T.list (by decide +kernel) (pa_cons (pe_call G5 hr1 (by rfl) g5 k5 b5 .nil pass0 (pa_cons (pv 3) pa_nil)) pa_nil))) pa_nil)))
        (pss_cons (ps_set (i := 9) scLaw.nd rfl (.inr rfl) (pe_ix ix_list (pe_lst (pa_consts rfl)) (pe_call G2 hr1 (by rfl) g2 k2 b2 .nil pass0 (pa_cons (pv 1) (pa_cons pe_int pa_nil))) (fun _ _ => rfl)))
        (pss_cons (ps_if (pt_not (pt_val (pe_callG hg G7 hr1 (by rfl) g7 k7 b7 .nil pass0 (pa_cons (pe_meth (pv 8) cl m3 J3 hr2 c3 .nil pass0 (pa_cons (pv 9) pa_nil))
            (pa_cons (pe_callTy (callTup (K := K) rfl) (by rfl) T.tuple (by decide +kernel) (pa_cons
              (pe_lc (own := [("path", 10)]) rfl scLaw.nd (piL (K := K) rfl (pe_callB (call_sortedD rfl) (by rfl) T.sorted (by decide +kernel) (pa_cons (pv 3) pa_nil))) (blkOk_by (N := lawN) (sc := defScope sLaw) (by decide +kernel))
                (fun _ _ _ _ _ => pg_name (i := 10) scLaw.nd rfl (Or.inl rfl)) (fun _ _ _ _ _ => pts_one (pt_val (pe_call G10 hr1 (by rfl) g10 k10 b10 .nil pass0 (pa_cons (pv 10) (pa_cons (pv 9) pa_nil))))) (fun _ _ _ _ _ => pv 10)) pa_nil)) pa_nil))))) (pss_one (ps_ret pe_bl)) pss_nil)
        (pss_cons (ps_if (pt_not (pt_val (pe_callG hg G7 hr1 (by rfl) g7 k7 b7 .nil pass0 (pa_cons (pe_meth (pv 8) cl m4 J4 hr3 c4 .nil pass0 (pa_cons (pv 9) pa_nil)) (pa_cons (pe_call G11 hr2 (by rfl) g11 k11 b11 .nil pass0 (pa_cons (pv 3) (pa_cons (pv 9) pa_nil))) pa_nil))))) (pss_one (ps_ret pe_bl)) pss_nil)
        (pss_cons (ps_set (i := 10) scLaw.nd rfl (.inr rfl) (pe_call G3 hr2 (by rfl) g3 k3 b3 .nil pass0 (pa_cons (pv 1) pa_nil)))
        (pss_cons (ps_if (pt_not (pt_val (pe_callG hg G7 hr1 (by rfl) g7 k7 b7 .nil pass0 (pa_cons (pe_meth (pv 8) cl m2 J2 hr1 c2 .nil pass0 (pa_cons (pv 10) pa_nil)) (pa_cons (pe_dget1 (hu_of hr) (pv 3) (pv 10) ⟨rfl, rfl, rfl, rfl⟩) pa_nil))))) (pss_one (ps_ret pe_bl)) pss_nil)
        (pss_cons (ps_if (pt_cmpR (op_neE hr.units) (pv 3) pe_dnewK (nomark _))
          (pss_cons (ps_set (i := 10) scLaw.nd rfl (.inr rfl) (pe_ix ix_list (pe_callB (call_sortedD rfl) (by rfl) T.sorted (by decide +kernel) (pa_cons (pv 3) pa_nil)) (pe_call G2 hr1 (by rfl) g2 k2 b2 .nil pass0 (pa_cons (pv 1) (pa_cons (pe_callB call_lenD (by rfl) T.len PySem.boot_len (pa_cons (pv 3) pa_nil)) pa_nil))) (fun _ _ => rfl)))
          (pss_cons (ps_set (i := 11) scLaw.nd rfl (.inl rfl) (pe_meth (pv 8) cl m6 J6 hr c6 .nil pass0 (pa_cons (pv 10) pa_nil)))
          (pss_cons (ps_set (i := 12) scLaw.nd rfl (.inl rfl) (pe_meth (pv 11) cl m5 J5 hr c5 .nil pass0 (pa_cons (pv 10) (pa_cons (pe_tup (pa_cons pe_str pa_nil)) pa_nil))))
          (pss_cons (ps_set (i := 13) scLaw.nd rfl (.inl rfl) (pe_callTy (callTup (K := K) rfl) (by rfl) T.tuple (by decide +kernel) (pa_cons
            (pe_lc (own := [("row", 14)]) rfl scLaw.nd (piT (K := K) rfl (pe_call G5 hr1 (by rfl) g5 k5 b5 .nil pass0 (pa_cons (pv 3) pa_nil))) (blkOk_by (N := lawN) (sc := defScope sLaw) (by decide +kernel))
              (fun _ _ _ _ _ => pg_name (i := 14) scLaw.nd rfl (Or.inl rfl)) (fun _ _ _ _ _ => pts_one (pt_cmpR op_ne (pe_ix (ixT (K := K) rfl) (pv 14) pe_int (fun _ _ => rfl)) (pv 10) (nomark _))) (fun _ _ _ _ _ => pv 14)) pa_nil)))
          (pss_cons (ps_if (PW.pt (pw_or (pt_not (pt_val (pe_callG hg G7 hr1 (by rfl) g7 k7 b7 .nil pass0 (pa_cons (pe_meth0 (pv 11) cl m1 J1 hr1 c1 .nil pass0) (pa_cons (pv 13) pa_nil)))))
            (pw_or1 (pt_not (pt_val (pe_callG hg G7 hr1 (by rfl) g7 k7 b7 .nil pass0 (pa_cons (pe_meth0 (pv 12) cl m1 J1 hr1 c1 .nil pass0) (pa_cons (pe_callTy (callTup (K := K) rfl) (by rfl) T.tuple (by decide +kernel) (pa_cons (pe_callB (call_sortF (K := K) rfl) (by rfl) T.sorted (by decide +kernel) (pa_cons
              (pe_op (op_catS (K := K) rfl) (pv 13) (pe_tup (pa_cons (pe_tup (pa_cons (pv 10) (pa_cons (pe_tup (pa_cons pe_str pa_nil)) pa_nil))) pa_nil))) pa_nil)) pa_nil)) pa_nil)))))))) (pss_one (ps_ret pe_bl)) pss_nil)
          (pss_cons (ps_if (pt_not (pt_val (pe_callG hg G7 hr1 (by rfl) g7 k7 b7 .nil pass0 (pa_cons (pe_meth (pe_meth (pv 8) cl m5 J5 hr c5 .nil pass0 (pa_cons (pv 10) (pa_cons (pe_tup (pa_cons pe_str pa_nil)) pa_nil))) cl m7 J7 hr1 c7 .nil pass0 (pa_cons (pv 12) pa_nil)) (pa_cons pe_bl pa_nil))))) (pss_one (ps_ret pe_bl)) pss_nil)
          (pss_one (ps_if (PW.pt (pw_or (pt_not (pt_val (pe_callG hg G7 hr1 (by rfl) g7 k7 b7 .nil pass0 (pa_cons (pe_meth (pv 8) cl m7 J7 hr1 c7 .nil pass0 (pa_cons (pv 12) pa_nil)) (pa_cons (pe_cmpR (op_eqD hr.units) (pe_dget (hu_of hr) (pv 3) (pv 10) (fun _ _ => rfl)) (pe_tup (pa_cons pe_str pa_nil)) (nomark _)) pa_nil)))))
            (pw_or1 (pt_not (pt_val (pe_callG hg G7 hr1 (by rfl) g7 k7 b7 .nil pass0 (pa_cons (pe_meth (pv 8) cl m7 J7 hr1 c7 .nil pass0 (pa_cons (pv 11) pa_nil)) (pa_cons pe_bl pa_nil)))))))) (pss_one (ps_ret pe_bl)) pss_nil)))))))) pss_nil)
        (pss_one (ps_if (PW.pt (pw_or (pt_not (pt_val (pe_callG hg G7 hr1 (by rfl) g7 k7 b7 .nil pass0 (pa_cons (pe_meth0 (pv 8) cl m1 J1 hr1 c1 .nil pass0) (pa_cons (pe_call G5 hr1 (by rfl) g5 k5 b5 .nil pass0 (pa_cons (pv 3) pa_nil)) pa_nil)))))
          (pw_or1 (pt_not (pt_val (pe_callG hg G7 hr1 (by rfl) g7 k7 b7 .nil pass0 (pa_cons (pe_meth (pv 8) cl m7 J7 hr1 c7 .nil pass0 (pa_cons (pe_make MK GI hr6 (by rfl) gC bI .nil passF (pa_cons (pe_call G5 hr1 (by rfl) g5 k5 b5 .nil pass0 (pa_cons (pv 3) pa_nil)) pa_nil)) pa_nil)) (pa_cons pe_bl pa_nil)))))))) (pss_one (ps_ret pe_bl)) pss_nil))))))))))))))))))
      (pss_one (ps_ret pe_bl)))), ?_⟩
    refine ⟨_, rfl, a, ns, 0, 63, rfl, hS, by decide, by decide, by decide, by decide, fun D H1 ds s1 nD hD => ?_⟩
    refine ⟨by show 2 ≤ _; decide, fun B nB => ?_⟩
    have neDB : D ≠ B := ne_of_none hD nB
    have bx0 : Box (upd H1 B (.lst [.ref D, .int 0])) B D := ⟨ds, 0, upd_same, by decide, neDB, by rw [upd_ne neDB]; exact hD⟩
    generalize upd H1 B (.lst [.ref D, .int 0]) = H2 at bx0 ⊢
    refine ⟨rfl, _, rfl, ite2 (fun e => absurd e (by simp)) (fun _ => ?_)⟩
    refine fun x dx nx ndx nex => ⟨x, dx, .ref e0, [], rfl, upd_same, ⟨e0, [], rfl, .inr (he0 _), .nil⟩, ⟨by decide, fun f h => nomatch h⟩, fun _ H3 kp3 tr => ⟨rfl, ?_⟩, fun z => absurd z (by decide +kernel)⟩
    have s3 : Same H2 H3 := same_made nx ndx kp3
    obtain ⟨dx3, d3, hx3, _⟩ := id tr
    refine ⟨x, dx3, _, rfl, hx3, rfl, x, [], rfl, tr, fun H4 a4 ws4 s4 na4 ea4 hR4 => ?_⟩
    cases hR4
    refine ⟨Nat.zero_le _, fun t5 nt5 => ?_⟩
    have s5 : Same H4 (upd H4 t5 (.tup [])) := same_upd nt5
    refine ⟨.tuple [], .tuple [], .tup (sqT (s5 _ _ ea4)) .nil, .tup (sqT upd_same) .nil, by decide +kernel, by decide +kernel, _, rfl, ?_⟩
    refine ite2 (fun e => absurd e (by decide +kernel)) (fun _ => ?_)
    have bx1 := bx0.same ((s3.trans s4).trans s5)
    generalize upd H4 t5 (.tup []) = H5 at bx1 ⊢
    refine ⟨4, rfl, by decide, by decide, for_range (lo := 0) (n := 4) (fun i σ H' => ∃ o2 o3 o4 o5 o6 o7 o8 o9 o10 o11 o12 o13 o14 : Option V, σ = [some (.ref a), some (.ref B), o2, o3, o4, o5, o6, o7, o8, o9, o10, o11, o12, o13, o14] ∧ Box H' B D)
      ⟨none, none, none, none, none, none, none, none, none, none, none, none, none, rfl, bx1⟩ ?_ ?_⟩
    · rintro i σ H6 hi ⟨o2, o3, o4, o5, o6, o7, o8, o9, o10, o11, o12, o13, o14, rfl, bx⟩
      refine ⟨_, rfl, B, D, rfl, bx, fun d fs H7 tb7 lf kp7 nd7 bx7 => ?_⟩
      have ndF : (fs.map (·.1)).Nodup := by obtain ⟨_, _, _, h, _⟩ := tb7; exact h
      have lfS : LawF (srtF fs) := lf.perm (srtF_perm fs)
      refine ⟨_, rfl, _, rfl, d, fs, rfl, tb7, fun H8 t8 ws8 s8 na8 ea8 hR8 => ?_⟩
      refine ⟨t8, ws8, rfl, .inr (sqT ea8), fun l9 nl9 => ?_⟩
      have s9 : Same H8 (upd H8 l9 (.lst ws8)) := same_upd nl9
      have bx9 := (bx7.same s8).same s9
      have tb9 := (tb7.same s8).same s9
      refine ⟨B, D, l9, ws8, srtF fs, rfl, bx9, upd_same, (bx7.same s8).ne nl9, hR8.st s9.t, lfS, srtF_nodup ndF, fun res r' g ws' gs H10 hres hr' hR' lr fl kp10 bx10 => ?_⟩
      have tb10 := tb9.kp kp10 bx9
      refine ⟨_, rfl, res, _, _, g, rfl, rfl, sqL hres, atI_nat (j := 1) rfl, ?_⟩
      refine ⟨_, rfl, _, rfl, ?_⟩
      refine' joinS (H := H10) (fun key => ?main) ?key
      case main =>
        refine ite2 (fun e => ?_) (fun e => ?_)
        · obtain rfl := of_decide_eq_true e
          have hg : lawGood gs = goodFiles gs := by
            rcases fl with ⟨b, h, _⟩ | ⟨_, h⟩
            · cases h
            · exact h
          refine ⟨_, rfl, res, _, _, .ref r', rfl, rfl, sqL hres, atI_nat (j := 0) rfl, r', ws', gs, rfl, sqL hr', hR', lr, fun H11 s11 => ?_⟩
          rw [hg]
          exact key H11 s11
        · have hg : g = .bl (goodFiles gs) := by
            rcases fl with ⟨b, h, h2⟩ | ⟨h, _⟩
            · rw [h, h2]
            · exact absurd (decide_eq_true h) e
          subst hg
          exact key H10 (.refl _)
      case key =>
        intro H11 s11
        have hres11 := s11 _ _ hres
        have hr11 := s11 _ _ hr'
        have tb11 := tb10.same s11
        have bx11 := bx10.same s11
        have hR11 := hR'.st s11.t
        refine ⟨_, rfl, res, _, _, .ref r', rfl, rfl, sqL hres11, atI_nat (j := 0) rfl, r', ws', rfl, sqL hr11, fun pm npm => ?_⟩
        have s12 : Same H11 (upd H11 pm (.lst ws'.reverse)) := same_upd npm
        refine ⟨by show 2 ≤ _; decide, fun td ntd => ?_⟩
        have s13 : Same (upd H11 pm (.lst ws'.reverse)) (upd (upd H11 pm (.lst ws'.reverse)) td (.tup [.str "refused", .str "files"])) := same_upd ntd
        have hm13 : (upd (upd H11 pm (.lst ws'.reverse)) td (.tup [.str "refused", .str "files"])) pm = some (.lst ws'.reverse) := s13 _ _ upd_same
        have s1113 := s12.trans s13
        have hM13 : RowsAt K (upd (upd H11 pm (.lst ws'.reverse)) td (.tup [.str "refused", .str "files"])) ws'.reverse gs.reverse := RowsAt.st (paired_rev hR11) s1113.t
        have ht13 : SqT K (upd (upd H11 pm (.lst ws'.reverse)) td (.tup [.str "refused", .str "files"])) td [.str "refused", .str "files"] := sqT upd_same
        have tb13 := tb11.same s1113
        have bx13 := bx11.same s1113
        have pr : gs.reverse.Perm gs := List.reverse_perm gs
        have lrR : LawR gs.reverse := lr.perm pr
        generalize (upd (upd H11 pm (.lst ws'.reverse)) td (.tup [.str "refused", .str "files"])) = H13 at hm13 hM13 ht13 tb13 bx13 ⊢
        refine ⟨_, rfl, _, rfl, ?_⟩
        refine' joinD (H := H13) (K := K) (gs := gs.reverse) (fun key => ?main) ?key
        case main =>
          refine ite2 (fun e => ?_) (fun e => ?_)
          · have eR : goodFiles gs.reverse = true := by rw [good_perm pr]; exact e
            refine ⟨_, rfl, pm, ws'.reverse, gs.reverse, rfl, .inl (sqL hm13), hM13, good_nodup eR, by have := lrR.few; omega, fun ps ys nps hRs => ?_⟩
            have s14 : Same H13 (upd H13 ps (.lst ys)) := same_upd nps
            refine ⟨ps, ys, rfl, .inl ⟨sqL upd_same, fun tt ntt => ?_⟩⟩
            have s15 : Same (upd H13 ps (.lst ys)) (upd (upd H13 ps (.lst ys)) tt (.tup ys)) := same_upd ntt
            exact key tt _ (s14.trans s15) (.inl ⟨eR, ys, sqT upd_same, hRs.st s15.t⟩)
          · have eR : goodFiles gs.reverse = false := by rw [good_perm pr]; exact Bool.eq_false_iff.mpr e
            exact key td H13 (.refl _) (.inr ⟨eR, ht13⟩)
        case key =>
          intro due H16 s16 du16
          have tb16 := tb13.same s16
          have bx16 := bx13.same s16
          have hm16 := s16 _ _ hm13
          have hM16 := hM13.st s16.t
          refine ⟨_, rfl, _, rfl, pm, _, rfl, .inl ⟨sqL hm16, fun tm ntm => ⟨by show 2 ≤ _; decide, fun l nl => ?_⟩⟩⟩
          have s17 : Same H16 (upd H16 tm (.tup ws'.reverse)) := same_upd ntm
          have bx17 := bx16.same s17
          have nlB := bx17.ne nl
          refine pick_at (B := B) (D := D) (by rfl) (by decide) upd_same nlB rfl (bx17.new nl) fun v hv H18 kp18 bx18 => ?_
          have s18 : Same H16 (upd (upd H16 tm (.tup ws'.reverse)) l (.lst [.ref pm, .ref tm])) := s17.trans (same_upd nl)
          have st18 : SameT H16 H18 := s18.t.trans (SameT.box kp18 (bx17.new nl))
          have tb18 := (tb16.same s18).kp kp18 (bx17.new nl)
          have du18 := du16.st st18
          have hFv : Files K H18 v gs.reverse := by
            rcases List.mem_cons.mp hv with rfl | hv
            · exact ⟨pm, _, rfl, .inl (sqL (kp18 _ _ (bx11.ne npm) (s18 _ _ hm16))), hM16.st st18⟩
            rcases List.mem_cons.mp hv with rfl | hv
            · refine ⟨tm, _, rfl, .inr ?_, hM16.st st18⟩
              exact (SameT.box kp18 (bx17.new nl)).sq ((same_upd nl).seqT (sqT upd_same))
            cases hv
          have tb0 := tb18
          refine' joinS (H := H18) (fun key => ?main) ?key
          case main =>
            refine ⟨v, gs.reverse, rfl, hFv, small_of lrR, fun gd H19 a19 ws19 s19 na19 ea19 hR19 => ?_, fun gd H19 a19 s19 na19 ea19 => ?_⟩
            · refine ⟨_, rfl, ?_⟩
              rcases du18.st s19.t with ⟨_, ys, y1, y2⟩ | ⟨g2, _⟩
              · have pl := plain_rows (lrR.perm (srtF_perm gs.reverse))
                refine ⟨_, _, _, rfl, rows_dp (sqT ea19) hR19, rows_dp y1 y2, pl.sh, pl.nd, pl.dp, pl.ln, _, rfl, iteF ?_⟩
                exact key H19 s19
              · rw [gd] at g2; cases g2
            · refine ⟨_, rfl, ?_⟩
              rcases du18.st s19.t with ⟨g2, _⟩ | ⟨_, y1⟩
              · rw [gd] at g2; cases g2
              · have pl := plain_ref
                refine ⟨_, _, _, rfl, .tup (sqT ea19) (.cons (.str _) (.cons (.str _) .nil)), .tup y1 (.cons (.str _) (.cons (.str _) .nil)), pl.sh, pl.nd, pl.dp, pl.ln, _, rfl, iteF ?_⟩
                exact key H19 s19
          case key =>
            intro H19 s19
            refine' joinE (τ := [some (.ref a), some (.ref B), some (.int (0 + i)), some (.ref d), some (.ref res), some (.bl (goodFiles gs)), some (.ref pm), some (.ref due), o8, o9, o10, o11, o12, o13, o14]) rfl ?_
            have tb19 := tb18.same s19
            have bx19 := bx18.same s19
            have p2 : (srtF fs).reverse.Perm fs := (List.reverse_perm _).trans (srtF_perm fs)
            have lf2 : LawF (srtF fs).reverse := lf.perm p2
            have nd2 : ((srtF fs).reverse.map (·.1)).Nodup := (p2.map _).nodup_iff.mpr ndF
            have gd2 : goodFiles (srtF fs).reverse = true := lf2.good nd2
            refine ⟨_, rfl, d, fs, rfl, tb19, fun H20 t20 ws20 s20 na20 ea20 hR20 => ?_⟩
            refine ⟨t20, ws20, rfl, .inr (sqT ea20), fun l21 nl21 => ?_⟩
            refine ⟨l21, ws20, rfl, sqL upd_same, fun l22 nl22 => ?_⟩
            have s22 : Same H20 (upd (upd H20 l21 (.lst ws20)) l22 (.lst ws20.reverse)) := (same_upd nl21).trans (same_upd nl22)
            have hl22 : (upd (upd H20 l21 (.lst ws20)) l22 (.lst ws20.reverse)) l22 = some (.lst ws20.reverse) := upd_same
            have hR22 := RowsAt.st (paired_rev hR20) s22.t
            have bx22 := (bx19.same s20).same s22
            have tb22 := (tb19.same s20).same s22
            generalize (upd (upd H20 l21 (.lst ws20)) l22 (.lst ws20.reverse)) = H22 at hl22 hR22 bx22 tb22 ⊢
            refine fun p dx np ndx nex => ⟨p, dx, .ref l22, (srtF fs).reverse, rfl, upd_same, Files.same ⟨l22, _, rfl, .inl (sqL hl22), hR22⟩ (same_made0 np ndx), small_of lf2.lawR, fun _ H23 kp23 tr23 => ⟨rfl, ?_⟩, fun z => by rw [gd2] at z; cases z⟩
            have s23 : Same H22 H23 := same_made np ndx kp23
            have tb23 := tb22.same s23
            have bx23 := bx22.same s23
            refine pick (B := B) (D := D) (by rfl) (by decide) (by decide) rfl bx23 fun v9 hv9 H24 kp24 bx24 => ?_
            obtain ⟨place, rfl, hpl⟩ := menu_mem (n := 8) (by decide +kernel) hv9
            have tb24 := tb23.kp kp24 bx23
            have tr24 := tr23.kp kp24 bx23
            have pl1000 : (tl place).length ≤ 1000 := Nat.le_trans hpl.1 (by decide)
            have paths2 : ∀ f ∈ (srtF fs).reverse, (tl f.1).length ≤ 1000 := fun f hf => Nat.le_trans (pth (lf2.each f hf).1).text.1 (by decide)
            have paths1 : ∀ f ∈ fs, (tl f.1).length ≤ 1000 := fun f hf => Nat.le_trans (pth (lf.each f hf).1).text.1 (by decide)
            have eS : srtF (srtF fs).reverse = srtF fs := srtF_congr p2 ndF
            obtain ⟨dx24, dt24, hp24, _⟩ := id tr24
            refine ⟨_, rfl, p, dx24, _, rfl, hp24, rfl, _, rfl, p, place, _, rfl, tr24, pl1000, paths2, fun H25 a25 s25 na25 ea25 => ?_⟩
            have tb25 := tb24.same s25
            obtain ⟨kvs, hd25, prK, _, h40⟩ := id tb25
            refine ⟨_, rfl, d, kvs, fs.map (·.1), rfl, .inl hd25, keys_of prK, by rw [List.length_map]; omega, fun ys l26 perm srt nl26 => ?_⟩
            have ey := sorted_is perm srt
            subst ey
            have s26 : Same H25 (upd H25 l26 (.lst (((srtF fs).map (·.1)).map V.str))) := same_upd nl26
            refine ⟨l26, rfl, ⟨_, sqL upd_same⟩, fun D2 nD2 => ?_⟩
            refine lc_rel (R := fun H z y => y = V.str z) (as := (srtF fs).map (·.1)) (p := fun z => inside z place) nD2 (same_walkL (sqL upd_same)) (by simp) (by simp [srtF_len]; omega) (fun st h => h) (fun i c z hc hz Hc Rk Rn sc kk1 kk2 => ?_) fun H27 ws27 s27 e27 pr27 => ?_
            · have ec : c = V.str z := by
                rw [List.getElem?_map, hz] at hc
                exact (Option.some.inj hc).symm
              subst ec
              refine ⟨by rfl, ?_⟩
              have hz2 : (tl z).length ≤ 1000 := by
                obtain ⟨g, hg, rfl⟩ := List.mem_map.mp (List.mem_of_getElem? hz)
                exact paths1 g ((srtF_perm fs).mem_iff.mp hg)
              refine ⟨_, rfl, _, rfl, z, place, rfl, hz2, pl1000, fun H3 s3 => ⟨_, rfl, ite2 (fun e => ?_) (fun e => ?_)⟩⟩
              · exact ⟨_, rfl, kk1 _ H3 e s3 rfl⟩
              · exact kk2 H3 (Bool.eq_false_iff.mpr e) s3
            · have ew := paired_map pr27
              subst ew
              refine ⟨D2, _, rfl, .inl ⟨sqL e27, fun r28 nr28 => ?_⟩⟩
              have s28 : Same H25 (upd H27 r28 (.tup ((((srtF fs).map (·.1)).filter fun z => inside z place).map V.str))) := (s26.trans s27).trans (same_upd nr28)
              have ePI : pathsIn (srtF fs).reverse place = ((srtF fs).map (·.1)).filter fun z => inside z place := by rw [pathsIn, eS]
              rw [ePI] at ea25
              have pl : Plain (dL (((srtF fs).map (·.1)).filter fun z => inside z place)) := plain_lines (fun z hz => by
                obtain ⟨g, hg, rfl⟩ := List.mem_map.mp (List.mem_filter.mp hz).1
                exact (pth (lf.each g ((srtF_perm fs).mem_iff.mp hg)).1).text.mono (by decide)) (by
                refine Nat.le_trans (List.length_filter_le _ _) ?_
                rw [List.length_map, srtF_len]
                omega)
              refine ⟨_, _, _, rfl, .tup (sqT (s28 _ _ ea25)) (dpAll_strs _), .tup (sqT upd_same) (dpAll_strs _), pl.sh, pl.nd, pl.dp, pl.ln, _, rfl, iteF ?_⟩
              have sA := s25.trans s28
              have tb29 := tb24.same sA
              have tr29 := tr24.same sA
              have bx29 := bx24.same sA
              generalize (upd H27 r28 (.tup ((((srtF fs).map (·.1)).filter fun z => inside z place).map V.str))) = H29 at tb29 tr29 bx29 ⊢
              obtain ⟨dx29, dt29, hp29, _⟩ := id tr29
              refine ⟨_, rfl, p, dx29, _, rfl, hp29, rfl, _, rfl, p, place, _, rfl, tr29, pl1000, paths2, fun H30 s30 => ?_⟩
              refine ⟨_, rfl, _, rfl, d, place, fs, rfl, tb29.same s30, pl1000, paths1, fun H31 s31 => ?_⟩
              have pl := plain_bool (lFolder fs place)
              refine ⟨_, _, _, rfl, by rw [folder_is p2]; exact .bl _, .bl _, pl.sh, pl.nd, pl.dp, pl.ln, _, rfl, iteF ?_⟩
              have bx31 := (bx29.same s30).same s31
              refine ⟨_, rfl, B, D, rfl, bx31, fun v H32 hv32 kp32 bx32 => ?_⟩
              have tb32 := ((tb29.same s30).same s31).kp kp32 bx31
              have tr32 := ((tr29.same s30).same s31).kp kp32 bx31
              obtain ⟨ps, rfl, _⟩ := id hv32
              generalize Txt.join sl ps = x at hv32 ⊢
              obtain ⟨dx32, dt32, hp32, _⟩ := id tr32
              obtain ⟨kvs32, hd32, pr32, _, _⟩ := id tb32
              refine ⟨_, rfl, p, dx32, _, rfl, hp32, rfl, _, rfl, p, x, _, rfl, tr32, fun v1 hv1 => ?_⟩
              have hv2 := get_of (x := x) pr32
              rw [getF_perm p2 ndF] at hv1
              refine ⟨_, rfl, d, rfl, .inl ⟨kvs32, .inl hd32⟩, _, rfl, valV kvs32 (.inr x), DGet.k (k := .inr x) hd32, ?_⟩
              obtain ⟨dat, da1, da2, pl⟩ : ∃ dat, Dp K H32 v1 dat ∧ Dp K H32 ((valV kvs32 (.inr x)).getD .non) dat ∧ Plain dat := by
                cases e : getF fs x with
                | none =>
                  rw [e] at hv1 hv2
                  rw [show v1 = .non from hv1, show (valV kvs32 (.inr x)).getD .non = .non from hv2]
                  exact ⟨.none, .non, .non, plain_none⟩
                | some l =>
                  rw [e] at hv1 hv2
                  have ml := lf.each _ (getF_mem e)
                  exact ⟨dL l, LinesAt.dp hv1, LinesAt.dp hv2, plain_lines (fun z hz => (ml.2.2 z hz).1.mono (by decide)) (by have := ml.2.1; show l.length ≤ 60; exact Nat.le_trans this (by decide))⟩
              refine ⟨_, _, dat, rfl, da1, da2, pl.sh, pl.nd, pl.dp, pl.ln, _, rfl, iteF ?_⟩
              refine ⟨_, rfl, fun de nde => ?_⟩
              have sE : Same H32 (upd H32 de (.dK [])) := same_upd nde
              refine ⟨d, de, kvs32, rfl, rfl, sE _ _ hd32, upd_same, _, rfl, ?_⟩
              have bx33 := bx32.same sE
              have tb33 := tb32.same sE
              have tr33 := tr32.same sE
              generalize (upd H32 de (.dK [])) = H33 at bx33 tb33 tr33 ⊢
              refine' joinG (G := fun σ H => (∃ o2 o4 o5 o6 o7 o9 o10 o11 o12 o13 o14 : Option V, σ = [some (.ref a), some (.ref B), o2, some (.ref d), o4, o5, o6, o7, some (.ref p), o9, o10, o11, o12, o13, o14]) ∧ Box H B D ∧ Tab K H d fs ∧ TreeAt K C H p (srtF fs).reverse) (fun key => ?main) ?key
              case main =>
                refine ite2 (fun eK => ?_) (fun eK => ?_)
                · refine' joinE (τ := [some (.ref a), some (.ref B), some (.int (0 + i)), some (.ref d), some (.ref res), some (.bl (goodFiles gs)), some (.ref pm), some (.ref due), some (.ref p), some (.str place), some (.str x), o11, o12, o13, o14]) rfl ?_
                  have kne : kvs32 ≠ [] := fun z => by rw [z] at eK; exact absurd eK (by decide)
                  obtain ⟨kvs, hd33, pr33, _, h40⟩ := id tb33
                  refine ⟨_, rfl, d, kvs, fs.map (·.1), rfl, .inl hd33, keys_of pr33, by rw [List.length_map]; omega, fun ys l41 perm srt nl41 => ?_⟩
                  have ey := sorted_is perm srt
                  subst ey
                  have s41 : Same H33 (upd H33 l41 (.lst (((srtF fs).map (·.1)).map V.str))) := same_upd nl41
                  have pos : 0 < fs.length := by
                    have := pr32.length
                    cases kvs32 with
                    | nil => exact absurd rfl kne
                    | cons _ _ => rw [this]; exact Nat.succ_pos _
                  have kl : kvs.length = fs.length := pr33.length.symm
                  have bx41 := bx33.same s41
                  refine ⟨_, rfl, _, rfl, d, kvs, rfl, s41 _ _ hd33, B, D, _, rfl, by rw [kl]; omega, bx41, fun r H42 r0 rl kp42 bx42 => ?_⟩
                  have rl2 : r.toNat < (srtF fs).length := by rw [srtF_len]; omega
                  obtain ⟨f0, hf0⟩ : ∃ f0, (srtF fs)[r.toNat]? = some f0 := ⟨_, List.getElem?_eq_getElem rl2⟩
                  have mf : f0 ∈ fs := (srtF_perm fs).mem_iff.mp (List.mem_of_getElem? hf0)
                  have mf2 : f0 ∈ (srtF fs).reverse := p2.mem_iff.mpr mf
                  obtain ⟨x0, l0⟩ := f0
                  refine ⟨l41, _, r, .str x0, rfl, rfl, sqL (kp42 _ _ (bx33.ne nl41) upd_same), at_of (j := r.toNat) (by omega) (by rw [List.map_map, List.getElem?_map, hf0]; rfl), ?_⟩
                  have tb42 := (tb33.same s41).kp kp42 bx41
                  have tr42 := (tr33.same s41).kp kp42 bx41
                  obtain ⟨dx42, dt42, hp42, _⟩ := id tr42
                  refine ⟨_, rfl, p, dx42, _, rfl, hp42, rfl, _, rfl, p, x0, _, rfl, tr42, fun H43 po s43 npo tro43 => ?_⟩
                  obtain ⟨dx43, dt43, ho43, _⟩ := id tro43
                  refine ⟨_, rfl, po, dx43, _, rfl, ho43, rfl, _, rfl, by show 1 ≤ sizeLine; decide, fun tn ntn => ?_⟩
                  have s44 : Same H43 (upd H43 tn (.tup [.str "new"])) := same_upd ntn
                  refine ⟨po, x0, .ref tn, ["new"], _, rfl, tro43.same s44, ⟨tn, rfl, sqT upd_same⟩, ?_, fun H45 pa s45 npa tra45 => ?_⟩
                  · refine Nat.lt_of_le_of_lt (List.length_filter_le _ _) ?_
                    rw [p2.length_eq]
                    have := lf.few
                    omega
                  rw [put_drop] at tra45
                  have sD : Same H42 H45 := (s43.trans s44).trans s45
                  have tb45 := tb42.same sD
                  have tr45 := tr42.same sD
                  have tro45 := tro43.same (s44.trans s45)
                  have bx45 := bx42.same sD
                  refine ⟨_, rfl, d, fs, rfl, tb45, fun H46 t46 ws46 s46 na46 ea46 hR46 => ?_⟩
                  refine ⟨t46, rfl, ⟨_, sqT ea46⟩, fun D3 nD3 => ?_⟩
                  refine lc_rel (R := fun H f y => RowAt K H y f) (as := srtF fs) (p := fun f => decide (f.1 ≠ x0)) nD3 (same_walkT (sqT ea46)) hR46.length (by rw [hR46.length, srtF_len]; have := lf.few; omega) (fun st h => h.st st) (fun i c g hc hg Hc Rk Rn sc kk1 kk2 => ?_) fun H47 ws47 s47 e47 pr47 => ?_
                  · obtain ⟨g2, hg2, rg⟩ := paired_get hR46 i c hc
                    rw [hg] at hg2
                    cases hg2
                    have rg2 := rg.st sc.t
                    obtain ⟨t0, w0, rfl, ht0, _⟩ := id rg2
                    refine ⟨by rfl, ?_⟩
                    refine ⟨_, rfl, t0, _, _, .str g.1, rfl, rfl, ht0, atI_nat (j := 0) rfl, _, rfl, rfl, _, rfl, ite2 (fun e => ?_) (fun e => ?_)⟩
                    · refine ⟨_, rfl, kk1 _ Hc ?_ (.refl _) rg2⟩
                      exact decide_eq_true fun z => by
                        rw [z] at e
                        exact absurd e (by simp)
                    · refine kk2 Hc ?_ (.refl _)
                      exact decide_eq_false fun z => e (ne_str z)
                  · have eD : (srtF fs).filter (fun f => decide (f.1 ≠ x0)) = srtF (dropFs (srtF fs).reverse x0) := (srtF_drop p2 ndF x0).symm
                    refine ⟨D3, ws47, rfl, .inl ⟨sqL e47, fun t48 nt48 => ?_⟩⟩
                    have s48 : Same H47 (upd H47 t48 (.tup ws47)) := same_upd nt48
                    have hR48 : RowsAt K (upd H47 t48 (.tup ws47)) ws47 (srtF (dropFs (srtF fs).reverse x0)) := by
                      rw [← eD]
                      exact RowsAt.st (paired_swap pr47) s48.t
                    have hT48 : SqT K (upd H47 t48 (.tup ws47)) t48 ws47 := sqT upd_same
                    have sE := (s46.trans s47).trans s48
                    have tb48 := tb45.same sE
                    have tr48 := tr45.same sE
                    have tro48 := tro45.same sE
                    have tra48 := tra45.same sE
                    have bx48 := bx45.same sE
                    generalize (upd H47 t48 (.tup ws47)) = H48 at hR48 hT48 tb48 tr48 tro48 tra48 bx48 ⊢
                    have ndD := drop_nodup nd2 x0 ["new"]
                    have lrD : LawR (dropFs (srtF fs).reverse x0) := lf2.lawR.filter _
                    have lrA : LawR (dropFs (srtF fs).reverse x0 ++ [(x0, [("new" : Str)])]) := by
                      refine ⟨fun g hg => ?_, ?_⟩
                      · rcases List.mem_append.mp hg with hg | hg
                        · exact lrD.each g hg
                        · rw [List.mem_singleton.mp hg]
                          exact ⟨(pth (lf.each _ mf).1).text.mono (by decide), by show 1 ≤ 50; decide, fun z hz => by rw [List.mem_singleton.mp hz]; decide +kernel⟩
                      · rw [List.length_append]
                        have := List.length_filter_le (fun f : File => decide (f.1 ≠ x0)) (srtF fs).reverse
                        rw [p2.length_eq] at this
                        have := lf.few
                        show ((srtF fs).reverse.filter fun f => decide (f.1 ≠ x0)).length + 1 ≤ 40
                        omega
                    obtain ⟨dxo, dto, ho48, _⟩ := id tro48
                    refine ⟨_, rfl, po, dxo, _, rfl, ho48, rfl, po, _, rfl, tro48, fun H49 a49 ws49 s49 na49 ea49 hR49 => ?_⟩
                    have pl := plain_rows (lrD.perm (srtF_perm _))
                    refine ⟨_, rfl, _, _, _, rfl, rows_dp (sqT ea49) hR49, rows_dp (s49.seqT hT48) (hR48.st s49.t), pl.sh, pl.nd, pl.dp, pl.ln, _, rfl, iteF ?_⟩
                    have tra49 := tra48.same s49
                    obtain ⟨dxa, dta, ha49, _⟩ := id tra49
                    refine ⟨_, rfl, pa, dxa, _, rfl, ha49, rfl, pa, _, rfl, tra49, fun H50 a50 ws50 s50 na50 ea50 hR50 => ?_⟩
                    refine ⟨_, rfl, _, rfl, by show 1 ≤ sizeLine; decide, fun t1 n1 => ⟨by show 2 ≤ sizeLine; decide, fun t2 n2 => ⟨by show 1 ≤ sizeLine; decide, fun t3 n3 => ?_⟩⟩⟩
                    have sG : Same H50 (upd (upd (upd H50 t1 (.tup [.str "new"])) t2 (.tup [.str x0, .ref t1])) t3 (.tup [.ref t2])) := ((same_upd n1).trans (same_upd n2)).trans (same_upd n3)
                    have r1 : SqT K (upd (upd (upd H50 t1 (.tup [.str "new"])) t2 (.tup [.str x0, .ref t1])) t3 (.tup [.ref t2])) t1 [.str "new"] := ((same_upd n2).trans (same_upd n3)).seqT (sqT upd_same)
                    have r2 : SqT K (upd (upd (upd H50 t1 (.tup [.str "new"])) t2 (.tup [.str x0, .ref t1])) t3 (.tup [.ref t2])) t2 [.str x0, .ref t1] := (same_upd n3).seqT (sqT upd_same)
                    have r3 : SqT K (upd (upd (upd H50 t1 (.tup [.str "new"])) t2 (.tup [.str x0, .ref t1])) t3 (.tup [.ref t2])) t3 [.ref t2] := sqT upd_same
                    have s4850 : Same H48 H50 := s49.trans s50
                    have hT50 := sG.seqT (s4850.seqT hT48)
                    have hR50r := RowsAt.st (RowsAt.st hR48 s4850.t) sG.t
                    have hR50a := RowsAt.st hR50 sG.t
                    have ea50a := sG _ _ ea50
                    have sH : Same H48 (upd (upd (upd H50 t1 (.tup [.str "new"])) t2 (.tup [.str x0, .ref t1])) t3 (.tup [.ref t2])) := s4850.trans sG
                    have wl47 : ws47.length = (srtF (dropFs (srtF fs).reverse x0)).length := hR48.length
                    have dl : (dropFs (srtF fs).reverse x0).length ≤ 40 := lrD.few
                    rw [srtF_len] at wl47
                    generalize (upd (upd (upd H50 t1 (.tup [.str "new"])) t2 (.tup [.str x0, .ref t1])) t3 (.tup [.ref t2])) = H51 at r1 r2 r3 hT50 hR50r hR50a ea50a sH ⊢
                    refine ⟨t48, t3, ws47, [.ref t2], rfl, rfl, hT50, r3, Nat.le_trans (show ws47.length + 1 ≤ 41 by omega) (by decide), fun u H52 s52 hu => ?_⟩
                    have perm2 : (srtF (dropFs (srtF fs).reverse x0) ++ [(x0, [("new" : Str)])]).Perm (dropFs (srtF fs).reverse x0 ++ [(x0, [("new" : Str)])]) := (srtF_perm _).append_right _
                    have eF := srtF_congr perm2 ndD
                    have hRu : RowsAt K H52 (ws47 ++ [.ref t2]) (srtF (dropFs (srtF fs).reverse x0) ++ [(x0, [("new" : Str)])]) := RowsAt.st (Paired.snoc hR50r ⟨t2, .ref t1, rfl, r2, t1, rfl, r1⟩) s52.t
                    refine ⟨u, _, _, rfl, .inr hu, hRu, (perm2.map _).nodup_iff.mpr ndD, ?_, fun ps ys nps hRs => ?_⟩
                    · rw [List.length_append, srtF_len]
                      show (dropFs (srtF fs).reverse x0).length + 1 ≤ 1000
                      omega
                    rw [eF] at hRs
                    refine ⟨ps, ys, rfl, .inl ⟨sqL upd_same, fun tt ntt => ?_⟩⟩
                    have s54 : Same H52 (upd (upd H52 ps (.lst ys)) tt (.tup ys)) := (same_upd nps).trans (same_upd ntt)
                    have pl := plain_rows (lrA.perm (srtF_perm _))
                    refine ⟨_, _, _, rfl, rows_dp ((s52.trans s54).seqT (sqT ea50a)) (hR50a.st (s52.trans s54).t), rows_dp (sqT upd_same) (hRs.st (same_upd ntt).t), pl.sh, pl.nd, pl.dp, pl.ln, _, rfl, iteF ?_⟩
                    have sI := (sH.trans s52).trans s54
                    have tb60 := tb48.same sI
                    have tr60 := tr48.same sI
                    have tro60 := tro48.same sI
                    have tra60 := tra48.same sI
                    have bx60 := bx48.same sI
                    generalize (upd (upd H52 ps (.lst ys)) tt (.tup ys)) = H60 at tb60 tr60 tro60 tra60 bx60 ⊢
                    have hx0 : x0 ∈ (srtF fs).reverse.map (·.1) := List.mem_map.mpr ⟨_, mf2, rfl⟩
                    have okG := lf2.lawR.okLs
                    obtain ⟨dx60, dt60, hp60, _⟩ := id tr60
                    refine ⟨_, rfl, p, dx60, _, rfl, hp60, rfl, _, rfl, by show 1 ≤ sizeLine; decide, fun tn2 ntn2 => ⟨p, x0, .ref tn2, ["new"], _, rfl, tr60.same (same_upd ntn2), ⟨tn2, rfl, sqT upd_same⟩, ?_, fun H61 pw s61 npw trw => ?_⟩⟩
                    · rw [p2.length_eq]
                      have := lf.few
                      omega
                    have sJ : Same H60 H61 := (same_upd ntn2).trans s61
                    obtain ⟨dxw, dtw, hw61, _⟩ := id trw
                    have pt := plain_bool true
                    refine ⟨pw, dxw, _, rfl, hw61, rfl, _, rfl, pw, pa, _, _, rfl, trw, tra60.same sJ, put_ok lf2.lawR, lrA.okLs, ?_⟩
                    refine ⟨_, _, _, rfl, by rw [sameB_put nd2 hx0]; exact .bl true, .bl true, pt.sh, pt.nd, pt.dp, pt.ln, _, rfl, iteF ?_⟩
                    have tr61 := tr60.same sJ
                    have tb61 := tb60.same sJ
                    obtain ⟨dx61, dt61, hp61, _⟩ := id tr61
                    obtain ⟨kvs61, hd61, pr61, ndK, _⟩ := id tb61
                    obtain ⟨v61, ev61, lv61⟩ := (val_of pr61 (x := x0)).2 ndK (x0, l0) mf rfl
                    refine ⟨_, rfl, p, dx61, _, rfl, hp61, rfl, _, rfl, p, pa, _, _, rfl, tr61, tra60.same sJ, okG, lrA.okLs, ?_⟩
                    refine ⟨_, rfl, _, rfl, d, v61, rfl, by rw [← ev61]; exact DGet.k (k := .inr x0) hd61, by show 1 ≤ sizeLine; decide, fun t62 n62 => ?_⟩
                    have s62 : Same H61 (upd H61 t62 (.tup [.str "new"])) := same_upd n62
                    have ok0 : ∀ z ∈ l0, PyData.strOk z = true := fun z hz => okc_strOk ((lf.each _ mf).2.2 z hz).1
                    refine ⟨dL l0, dL ["new"], (lv61.st s62.t).dp, .tup (sqT upd_same) (dpAll_strs ["new"]), shapedL ok0, shapedL (fun z hz => by rw [List.mem_singleton.mp hz]; decide +kernel), ?_⟩
                    have pb := plain_bool (decide (l0 = [("new" : Str)]))
                    refine ⟨_, _, .bool (decide (l0 = [("new" : Str)])), rfl, by rw [sameB_new nd2 mf2]; exact .bl _, by rw [eqv_dL]; exact .bl _, pb.sh, pb.nd, pb.dp, pb.ln, _, rfl, iteF ?_⟩
                    have sK : Same H60 (upd H61 t62 (.tup [.str "new"])) := sJ.trans s62
                    have tr62 := tr60.same sK
                    obtain ⟨dx62, dt62, hp62, _⟩ := id tr62
                    have pf := plain_bool false
                    refine ⟨_, rfl, p, dx62, _, rfl, hp62, rfl, _, rfl, p, po, _, _, rfl, tr62, tro60.same sK, okG, lrD.okLs, ?_⟩
                    refine ⟨_, _, .bool false, rfl, by rw [sameB_drop nd2 hx0]; exact .bl false, .bl false, pf.sh, pf.nd, pf.dp, pf.ln, _, rfl, iteF ?_⟩
                    exact key _ _ ⟨⟨_, _, _, _, _, _, _, _, _, _, _, rfl⟩, bx60.same sK, tb60.same sK, tr62⟩
                · exact key _ H33 ⟨⟨_, _, _, _, _, _, _, _, _, _, _, rfl⟩, bx33, tb33, tr33⟩
              case key =>
                rintro σ H34 ⟨⟨o2, o4, o5, o6, o7, o9, o10, o11, o12, o13, o14, rfl⟩, bx34, tb34, tr34⟩
                obtain ⟨dx34, dt34, hp34, _⟩ := id tr34
                refine ⟨_, rfl, p, dx34, _, rfl, hp34, rfl, p, _, rfl, tr34, fun H35 a35 ws35 s35 na35 ea35 hR35 => ?_⟩
                rw [eS] at hR35
                refine ⟨_, rfl, d, fs, rfl, tb34.same s35, fun H36 t36 ws36 s36 na36 ea36 hR36 => ?_⟩
                have pl := plain_rows (lf.lawR.perm (srtF_perm fs))
                refine ⟨_, _, _, rfl, rows_dp (s36.seqT (sqT ea35)) (hR35.st s36.t), rows_dp (sqT ea36) hR36, pl.sh, pl.nd, pl.dp, pl.ln, _, rfl, iteF ?_⟩
                have sB := s35.trans s36
                have tr36 := tr34.same sB
                obtain ⟨dx36, dt36, hp36, _⟩ := id tr36
                refine ⟨_, rfl, p, dx36, _, rfl, hp36, rfl, ?_⟩
                refine ⟨_, rfl, d, fs, rfl, tb34.same sB, fun H37 t37 ws37 s37 na37 ea37 hR37 => ?_⟩
                have gdS : goodFiles (srtF fs) = true := lfS.good (srtF_nodup ndF)
                refine fun p38 dx38 np38 ndx38 ne38 => ⟨p38, dx38, .ref t37, srtF fs, rfl, upd_same, Files.same ⟨t37, _, rfl, .inr (sqT ea37), hR37⟩ (same_made0 np38 ndx38), small_of lfS.lawR, fun _ H39 kp39 tr39 => ⟨rfl, ?_⟩, fun z => by rw [gdS] at z; cases z⟩
                have s39 : Same H37 H39 := same_made np38 ndx38 kp39
                have sC := (sB.trans s37).trans s39
                have eq : sameB (srtF fs).reverse (srtF fs) = true := sameB_perm (List.reverse_perm _).symm (srtF_nodup ndF)
                refine ⟨p, p38, _, _, rfl, tr34.same sC, tr39, (lf2.lawR).okLs, (lfS.lawR).okLs, ?_⟩
                have pl := plain_bool true
                refine ⟨_, _, _, rfl, by rw [eq]; exact .bl true, .bl true, pl.sh, pl.nd, pl.dp, pl.ln, _, rfl, iteF ?_⟩
                exact ⟨_, _, _, _, _, _, _, _, _, _, _, _, _, rfl, bx34.same sC⟩
    · rintro σ H6 ⟨o2, o3, o4, o5, o6, o7, o8, o9, o10, o11, o12, o13, o14, rfl, bx⟩
      exact q H6
end
end K02

set_option maxRecDepth 100000
set_option maxHeartbeats 4000000
namespace K02
open PySem PySem.Spec PyProof.Rows L2 TL Ga NdefX
/-- a def that the top has left -/
structure FnIn (K : PySem.W.Frag) (x : Str) (st : Stmt) : Prop where
  ex : ∃ (f : Addr) (od an : Option Addr) (sl : Array (Option Value)) (oc kV dc pm cd ct : Value), PySem.W.nsIn K mainGlobals x = some (some (.ref f)) ∧
    K.lookup f = some ⟨oc, od, .func (PySem.W.fnOf x x (defArgs st) (defBody st) (defScope st) .none kV dc pm an cd ct), sl⟩ ∧ PySem.W.codeIn K cd x = true ∧ PySem.W.keepIn K (.ref f) = true
theorem fnIn {K : PySem.W.Frag} {x : Str} {st : Stmt} {f : Addr} {od an : Option Addr} {sl : Array (Option Value)} {oc kV dc pm cd ct : Value} (a : PySem.W.nsIn K mainGlobals x = some (some (.ref f)))
    (l : K.lookup f = some ⟨oc, od, .func (PySem.W.fnOf x x (defArgs st) (defBody st) (defScope st) .none kV dc pm an cd ct), sl⟩) (c : PySem.W.codeIn K cd x = true) (k : PySem.W.keepIn K (.ref f) = true) : FnIn K x st :=
  ⟨f, od, an, sl, oc, kV, dc, pm, cd, ct, a, l, c, k⟩
theorem intIn {K : PySem.W.Frag} {x : Str} {i : Int} {t : Tok} (a : PySem.W.nsIn K mainGlobals x = some (some (.int i t))) : ∃ t, PySem.W.nsIn K mainGlobals x = some (some (.int i t)) := ⟨t, a⟩
theorem strIn {K : PySem.W.Frag} {x : Str} {i : Str} {t : Tok} (a : PySem.W.nsIn K mainGlobals x = some (some (.str i t))) : ∃ t, PySem.W.nsIn K mainGlobals x = some (some (.str i t)) := ⟨t, a⟩
theorem FnIn.fn {K : PySem.W.Frag} {x : Str} {st : Stmt} {mg : Str → Option Value} {h : Heap} (F : FnIn K x st) (X : K.In h) (G : h.Ns mainGlobals mg) :
    ∃ (f : Addr) (kV dc pm : Value) (an : Option Addr) (cd ct : Value), Fun K x x st f (PySem.W.fnOf x x (defArgs st) (defBody st) (defScope st) .none kV dc pm an cd ct) ∧ mg x = some (.ref f) := by
  obtain ⟨f, od, an, sl, oc, kV, dc, pm, cd, ct, a, l, c, k⟩ := F.ex
  exact ⟨f, kV, dc, pm, an, cd, ct, fun_mk l c k, PySem.W.mg_of X G a⟩
/-- a method of the class at C -/
structure MthIn (K : PySem.W.Frag) (C : Addr) (x qual : Str) (st : Stmt) : Prop where
  ex : ∃ (f : Addr) (od an : Option Addr) (sl : Array (Option Value)) (oc kV dc pm cd ct : Value), Meth K C x f ∧ K.lookup f = some ⟨oc, od, .func (PySem.W.fnOf x qual (defArgs st) (defBody st) (defScope st) .none kV dc pm an cd ct), sl⟩ ∧ PySem.W.codeIn K cd qual = true
theorem mthIn {K : PySem.W.Frag} {C : Addr} {x qual : Str} {st : Stmt} {f : Addr} {od an : Option Addr} {sl : Array (Option Value)} {oc kV dc pm cd ct : Value} (a : PySem.W.findIn K (.ref C) x = some (some (.ref f))) (i : PySem.W.isFn K (.ref f) = true) (k : PySem.W.keepIn K (.ref f) = true)
    (l : K.lookup f = some ⟨oc, od, .func (PySem.W.fnOf x qual (defArgs st) (defBody st) (defScope st) .none kV dc pm an cd ct), sl⟩) (c : PySem.W.codeIn K cd qual = true) : MthIn K C x qual st := ⟨f, od, an, sl, oc, kV, dc, pm, cd, ct, ⟨a, i, k⟩, l, c⟩
theorem MthIn.fn {K : PySem.W.Frag} {C : Addr} {x qual : Str} {st : Stmt} (F : MthIn K C x qual st) : ∃ (f : Addr) (kV dc pm : Value) (an : Option Addr) (cd ct : Value), Fun K x qual st f (PySem.W.fnOf x qual (defArgs st) (defBody st) (defScope st) .none kV dc pm an cd ct) ∧ Meth K C x f := by
  obtain ⟨f, od, an, sl, oc, kV, dc, pm, cd, ct, m, l, c⟩ := F.ex
  exact ⟨f, kV, dc, pm, an, cd, ct, fun_mk l c m.kp, m⟩
/-- the class Tree -/
structure TreeIn (K : PySem.W.Frag) (C : Addr) : Prop where
  gl : PySem.W.nsIn K mainGlobals "Tree" = some (some (.ref C))
  cls : TreeC K C
  mkI : PySem.W.makesIn K C = true
  kp : PySem.W.keepIn K (.ref C) = true
  init : ∃ (f T e0 : Addr) (od an : Option Addr) (sl : Array (Option Value)) (oc kV dc pm cd ct : Value) (o o0 : Obj) (n n0 : Nat), Meth K C "__init__" f ∧
    K.lookup f = some ⟨oc, od, .func (PySem.W.fnOf "__init__" "Tree.__init__" (defArgs sInit) (defBody sInit) (defScope sInit) (.ref T) kV dc pm an cd ct), sl⟩ ∧ PySem.W.codeIn K cd "Tree.__init__" = true ∧
    K.lookup T = some o ∧ o.data = .seq #[.ref e0] n ∧ K.lookup e0 = some o0 ∧ o0.cls = .type "tuple" ∧ o0.data = .seq #[] n0
  m0 : MthIn K C "files" "Tree.files" sTFiles
  m1 : MthIn K C "lines" "Tree.lines" sTLines
  m2 : MthIn K C "paths" "Tree.paths" sTPaths
  m3 : MthIn K C "is_folder" "Tree.is_folder" sTIsFolder
  m4 : MthIn K C "with_file" "Tree.with_file" sTWith
  m5 : MthIn K C "without" "Tree.without" sTWithout
  m6 : MthIn K C "is_same" "Tree.is_same" sTIsSame
theorem initIn {K : PySem.W.Frag} {C f T e0 : Addr} {od an d1 d2 : Option Addr} {sl s1 s2 : Array (Option Value)} {oc kV dc pm cd ct c1 : Value} {n n0 : Nat} (a : PySem.W.findIn K (.ref C) "__init__" = some (some (.ref f))) (i : PySem.W.isFn K (.ref f) = true) (k : PySem.W.keepIn K (.ref f) = true)
    (l : K.lookup f = some ⟨oc, od, .func (PySem.W.fnOf "__init__" "Tree.__init__" (defArgs sInit) (defBody sInit) (defScope sInit) (.ref T) kV dc pm an cd ct), sl⟩) (c : PySem.W.codeIn K cd "Tree.__init__" = true)
    (t : K.lookup T = some ⟨c1, d1, .seq #[.ref e0] n, s1⟩) (e : K.lookup e0 = some ⟨.type "tuple", d2, .seq #[] n0, s2⟩) :
    ∃ (f T e0 : Addr) (od an : Option Addr) (sl : Array (Option Value)) (oc kV dc pm cd ct : Value) (o o0 : Obj) (n n0 : Nat), Meth K C "__init__" f ∧
    K.lookup f = some ⟨oc, od, .func (PySem.W.fnOf "__init__" "Tree.__init__" (defArgs sInit) (defBody sInit) (defScope sInit) (.ref T) kV dc pm an cd ct), sl⟩ ∧ PySem.W.codeIn K cd "Tree.__init__" = true ∧
    K.lookup T = some o ∧ o.data = .seq #[.ref e0] n ∧ K.lookup e0 = some o0 ∧ o0.cls = .type "tuple" ∧ o0.data = .seq #[] n0 :=
  ⟨f, T, e0, od, an, sl, oc, kV, dc, pm, cd, ct, _, _, n, n0, ⟨a, i, k⟩, l, c, t, rfl, e, rfl, rfl⟩
/-- the errors' classes -/
structure ErrIn (P : Program) (K : PySem.W.Frag) (Ct Co Cn : Addr) : Prop where
  go : PySem.W.nsIn K mainGlobals "OutOfRange" = some (some (.ref Co))
  gt : PySem.W.nsIn K mainGlobals "TrunkError" = some (some (.ref Ct))
  gn : PySem.W.nsIn K mainGlobals "NoSession" = some (some (.ref Cn))
  sc : SupC K Co
  is : ExcC K Co
  exm : PySem.W.exmOne K (.ref Co) (.ref Ct) = some true
  no : PySem.W.kitOne K (.ref Co) (.ref Cn) = some false
  nm : PySem.W.findIn K (.ref Co) "name" = some none
  init : ∃ (f cc c : Addr) (fd : FuncData), SupIn P K f Co (fOor cc c) fd ∧ PySem.W.findIn K (.ref Co) "__init__" = some (some (.ref f)) ∧ PySem.W.typeIn K (.ref f) = some (.type "function")
  sup : PySem.W.nsIn K mainGlobals "super" = some none
  top : (P.main.scope.names.lookup ("super" : Str)).isSome = false
theorem oexIn {K : PySem.W.Frag} {Co : Addr} {nm q : Str} {N : Addr} {bs bm : List Value} {sn : List Str} {sub : List Value} {ab : Bool} {col : Option Bool} {dd : Option Addr} {k0 k1 k2 k3 k5 : Option Value}
    (xL : K.lookup Co = some (excClassObj nm q Co N bs bm true sn sub ab col dd k0 k1 k2 k3 k5 "ValueError.__new__")) (vb : PySem.HandSPX.refsVE bm = true) (sa : PySem.W.findIn K (.ref Co) "__setattr__" = some (some (.builtin "object.__setattr__")))
    (ex : PySem.W.subIn K (.ref Co) (.type "BaseException") = some true) (ty : PySem.W.typeIn K (.ref Co) = some (.type "type")) (kp : PySem.W.keepIn K (.ref Co) = true)
    (se : PySem.W.mroIn K Co (.ref Co) = some true) (su : PySem.W.ks_superIn K Co Co "__init__" = some (some (.builtin "ValueError.__init__"))) (ve : PySem.W.subIn K (.ref Co) (.type "ValueError") = some true) (an : PySem.W.nsIn K cStatics "thirdparty.any" = some none) : SupC K Co :=
  ⟨⟨⟨nm, q, N, bs, bm, sn, sub, ab, col, dd, k0, k1, k2, k3, k5, xL, vb⟩, sa, ex, ty, kp⟩, se, su, ve, an⟩
theorem supIn {P : Program} {K : PySem.W.Frag} {f Co cc c : Addr} {oc ccl cl doc pm ctv : Value} {od cdd cld : Option Addr} {osl ccs csl : Array (Option Value)} {vs : Array Value} {file : Str} {tf : Tok}
    (i : PySem.W.findIn K (.ref Co) "__init__" = some (some (.ref f))) (t : PySem.W.typeIn K (.ref f) = some (.type "function")) (l : K.lookup f = some ⟨oc, od, .func (PySem.W.fnX "__init__" "OutOfRange.__init__" (defArgs sOorInit) (defBody sOorInit) (defScope sOorInit) [(("__class__" : Str), cc)] .none .none doc pm none (.ref c) ctv), osl⟩)
    (h : PySem.W.codeIn K (.ref c) "OutOfRange.__init__" = true) (lc : K.lookup c = some ⟨ccl, cdd, .fields vs, ccs⟩) (v2 : vs[2]? = some (.str file tf)) (hf : ((P.main.file : Str) == file) = true) (ce : K.lookup cc = some ⟨cl, cld, .cell (some (.ref Co)), csl⟩) :
    ∃ (f cc c : Addr) (fd : FuncData), SupIn P K f Co (fOor cc c) fd ∧ PySem.W.findIn K (.ref Co) "__init__" = some (some (.ref f)) ∧ PySem.W.typeIn K (.ref f) = some (.type "function") :=
  ⟨f, cc, c, _, ⟨oc, ccl, cl, od, cdd, cld, osl, ccs, csl, doc, pm, ctv, vs, file, tf, cc, rfl, l, h, lc, v2, hf, rfl, ce⟩, i, t⟩
/-- what the top has left -/
structure Tops (P : Program) (K : PySem.W.Frag) : Prop where
  tree : ∃ C, TreeIn K C
  err : ∃ Ct Co Cn, ErrIn P K Ct Co Cn
  f0 : FnIn K "is_name" sIsName
  f1 : FnIn K "is_path" sIsPath
  f2 : FnIn K "is_line_sign" sSign
  f3 : FnIn K "is_line" sIsLine
  f4 : FnIn K "is_lines" sIsLines
  f5 : FnIn K "is_inside" sIsInside
  f6 : FnIn K "are_apart" sApart
  f7 : FnIn K "are_files" sFiles
  f8 : FnIn K "tree_of" sTreeOf
  f9 : FnIn K "_law_cell" sCell
  f10 : FnIn K "_law_digits" sDigits
  f11 : FnIn K "_law_draw" sDraw
  f12 : FnIn K "_law_path" sPath
  f13 : FnIn K "_law_line" sLine
  f14 : FnIn K "_law_lines" sLLines
  f15 : FnIn K "_law_inside" sLInside
  f16 : FnIn K "_law_blocked" sBlocked
  f17 : FnIn K "_law_files" sLFiles
  f18 : FnIn K "_law_rows" sRows
  f19 : FnIn K "_law_is_folder" sLIsFolder
  f20 : FnIn K "_law_alike" sAlike
  f21 : FnIn K "_law_told" sTold
  f22 : FnIn K "_law_many" sMany
  f23 : FnIn K "_law_bad" sBad
  f24 : FnIn K "_law_good" sGood
  f25 : FnIn K "law" sLaw
  c_NAME_MOST : ∃ t, PySem.W.nsIn K mainGlobals "NAME_MOST" = some (some (.int 8 t))
  c_DEPTH_MOST : ∃ t, PySem.W.nsIn K mainGlobals "DEPTH_MOST" = some (some (.int 3 t))
  c_LINE_MOST : ∃ t, PySem.W.nsIn K mainGlobals "LINE_MOST" = some (some (.int 20 t))
  c_LINES_MOST : ∃ t, PySem.W.nsIn K mainGlobals "LINES_MOST" = some (some (.int 12 t))
  c_NAME_SIGNS : ∃ t, PySem.W.nsIn K mainGlobals "NAME_SIGNS" = some (some (.str "abcdefghijklmnopqrstuvwxyz0123456789" t))
  c_PERCENT : ∃ t, PySem.W.nsIn K mainGlobals "PERCENT" = some (some (.int 37 t))
  c_FILES_MOST : ∃ t, PySem.W.nsIn K mainGlobals "FILES_MOST" = some (some (.int 20 t))
  b_len : PySem.W.nsIn K mainGlobals "len" = some none
  b_all : PySem.W.nsIn K mainGlobals "all" = some none
  b_any : PySem.W.nsIn K mainGlobals "any" = some none
  b_ord : PySem.W.nsIn K mainGlobals "ord" = some none
  b_int : PySem.W.nsIn K mainGlobals "int" = some none
  b_range : PySem.W.nsIn K mainGlobals "range" = some none
  b_repr : PySem.W.nsIn K mainGlobals "repr" = some none
  b_tuple : PySem.W.nsIn K mainGlobals "tuple" = some none
  b_list : PySem.W.nsIn K mainGlobals "list" = some none
  b_dict : PySem.W.nsIn K mainGlobals "dict" = some none
  b_set : PySem.W.nsIn K mainGlobals "set" = some none
  b_sorted : PySem.W.nsIn K mainGlobals "sorted" = some none
  b_str : PySem.W.nsIn K mainGlobals "str" = some none
  b_isinstance : PySem.W.nsIn K mainGlobals "isinstance" = some none
  b_min : PySem.W.nsIn K mainGlobals "min" = some none
  b_max : PySem.W.nsIn K mainGlobals "max" = some none
  b_sum : PySem.W.nsIn K mainGlobals "sum" = some none
  b_bool : PySem.W.nsIn K mainGlobals "bool" = some none
  b_enumerate : PySem.W.nsIn K mainGlobals "enumerate" = some none
  b_zip : PySem.W.nsIn K mainGlobals "zip" = some none
  b_reversed : PySem.W.nsIn K mainGlobals "reversed" = some none
  b_abs : PySem.W.nsIn K mainGlobals "abs" = some none
theorem Tops.tx {P : Program} {K : PySem.W.Frag} {mg : Str → Option Value} {h : Heap} (O : Tops P K) (X : K.In h) (G : h.Ns mainGlobals mg) : Tx mg := by
  obtain ⟨t_NAME_MOST, e_NAME_MOST⟩ := O.c_NAME_MOST
  obtain ⟨t_DEPTH_MOST, e_DEPTH_MOST⟩ := O.c_DEPTH_MOST
  obtain ⟨t_LINE_MOST, e_LINE_MOST⟩ := O.c_LINE_MOST
  obtain ⟨t_LINES_MOST, e_LINES_MOST⟩ := O.c_LINES_MOST
  obtain ⟨t_NAME_SIGNS, e_NAME_SIGNS⟩ := O.c_NAME_SIGNS
  obtain ⟨t_PERCENT, e_PERCENT⟩ := O.c_PERCENT
  obtain ⟨t_FILES_MOST, e_FILES_MOST⟩ := O.c_FILES_MOST
  exact ⟨PySem.W.mg_none_of X G O.b_len, PySem.W.mg_none_of X G O.b_all, PySem.W.mg_none_of X G O.b_any, PySem.W.mg_none_of X G O.b_ord, PySem.W.mg_none_of X G O.b_int, PySem.W.mg_none_of X G O.b_range, PySem.W.mg_none_of X G O.b_repr, PySem.W.mg_none_of X G O.b_tuple, PySem.W.mg_none_of X G O.b_list, PySem.W.mg_none_of X G O.b_dict, PySem.W.mg_none_of X G O.b_set, PySem.W.mg_none_of X G O.b_sorted, PySem.W.mg_none_of X G O.b_str, PySem.W.mg_none_of X G O.b_isinstance, PySem.W.mg_none_of X G O.b_min, PySem.W.mg_none_of X G O.b_max, PySem.W.mg_none_of X G O.b_sum, PySem.W.mg_none_of X G O.b_bool, PySem.W.mg_none_of X G O.b_enumerate, PySem.W.mg_none_of X G O.b_zip, PySem.W.mg_none_of X G O.b_reversed, PySem.W.mg_none_of X G O.b_abs, ⟨_, PySem.W.mg_of X G e_NAME_MOST⟩, ⟨_, PySem.W.mg_of X G e_DEPTH_MOST⟩, ⟨_, PySem.W.mg_of X G e_LINE_MOST⟩, ⟨_, PySem.W.mg_of X G e_LINES_MOST⟩, ⟨_, PySem.W.mg_of X G e_NAME_SIGNS⟩, ⟨_, PySem.W.mg_of X G e_PERCENT⟩, ⟨_, PySem.W.mg_of X G e_FILES_MOST⟩⟩
theorem kit_self {K : PySem.W.Frag} {C : Addr} : PySem.W.kitOne K (.ref C) (.ref C) = some true := by
  unfold PySem.W.kitOne
  rw [if_pos (by simp)]
theorem kit_ref {K : PySem.W.Frag} {C D : Addr} (ne : (Value.ref C == Value.ref D) = false) (hd : PySem.W.hasDictIn K D = true) (ht : PySem.W.typeIn K (.ref D) = some (.type "type")) (h : PySem.W.subIn K (.ref C) (.ref D) = some false) : PySem.W.kitOne K (.ref C) (.ref D) = some false := by
  obtain ⟨cd, hc, _⟩ := PySem.W.any_some hd
  unfold PySem.W.kitOne
  rw [ne, if_neg Bool.false_ne_true]
  unfold PySem.W.kitCls
  have e : ((PySem.W.clsIn K D).isSome && PySem.W.typeIn K (.ref D) == some (.type "type")) = true := by rw [hc, ht]; rfl
  dsimp only
  rw [if_pos e]
  exact h
theorem all_mk {l : PySem.W.OpenLaw} {w : World} {K : PySem.W.Frag} {h : Heap} {mg : Str → Option Value} {fa : Addr} (X : K.In h) (G : h.Ns mainGlobals mg) (hfa : mg "law" = some (.ref fa)) (O : Tops l.prog K) :
    ∃ fd : FuncData, (∀ (s : Shared) (v : Value), BindsTo s fd ⟨[v], []⟩ [("script", v)]) ∧ ∀ base : Heap, K.In base → base.Ns mainGlobals mg → FnG l.prog w K mg base CX0 9 fa fd ["script"] (spLaw K) := by
  have T := O.tx X G
  obtain ⟨a0, u0, v0, x0, y0, z0, c0, F0, m0⟩ := O.f0.fn X G
  have b0 := F0.binds (ps := ["text"]) fun _ _ _ _ _ _ us hl => match us, hl with | [_], _ => rfl
  obtain ⟨a1, u1, v1, x1, y1, z1, c1, F1, m1⟩ := O.f1.fn X G
  have b1 := F1.binds (ps := ["text"]) fun _ _ _ _ _ _ us hl => match us, hl with | [_], _ => rfl
  obtain ⟨a2, u2, v2, x2, y2, z2, c2, F2, m2⟩ := O.f2.fn X G
  have b2 := F2.binds (ps := ["sign"]) fun _ _ _ _ _ _ us hl => match us, hl with | [_], _ => rfl
  obtain ⟨a3, u3, v3, x3, y3, z3, c3, F3, m3⟩ := O.f3.fn X G
  have b3 := F3.binds (ps := ["text"]) fun _ _ _ _ _ _ us hl => match us, hl with | [_], _ => rfl
  obtain ⟨a4, u4, v4, x4, y4, z4, c4, F4, m4⟩ := O.f4.fn X G
  have b4 := F4.binds (ps := ["lines"]) fun _ _ _ _ _ _ us hl => match us, hl with | [_], _ => rfl
  obtain ⟨a5, u5, v5, x5, y5, z5, c5, F5, m5⟩ := O.f5.fn X G
  have b5 := F5.binds (ps := ["path", "place"]) fun _ _ _ _ _ _ us hl => match us, hl with | [_, _], _ => rfl
  obtain ⟨a6, u6, v6, x6, y6, z6, c6, F6, m6⟩ := O.f6.fn X G
  have b6 := F6.binds (ps := ["paths"]) fun _ _ _ _ _ _ us hl => match us, hl with | [_], _ => rfl
  obtain ⟨a7, u7, v7, x7, y7, z7, c7, F7, m7⟩ := O.f7.fn X G
  have b7 := F7.binds (ps := ["files"]) fun _ _ _ _ _ _ us hl => match us, hl with | [_], _ => rfl
  obtain ⟨a8, u8, v8, x8, y8, z8, c8, F8, m8⟩ := O.f8.fn X G
  have b8 := F8.binds (ps := ["table"]) fun _ _ _ _ _ _ us hl => match us, hl with | [_], _ => rfl
  obtain ⟨a9, u9, v9, x9, y9, z9, c9, F9, m9⟩ := O.f9.fn X G
  have b9 := F9.binds (ps := ["script", "k"]) fun _ _ _ _ _ _ us hl => match us, hl with | [_, _], _ => rfl
  obtain ⟨a10, u10, v10, x10, y10, z10, c10, F10, m10⟩ := O.f10.fn X G
  have b10 := F10.binds (ps := ["script", "first", "last"]) fun _ _ _ _ _ _ us hl => match us, hl with | [_, _, _], _ => rfl
  obtain ⟨a11, u11, v11, x11, y11, z11, c11, F11, m11⟩ := O.f11.fn X G
  have b11 := F11.binds (ps := ["box", "many"]) fun _ _ _ _ _ _ us hl => match us, hl with | [_, _], _ => rfl
  obtain ⟨a12, u12, v12, x12, y12, z12, c12, F12, m12⟩ := O.f12.fn X G
  have b12 := F12.binds (ps := ["box"]) fun _ _ _ _ _ _ us hl => match us, hl with | [_], _ => rfl
  obtain ⟨a13, u13, v13, x13, y13, z13, c13, F13, m13⟩ := O.f13.fn X G
  have b13 := F13.binds (ps := ["box"]) fun _ _ _ _ _ _ us hl => match us, hl with | [_], _ => rfl
  obtain ⟨a14, u14, v14, x14, y14, z14, c14, F14, m14⟩ := O.f14.fn X G
  have b14 := F14.binds (ps := ["box", "most"]) fun _ _ _ _ _ _ us hl => match us, hl with | [_, _], _ => rfl
  obtain ⟨a15, u15, v15, x15, y15, z15, c15, F15, m15⟩ := O.f15.fn X G
  have b15 := F15.binds (ps := ["path", "place"]) fun _ _ _ _ _ _ us hl => match us, hl with | [_, _], _ => rfl
  obtain ⟨a16, u16, v16, x16, y16, z16, c16, F16, m16⟩ := O.f16.fn X G
  have b16 := F16.binds (ps := ["files", "path"]) fun _ _ _ _ _ _ us hl => match us, hl with | [_, _], _ => rfl
  obtain ⟨a17, u17, v17, x17, y17, z17, c17, F17, m17⟩ := O.f17.fn X G
  have b17 := F17.binds (ps := ["box", "most"]) fun _ _ _ _ _ _ us hl => match us, hl with | [_, _], _ => rfl
  obtain ⟨a18, u18, v18, x18, y18, z18, c18, F18, m18⟩ := O.f18.fn X G
  have b18 := F18.binds (ps := ["files"]) fun _ _ _ _ _ _ us hl => match us, hl with | [_], _ => rfl
  obtain ⟨a19, u19, v19, x19, y19, z19, c19, F19, m19⟩ := O.f19.fn X G
  have b19 := F19.binds (ps := ["files", "place"]) fun _ _ _ _ _ _ us hl => match us, hl with | [_, _], _ => rfl
  obtain ⟨a20, u20, v20, x20, y20, z20, c20, F20, m20⟩ := O.f20.fn X G
  have b20 := F20.binds (ps := ["one", "two"]) fun _ _ _ _ _ _ us hl => match us, hl with | [_, _], _ => rfl
  obtain ⟨a21, u21, v21, x21, y21, z21, c21, F21, m21⟩ := O.f21.fn X G
  have b21 := F21.binds (ps := ["rows"]) fun _ _ _ _ _ _ us hl => match us, hl with | [_], _ => rfl
  obtain ⟨a22, u22, v22, x22, y22, z22, c22, F22, m22⟩ := O.f22.fn X G
  have b22 := F22.binds (ps := ["count"]) fun _ _ _ _ _ _ us hl => match us, hl with | [_], _ => rfl
  obtain ⟨a23, u23, v23, x23, y23, z23, c23, F23, m23⟩ := O.f23.fn X G
  have b23 := F23.binds (ps := ["box", "rows"]) fun _ _ _ _ _ _ us hl => match us, hl with | [_, _], _ => rfl
  obtain ⟨a24, u24, v24, x24, y24, z24, c24, F24, m24⟩ := O.f24.fn X G
  have b24 := F24.binds (ps := ["rows"]) fun _ _ _ _ _ _ us hl => match us, hl with | [_], _ => rfl
  obtain ⟨a25, u25, v25, x25, y25, z25, c25, F25, m25⟩ := O.f25.fn X G
  obtain ⟨C, TI⟩ := O.tree
  obtain ⟨Ct, Co, Cn, EI⟩ := O.err
  obtain ⟨ta0, tu0, tv0, tx0, ty0, tz0, tc0, TF0, tm0⟩ := TI.m0.fn
  have tb0 := TF0.binds (ps := ["self"]) fun _ _ _ _ _ _ us hl => match us, hl with | [_], _ => rfl
  obtain ⟨ta1, tu1, tv1, tx1, ty1, tz1, tc1, TF1, tm1⟩ := TI.m1.fn
  have tb1 := TF1.binds (ps := ["self", "path"]) fun _ _ _ _ _ _ us hl => match us, hl with | [_, _], _ => rfl
  obtain ⟨ta2, tu2, tv2, tx2, ty2, tz2, tc2, TF2, tm2⟩ := TI.m2.fn
  have tb2 := TF2.binds (ps := ["self", "place"]) fun _ _ _ _ _ _ us hl => match us, hl with | [_, _], _ => rfl
  obtain ⟨ta3, tu3, tv3, tx3, ty3, tz3, tc3, TF3, tm3⟩ := TI.m3.fn
  have tb3 := TF3.binds (ps := ["self", "place"]) fun _ _ _ _ _ _ us hl => match us, hl with | [_, _], _ => rfl
  obtain ⟨ta4, tu4, tv4, tx4, ty4, tz4, tc4, TF4, tm4⟩ := TI.m4.fn
  have tb4 := TF4.binds (ps := ["self", "path", "lines"]) fun _ _ _ _ _ _ us hl => match us, hl with | [_, _, _], _ => rfl
  obtain ⟨ta5, tu5, tv5, tx5, ty5, tz5, tc5, TF5, tm5⟩ := TI.m5.fn
  have tb5 := TF5.binds (ps := ["self", "path"]) fun _ _ _ _ _ _ us hl => match us, hl with | [_, _], _ => rfl
  obtain ⟨ta6, tu6, tv6, tx6, ty6, tz6, tc6, TF6, tm6⟩ := TI.m6.fn
  have tb6 := TF6.binds (ps := ["self", "other"]) fun _ _ _ _ _ _ us hl => match us, hl with | [_, _], _ => rfl
  obtain ⟨fi, TT, e0, od, an, sl, oc, kV, dc, pm, cd, ct, o, o0, n, n0, mi, lk, hc, lT, oT, l0, c0', o0d⟩ := TI.init
  have FD : FunD K "__init__" "Tree.__init__" (defArgs sInit) (defBody sInit) (defScope sInit) [V.ref e0] [] fi (PySem.W.fnOf "__init__" "Tree.__init__" (defArgs sInit) (defBody sInit) (defScope sInit) (.ref TT) kV dc pm an cd ct) :=
    ⟨⟨oc, od, _, kV, dc, pm, an, cd, ct, sl, rfl, lk, hc, .inr ⟨by simp, TT, o, [.ref e0], n, rfl, lT, oT, .cons rfl .nil⟩, .inl rfl⟩, mi.kp⟩
  obtain ⟨ds1, vd1, bd1⟩ := FD.binds1 (ps := ["self", "files"]) 2 1 (by simp) rfl fun T kV doc pm an cdv ct us its hu hi => match us, hu, its, hi with | [_, _], _, [_], _ => ⟨_, rfl, rfl⟩
  obtain rfl : ds1 = [] := by cases vd1; rfl
  obtain ⟨ds0, vd0, bd0⟩ := FD.binds1 (ps := ["self", "files"]) 1 0 (by simp) rfl fun T kV doc pm an cdv ct us its hu hi => match us, hu, its, hi with | [_], _, [_], _ => ⟨_, rfl, rfl⟩
  have he0 : ∀ H : Hp, SqT K H e0 [] := fun H => .inr ⟨o0, #[], n0, l0, c0', o0d, Nat.zero_le _, .nil⟩
  obtain ⟨fo, cc, cO, fdo, SI, iO, tO⟩ := EI.init
  have bO : Binds K fdo ["self", "name"] [] := by
    obtain ⟨_, _, _, _, _, _, _, _, _, doc, pm, ctv, _, _, _, _, rfl, _⟩ := SI.ex
    exact .all fun us hl => match us, hl with | [_, _], _ => rfl
  have gO := PySem.W.mg_of X G EI.go
  have gT := PySem.W.mg_of X G TI.gl
  have e := hfa.symm.trans m25
  cases e
  refine ⟨PySem.W.fnOf "law" "law" (defArgs sLaw) (defBody sLaw) (defScope sLaw) .none u25 v25 x25 y25 z25 c25, fun s v => .of_eq rfl, fun base _ _ => ?_⟩
  have G0 := ok_is_name (P := l.prog) (w := w) (base := base) F0 T
  have G1 := ok_is_path (P := l.prog) (w := w) (base := base) F1 T G0 m0 F0.kp b0
  have G2 := ok_sign (P := l.prog) (w := w) (base := base) F2 T
  have G3 := ok_is_line (P := l.prog) (w := w) (base := base) F3 T G2 m2 F2.kp b2
  have G4 := ok_is_lines (P := l.prog) (w := w) (base := base) F4 T G3 m3 F3.kp b3
  have G5 := ok_is_inside (P := l.prog) (w := w) (base := base) (K := K) (mg := mg) F5
  have G6 := ok_apart (P := l.prog) (w := w) (base := base) F6 T G5 m5 F5.kp b5
  have G7 := ok_files (P := l.prog) (w := w) (base := base) F7 T G1 m1 F1.kp b1 G4 m4 F4.kp b4 G6 m6 F6.kp b6
  have OO : OorC l.prog w K mg base Co fo fdo := ⟨ok_oor SI EI.sc (PySem.W.mg_none_of X G EI.sup) EI.top EI.nm, EI.sc.toOexC, iO, tO, bO, gO⟩
  have GI := ok_init (P := l.prog) (w := w) (base := base) FD T TI.cls.cl TI.cls.nt G7 m7 F7.kp b7 OO
  have MK : Mk K C fi := ⟨TI.mkI, mi.at_, mi.fn, TI.kp⟩
  have G8 := ok_treeof (P := l.prog) (w := w) (base := base) (fo := fo) (fdo := fdo) F8 T TI.cls MK GI gT bd0 vd0 he0
  have J0 := ok_tfiles (P := l.prog) (w := w) (base := base) (mg := mg) TF0 T TI.cls
  have J1 := ok_tlines (P := l.prog) (w := w) (base := base) (mg := mg) TF1 T TI.cls
  have J2 := ok_tpaths (P := l.prog) (w := w) (base := base) TF2 T TI.cls G5 m5 F5.kp b5
  have J3 := ok_tisfolder (P := l.prog) (w := w) (base := base) TF3 T TI.cls J2 tm2 tb2
  have J4 := ok_twith (P := l.prog) (w := w) (base := base) TF4 T TI.cls G8 m8 F8.kp b8
  have J5 := ok_twithout (P := l.prog) (w := w) (base := base) TF5 T TI.cls G8 m8 F8.kp b8
  have J6 := ok_tissame (P := l.prog) (w := w) (base := base) (mg := mg) TF6 T TI.cls
  have G9 := ok_cell (P := l.prog) (w := w) (base := base) F9 T
  have G10 := ok_digits (P := l.prog) (w := w) (base := base) F10 T G9 m9 F9.kp b9
  have G11 := ok_draw (P := l.prog) (w := w) (base := base) (K := K) F11 T
  have G12 := ok_path F12 T G11 m11 F11.kp b11
  have G13 := ok_line F13 G11 m11 F11.kp b11
  have G15 := ok_linside (P := l.prog) (w := w) (base := base) (K := K) F15 T
  have G20 := ok_alike (P := l.prog) (w := w) (base := base) F20 T
  have G14 := ok_llines (P := l.prog) (w := w) (base := base) F14 T ⟨_, _, G11, m11, F11.kp, b11⟩ ⟨_, _, G13, m13, F13.kp, b13⟩
  have G16 := ok_blocked (P := l.prog) (w := w) (base := base) F16 T ⟨_, _, G15, m15, F15.kp, b15⟩
  have G17 := ok_lfiles (P := l.prog) (w := w) (base := base) F17 T ⟨_, _, G11, m11, F11.kp, b11⟩ ⟨_, _, G12, m12, F12.kp, b12⟩ ⟨_, _, G14, m14, F14.kp, b14⟩ ⟨_, _, G16, m16, F16.kp, b16⟩
  have G18 := ok_rows (P := l.prog) (w := w) (base := base) F18 T
  have G19 := ok_lisfolder (P := l.prog) (w := w) (base := base) F19 T ⟨_, _, G15, m15, F15.kp, b15⟩
  have G22 := ok_many (P := l.prog) (w := w) (base := base) (K := K) F22 T
  have G24 := ok_good (P := l.prog) (w := w) (base := base) F24 T
  have G23 := ok_bad (P := l.prog) (w := w) (base := base) F23 T ⟨_, _, G11, m11, F11.kp, b11⟩ ⟨_, _, G22, m22, F22.kp, b22⟩
  have ER : ErrC K mg Ct Co Cn := ⟨PySem.W.mg_of X G EI.gt, PySem.W.mg_of X G EI.gn, EI.exm, EI.is, kit_self, EI.no, ⟨EI.is.hg, EI.is.hk, EI.is.hs, EI.is.hd⟩, EI.nm⟩
  have G21 := ok_told (P := l.prog) (w := w) (base := base) F21 T TI.cls MK GI gT bd1 J0 tm0 tb0 gO ER
  have TMM : TreeM l.prog w K mg base C Co := ⟨TI.cls, gT, fi, e0, _, ds0, MK, GI, bd1, bd0, vd0, he0⟩
  exact ok_law F25 T TMM ⟨_, _, G10, m10, F10.kp, b10⟩ ⟨_, _, G11, m11, F11.kp, b11⟩ ⟨_, _, G12, m12, F12.kp, b12⟩ ⟨_, _, G17, m17, F17.kp, b17⟩ ⟨_, _, G18, m18, F18.kp, b18⟩ ⟨_, _, G23, m23, F23.kp, b23⟩ ⟨_, _, G20, m20, F20.kp, b20⟩ ⟨_, _, G24, m24, F24.kp, b24⟩ ⟨_, _, G21, m21, F21.kp, b21⟩ ⟨_, _, G15, m15, F15.kp, b15⟩ ⟨_, _, G19, m19, F19.kp, b19⟩ ⟨_, _, J0, tm0, tb0⟩ ⟨_, _, J1, tm1, tb1⟩ ⟨_, _, J2, tm2, tb2⟩ ⟨_, _, J3, tm3, tb3⟩ ⟨_, _, J4, tm4, tb4⟩ ⟨_, _, J5, tm5, tb5⟩ ⟨_, _, J6, tm6, tb6⟩
end K02

open PySem PySem.W PyProof.Rows
set_option maxRecDepth 100000 in
set_option maxHeartbeats 0 in
theorem PySem.Challenge.cw_sameanswers_k02_trees_holds : PySem.Challenge.rw_sameanswers_k02_trees.Holds := by
  w_on; o_law; k_head; (case hw => w_witness2)
  k_fill
  refine Ga.walk_G (l := PySem.Challenge.rw_sameanswers_k02_trees) (n := 63) (k := 9) (x := "script") (sp := fun w => K02.spLaw _) rfl (by decide) rfl ⟨rfl, by decide, by decide⟩ (fun w h Y => PySem.W.kIn_of Y) ?F (fun _ _ a ns hl _ hS => ⟨a, ns, rfl, hS, hl, fun _ => rfl⟩)
  case F =>
    intro w mg fa h KX G hmg
    refine K02.all_mk KX G hmg ?O
    constructor
    · refine' ⟨_, K02.TreeIn.mk ?a ⟨⟨?pg, ?hd, ?po, ?sa⟩, ?nt⟩ ?mk ?kp ?ini ?m0 ?m1 ?m2 ?m3 ?m4 ?m5 ?m6⟩
      (case a => k_is)
      (case pg => k_is)
      (case hd => k_is)
      (case po => k_is)
      (case sa => k_is)
      (case nt => unfold L2.NoAttr; k_is)
      (case mk => k_is)
      (case kp => k_is)
      case ini =>
        refine' K02.initIn ?a ?i ?k ?l ?c ?t ?e
        (case a => k_is)
        (case l => k_is)
        (case i => k_is)
        (case k => k_is)
        (case c => k_is)
        (case t => k_is)
        (case e => k_is)
      case m0 =>
        refine' K02.mthIn ?a ?i ?k ?l ?c
        (case a => k_is)
        (case l => k_is)
        (case i => k_is)
        (case k => k_is)
        (case c => k_is)
      case m1 =>
        refine' K02.mthIn ?a ?i ?k ?l ?c
        (case a => k_is)
        (case l => k_is)
        (case i => k_is)
        (case k => k_is)
        (case c => k_is)
      case m2 =>
        refine' K02.mthIn ?a ?i ?k ?l ?c
        (case a => k_is)
        (case l => k_is)
        (case i => k_is)
        (case k => k_is)
        (case c => k_is)
      case m3 =>
        refine' K02.mthIn ?a ?i ?k ?l ?c
        (case a => k_is)
        (case l => k_is)
        (case i => k_is)
        (case k => k_is)
        (case c => k_is)
      case m4 =>
        refine' K02.mthIn ?a ?i ?k ?l ?c
        (case a => k_is)
        (case l => k_is)
        (case i => k_is)
        (case k => k_is)
        (case c => k_is)
      case m5 =>
        refine' K02.mthIn ?a ?i ?k ?l ?c
        (case a => k_is)
        (case l => k_is)
        (case i => k_is)
        (case k => k_is)
        (case c => k_is)
      case m6 =>
        refine' K02.mthIn ?a ?i ?k ?l ?c
        (case a => k_is)
        (case l => k_is)
        (case i => k_is)
        (case k => k_is)
        (case c => k_is)
    · refine' ⟨_, _, _, K02.ErrIn.mk ?go ?gt ?gn ?sc ⟨?hg, ?hk, ?hs, ?hd, ?ha, ?hn, ?ht, ?hm⟩ (PySem.W.exm_ref ?x1 ?x2 ?x3 ?x4) (K02.kit_ref ?y1 ?y2 ?y3 ?y4) ?nm ?ini ?sup ?top⟩
      (case go => k_is)
      (case gt => k_is)
      (case gn => k_is)
      case sc =>
        refine' K02.oexIn ?xL ?vb ?sa ?ex ?ty ?kp ?se ?su ?ve ?an
        (case xL => k_is)
        (case vb => first | rfl | decide | k_is)
        (case sa => k_is)
        (case ex => k_is)
        (case ty => k_is)
        (case kp => k_is)
        (case se => k_is)
        (case su => first | ks_is | k_is)
        (case ve => k_is)
        (case an => k_is)
      (case hg => k_is)
      (case hk => k_is)
      (case hs => k_is)
      (case hd => k_is)
      (case ha => k_is)
      (case hn => k_is)
      (case ht => k_is)
      (case hm => k_is)
      (case x1 => k_is)
      (case x2 => k_is)
      (case x3 => k_is)
      (case x4 => k_is)
      (case y1 => decide)
      (case y2 => k_is)
      (case y3 => k_is)
      (case y4 => k_is)
      (case nm => k_is)
      case ini =>
        refine' K02.supIn ?i ?t ?l ?h ?lc ?v2 ?hf ?ce
        (case i => k_is)
        (case l => k_is)
        (case t => k_is)
        (case h => k_is)
        (case lc => k_is)
        (case v2 => first | rfl | k_is)
        (case hf => first | rfl | decide +kernel | k_is)
        (case ce => k_is)
      (case sup => k_is)
      (case top => first | rfl | decide +kernel | k_is)
    · refine' K02.fnIn ?a ?l ?c ?k
      (case a => k_is)
      (case l => k_is)
      (case c => k_is)
      (case k => k_is)
    · refine' K02.fnIn ?a ?l ?c ?k
      (case a => k_is)
      (case l => k_is)
      (case c => k_is)
      (case k => k_is)
    · refine' K02.fnIn ?a ?l ?c ?k
      (case a => k_is)
      (case l => k_is)
      (case c => k_is)
      (case k => k_is)
    · refine' K02.fnIn ?a ?l ?c ?k
      (case a => k_is)
      (case l => k_is)
      (case c => k_is)
      (case k => k_is)
    · refine' K02.fnIn ?a ?l ?c ?k
      (case a => k_is)
      (case l => k_is)
      (case c => k_is)
      (case k => k_is)
    · refine' K02.fnIn ?a ?l ?c ?k
      (case a => k_is)
      (case l => k_is)
      (case c => k_is)
      (case k => k_is)
    · refine' K02.fnIn ?a ?l ?c ?k
      (case a => k_is)
      (case l => k_is)
      (case c => k_is)
      (case k => k_is)
    · refine' K02.fnIn ?a ?l ?c ?k
      (case a => k_is)
      (case l => k_is)
      (case c => k_is)
      (case k => k_is)
    · refine' K02.fnIn ?a ?l ?c ?k
      (case a => k_is)
      (case l => k_is)
      (case c => k_is)
      (case k => k_is)
    · refine' K02.fnIn ?a ?l ?c ?k
      (case a => k_is)
      (case l => k_is)
      (case c => k_is)
      (case k => k_is)
    · refine' K02.fnIn ?a ?l ?c ?k
      (case a => k_is)
      (case l => k_is)
      (case c => k_is)
      (case k => k_is)
    · refine' K02.fnIn ?a ?l ?c ?k
      (case a => k_is)
      (case l => k_is)
      (case c => k_is)
      (case k => k_is)
    · refine' K02.fnIn ?a ?l ?c ?k
      (case a => k_is)
      (case l => k_is)
      (case c => k_is)
      (case k => k_is)
    · refine' K02.fnIn ?a ?l ?c ?k
      (case a => k_is)
      (case l => k_is)
      (case c => k_is)
      (case k => k_is)
    · refine' K02.fnIn ?a ?l ?c ?k
      (case a => k_is)
      (case l => k_is)
      (case c => k_is)
      (case k => k_is)
    · refine' K02.fnIn ?a ?l ?c ?k
      (case a => k_is)
      (case l => k_is)
      (case c => k_is)
      (case k => k_is)
    · refine' K02.fnIn ?a ?l ?c ?k
      (case a => k_is)
      (case l => k_is)
      (case c => k_is)
      (case k => k_is)
    · refine' K02.fnIn ?a ?l ?c ?k
      (case a => k_is)
      (case l => k_is)
      (case c => k_is)
      (case k => k_is)
    · refine' K02.fnIn ?a ?l ?c ?k
      (case a => k_is)
      (case l => k_is)
      (case c => k_is)
      (case k => k_is)
    · refine' K02.fnIn ?a ?l ?c ?k
      (case a => k_is)
      (case l => k_is)
      (case c => k_is)
      (case k => k_is)
    · refine' K02.fnIn ?a ?l ?c ?k
      (case a => k_is)
      (case l => k_is)
      (case c => k_is)
      (case k => k_is)
    · refine' K02.fnIn ?a ?l ?c ?k
      (case a => k_is)
      (case l => k_is)
      (case c => k_is)
      (case k => k_is)
    · refine' K02.fnIn ?a ?l ?c ?k
      (case a => k_is)
      (case l => k_is)
      (case c => k_is)
      (case k => k_is)
    · refine' K02.fnIn ?a ?l ?c ?k
      (case a => k_is)
      (case l => k_is)
      (case c => k_is)
      (case k => k_is)
    · refine' K02.fnIn ?a ?l ?c ?k
      (case a => k_is)
      (case l => k_is)
      (case c => k_is)
      (case k => k_is)
    · refine' K02.fnIn ?a ?l ?c ?k
      (case a => k_is)
      (case l => k_is)
      (case c => k_is)
      (case k => k_is)
    · refine' K02.intIn ?z
      (case z => k_is)
    · refine' K02.intIn ?z
      (case z => k_is)
    · refine' K02.intIn ?z
      (case z => k_is)
    · refine' K02.intIn ?z
      (case z => k_is)
    · refine' K02.strIn ?z
      (case z => k_is)
    · refine' K02.intIn ?z
      (case z => k_is)
    · refine' K02.intIn ?z
      (case z => k_is)
    · k_is
    · k_is
    · k_is
    · k_is
    · k_is
    · k_is
    · k_is
    · k_is
    · k_is
    · k_is
    · k_is
    · k_is
    · k_is
    · k_is
    · k_is
    · k_is
    · k_is
    · k_is
    · k_is
    · k_is
    · k_is
    · k_is
