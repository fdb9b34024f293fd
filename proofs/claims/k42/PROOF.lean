import PyProof.Rows.All
import Wide.All
import OpenK.AllK
import Wide.FinOn
import HandS.ForMost
import HandS.Walk
import HandS.TupMul
import HandS.Strs
import HandS.DictComp
import HandS.More
import HandS.Iter
import HandS.TupLen
import HandS.TupAny
import HandS.Exc
import HandS.SortOrd
import HandS.SortRule
import KE.KExcSuper
import HandS.ExcInit
import HandS.ExcIs
import HandS.ExcOwn
import HandS.Nested
import HandS.FStr
import HandS.Defaults
import KE.KExcIs
import HandS.ExcField
import HandS.Style
import HandS.DeepEq
import HandS.WordsExc
import HandS.WordsDict
import HandS.CallLocal
import HandS.Star
import KE.KUnpackStar
import HandS.IsInst
import HandS.Codes
import HandS.TryMany
import KE.GoesEnum
import PySem.Challenge.RW_sameanswers_k42_cut_on_schedule
set_option Elab.async false
set_option linter.all false
set_option maxRecDepth 100000
set_option maxHeartbeats 4000000
/-! Ga: defs that are called where no repr is under way (the guards are known to be none), and repr of data. -/
namespace Ga
open PySem PySem.Spec PyProof.Rows L2

/-- one call of a def by its body, at one place -/
theorem body_run {CX : CXT} {P : Program} {w : World} {K : PySem.W.Frag} {mg : Str → Option Value} {base : Heap} {k : Nat}
    {f : Addr} {name qual : Str} {params : Arguments} {body : List Stmt} {scope : Scope} {dV kV doc pm cdv ct oc : Value}
    {an od : Option Addr} {osl : Array (Option Value)} {N ps : List Str} {A : Around} {outer : List Env} {s : Shared} {H : Hp}
    {args : Args} {us : List Value} {vs : List V} {Q : VK} {E : XK} {t : TS}
    (lk : K.lookup f = some ⟨oc, od, .func (PySem.W.fnOf name qual params body scope dV kV doc pm an cdv ct), osl⟩)
    (hcd : PySem.W.codeIn K cdv qual = true) (S : FnScope N ps scope) (hl : vs.length = ps.length) (hr : Room (k + 1) A)
    (e0 : Env0 P w K mg base A outer s H) (hb : BindsTo s (PySem.W.fnOf name qual params body scope dV kV doc pm an cdv ct) args (ps.zip us))
    (r : Vals vs us) (ht : PSs (cxOf CX P w K mg base N qual scope f cdv A outer s H E) body t)
    (hq : t { nx := fun _ H' => Q .non H', rt := Q } (start N vs) H) :
    codeAny (model P w) A (.call (.ref f) args) (CR CX outer P w H s Q E) s := by
  have keep : ∀ b o, base.get? b = some o → s.heap.get? b = some o := fun b o e => (e0.bs b o e).1
  have KX := e0.mod.kin.keeps keep
  have lim := e0.mod.nolimit.keeps keep
  have kinds : ∀ y ∈ ps.zip us, scope.names.lookup y.1 = some .local ∨
      (scope.names.lookup y.1 = some .cell ∧ ((cellsFrom (s.heap.objs.size + 1) scope.names []).lookup y.1).isSome = true) := by
    rintro ⟨n, v⟩ hy
    rcases S.par n (List.of_mem_zip hy).1 with q | q
    · exact Or.inl q
    · exact Or.inr ⟨q, PySem.W.cellsFrom_some _ _ _ (Or.inl q)⟩
  apply codeAny_call_function hr.depth (KX _ _ lk) rfl S.co S.gen rfl (PySem.W.codeRec_of KX hcd)
  apply hb
  apply wpAny_newFunctionEnv_cells S.kind kinds
  rintro env rfl s1 x
  refine ⟨lim.keeps x.toInCall.keep, codeAny_func ?_⟩
  have I := inv_start (CX := CX) (E := E) (cd := cdv) (qual := qual) (f := f) S hr.hd e0 hl r x
  apply wpAny_mono (ht.run [] s1 (start N vs) H _ I hq)
  · intro fl s' hs
    cases fl with
    | ret u =>
      obtain ⟨v, σ', H', J, rv, q⟩ := hs
      exact ⟨v, H', J.os, J.bare, J.base, J.hok, rv, q⟩
    | next =>
      obtain ⟨σ', H', J, q⟩ := hs
      exact ⟨V.non, H', J.os, J.bare, J.base, J.hok, rfl, q⟩
    | brk =>
      obtain ⟨_, _, _, q⟩ := hs
      exact q.elim
    | cont =>
      obtain ⟨_, _, _, q⟩ := hs
      exact q.elim
  · exact fun e s' hs => hs

/-- a def's promise where the guards are none -/
structure FnG (P : Program) (w : World) (K : PySem.W.Frag) (mg : Str → Option Value) (base : Heap) (CX : CXT) (k : Nat) (f : Addr)
    (fd : FuncData) (ps : List Str) (sp : Sp) : Prop where
  len : ∀ vs H Q E, sp vs H Q E → vs.length = ps.length
  run : ∀ (A : Around), A.guards = some [] → ∀ (outer : List Env) (s : Shared) (H : Hp) (args : Args) (us : List Value) (vs : List V)
    (Q : VK) (E : XK), Room k A → Env0 P w K mg base A outer s H → BindsTo s fd args (ps.zip us) → Vals vs us → sp vs H Q E →
    codeAny (model P w) A (.call (.ref f) args) (CR CX outer P w H s Q E) s

section
variable {P : Program} {w : World} {K : PySem.W.Frag} {mg : Str → Option Value} {base : Heap}
theorem FnG.of {CX : CXT} {k : Nat} {f : Addr} {fd : FuncData} {ps : List Str} {sp : Sp} (F : FnOk P w K mg base CX k f fd ps sp) :
    FnG P w K mg base CX k f fd ps sp := ⟨F.len, fun A _ => F.run A⟩
/-- the rule for such a def, no exception leaves it -/
theorem okG {x qual : Str} {st : Stmt} {f : Addr} {fd : FuncData} {N ps : List Str} {k : Nat} {sp : Sp} (F : Fun K x qual st f fd)
    (S : FnScope N ps (defScope st)) (len : ∀ vs H Q E, sp vs H Q E → vs.length = ps.length)
    (hbody : ∀ (cdv : Value) (A : Around), A.guards = some [] → ∀ (outer : List Env) (s : Shared) (H : Hp) (vs : List V) (Q : VK) (E : XK),
      Room k (A.deeper (envOfC qual (defScope st) s.heap.objs.size f cdv)) → sp vs H Q E →
      ∃ t, PSs (cxOf CX0 P w K mg base N qual (defScope st) f cdv A outer s H E).nox (defBody st) t ∧
        t { nx := fun _ H' => Q .non H', rt := Q } (start N vs) H) :
    FnG P w K mg base CX0 (k + 1) f fd ps sp := by
  obtain ⟨oc, od, kV, doc, pm, an, cdv, ct, osl, rfl, lk, hcd⟩ := F.ex
  refine ⟨len, fun A hg outer s H args us vs Q E hr e0 hb r hsp => ?_⟩
  obtain ⟨t, h, q⟩ := hbody cdv A hg outer s H vs Q E (hr.deeper _) hsp
  exact body_run lk hcd S (len _ _ _ _ hsp) hr e0 hb r h.nox q
end

section
variable {X : Cx} {CX : CXT} {k : Nat} {f : Addr} {fd : FuncData} {ps : List Str} {sp : Sp} {dvs : List V} {ds : List Value} {E : XK}
  {x : Str} {p pos : Pos} {e : Expr} {es : List Expr} {t : TA}
/-- a call of such a def -/
theorem pe_callG (hgd : X.A.guards = some []) (F : FnG X.prog X.w X.K X.mg X.base CX k f fd ps sp) (hr : Room k X.A) (hg : Gl X x)
    (hm : X.mg x = some (.ref f)) (hk : PySem.W.keepIn X.K (.ref f) = true) (hb : Binds X.K fd ps ds) (hd : Vals dvs ds)
    (hx : Passes CX X E) (ha : PA X (e :: es) t) (hdb : (x == ("__debug__" : Str)) = false := by decide)
    (he : starEach (e :: es) X.env = (false, eval e X.env) :: starEach es X.env := by rfl)
    (hpl : (backTo pos (starEach es X.env)).any (·.1) = false := by rfl) :
    PE X (.Call (.Name x p) (e :: es) [] pos) (tCall sp dvs E t) := by
  refine ⟨fun pins s σ H Q I h => wpAny_Call_Name_kw (ld_glob I hg hm ?_ hdb)⟩
  refine PySem.W.callWith_K (h₀ := X.base) I.ok.mod.kin hk ?_ he hpl
  refine thn (ha.run pos pins s σ H _ I h) ?_
  rintro us s1 ⟨vs, H1, J, r, q⟩
  have r2 := r.append hd
  have hl : (us ++ ds).length = ps.length := r2.length.symm.trans (F.len _ _ _ _ q)
  refine ⟨J.kIn, wpAny_call (codeAny_mono (F.run X.A hgd X.stack s1 H1 ⟨us, []⟩ _ _ Q E hr J.env0 (hb s1 us J.kIn hl) r2 q) ?_)⟩
  rintro (e | fl) s' hq
  · exact hx pins σ H1 s1 e s' J hq
  · cases fl with
    | ret u => exact J.after hq
    | next => exact hq.elim
    | brk => exact hq.elim
    | cont => exact hq.elim
end

/-! ### repr of data -/
def rRepr (K : PySem.W.Frag) : List V → Hp → VK → Prop := fun xs H Q => ∃ x d, xs = [x] ∧ Dp K H x d ∧ d.showable = true ∧ d.hasDict = false ∧
  d.depth ≤ 40 ∧ d.shown.length ≤ sizeLine ∧ Q (.str d.shown) H
theorem call_reprD {X : Cx} (hgd : X.A.guards = some []) (hu : X.A.units + 64 < cLine) : CallR X (.builtin "repr") (rRepr X.K) := by
  intro pins s σ H xs us Q I r h
  obtain ⟨x, d, rfl, hd, h1, h2, h3, h4, q⟩ := h
  obtain ⟨u, rfl, ru⟩ := vals1 r
  obtain ⟨as, rd⟩ := Dp.reads I d x u hd ru
  cases hd with
  | non =>
    cases ru
    exact PySem.P.repr_of_none ⟨.str _, H, I.tok _, ⟨_, rfl⟩, q⟩
  | bl b =>
    cases ru
    exact PySem.P.repr_of_bool ⟨.str _, H, I.tok _, ⟨_, rfl⟩, q⟩
  | int i =>
    obtain ⟨t, rfl⟩ := ru
    exact PySem.P.repr_of_int (by simpa [PyData.showable] using h1) ⟨.str _, H, I.tok _, ⟨_, rfl⟩, q⟩
  | str z =>
    obtain ⟨t, rfl⟩ := ru
    exact PySem.P.repr_of_str ⟨.str _, H, I.tok _, ⟨_, rfl⟩, q⟩ h4
  | lst hs ha =>
    cases ru
    exact repr_of_reads' rd h1 (fun z => absurd (z.symm.trans h2) (by decide)) hgd (by omega) (fun _ _ e => e)
      (fun h' u tk kp => ⟨.str _, H, I.kept kp, ⟨_, rfl⟩, q⟩) h4
  | tup hs ha =>
    cases ru
    exact repr_of_reads' rd h1 (fun z => absurd (z.symm.trans h2) (by decide)) hgd (by omega) (fun _ _ e => e)
      (fun h' u tk kp => ⟨.str _, H, I.kept kp, ⟨_, rfl⟩, q⟩) h4

end Ga

set_option maxRecDepth 100000
set_option maxHeartbeats 4000000
namespace Ga
open PySem PySem.Spec PyProof.Rows L2

/-- the law's call behind the top, from an abstract heap that tracks the script at most -/
theorem call_at {P : Program} {w : World} {K : PySem.W.Frag} {mg mb : Str → Option Value} {k : Nat} {fa a : Addr} {fd : FuncData} {x : Str}
    {sp : Sp} {s1 : Shared} {vs : List Value} {H : Hp} (KX : K.In s1.heap) (hns : s1.heap.Ns mainGlobals mg)
    (hb : s1.heap.Ns builtinsNs mb) (hbb : ∀ x : Str, x ≠ "__name__" → mb x = bootBuiltins x) (hlim : s1.heap.NoLimit) (hg : s1.gens = #[])
    (ha : s1.heap.get? a = some { cls := .type "list", data := .seq vs.toArray }) (hr : Room k callerA)
    (F : ∀ base : Heap, K.In base → base.Ns mainGlobals mg → FnG P w K mg base CX0 k fa fd [x] sp)
    (hbind : ∀ (s : Shared) (u : Value), BindsTo s fd ⟨[u], []⟩ [(x, u)])
    (hsp : sp [.ref a] H (fun v _ => v = .bl true) E0) (hO : Only H) (hok : HOk P w H s1.heap)
    (hA : ∀ b u, H b = some u → b = a ∧ K.lookup a = none) :
    codeAny (model P w) callerA (.call (.ref fa) ⟨[.ref a], []⟩)
      (fun r s' => r = .ok (.ret (.bool true)) ∧ OldK s1.heap s'.heap ∧ s'.os = s1.os ∧ AllBare s'.gens) s1 := by
  have other : ∀ {b : Addr} {o : Obj}, s1.heap.get? b = some o → (b = a → False) → (hidT s1.heap H).get? b = some o := by
    intro b o e n
    apply hidT_get e
    cases q : H b with
    | none => rfl
    | some u => exact (n (hA b u q).1).elim
  have spaces : ∀ {b : Addr} {m : Str → Option Value}, s1.heap.Ns b m → (hidT s1.heap H).Ns b m := by
    rintro b m ⟨o, es, ep, e, d, r⟩
    refine ⟨o, es, ep, other e fun z => ?_, d, r⟩
    subst z
    rw [ha] at e
    cases e
    cases d
  have hK : K.In (hidT s1.heap H) := by
    intro b o e
    apply hidT_get (KX b o e)
    cases q : H b with
    | none => rfl
    | some u =>
      obtain ⟨z, n⟩ := hA b u q
      subst z
      rw [n] at e
      cases e
  obtain ⟨mc, c1, c2⟩ := hlim
  have M : Mod K mg (hidT s1.heap H) := ⟨hK, spaces hns, ⟨mb, spaces hb, hbb⟩, mc, spaces c1, c2⟩
  have e0 : Env0 P w K mg (hidT s1.heap H) callerA [] s1 H :=
    { frames := rfl, mod := M, bs := fun b o => of_hidT, bsz := Nat.le_of_eq (hidT_size _ _), funs := trivial, frf := fun b z => (List.not_mem_nil z).elim,
      hok := hok, bare := .of_eq hg }
  have R := (F _ hK (spaces hns)).run callerA rfl [] s1 H ⟨[.ref a], []⟩ [.ref a] [.ref a] _ E0 hr e0 (hbind s1 _) (Paired.cons rfl .nil) hsp
  apply codeAny_mono R
  rintro (e | fl) s' h
  · exact h.elim
  · cases fl with
    | next => exact h.elim
    | brk => exact h.elim
    | cont => exact h.elim
    | ret u =>
      obtain ⟨v, H', os, bare, un, ok2, rv, rfl⟩ := h
      cases rv
      refine ⟨rfl, .of_keep fun b o e => ?_, os, bare⟩
      rcases hO b with n | ⟨ob, xs, y⟩
      · exact un.keep b o e n List.not_mem_nil List.not_mem_nil
      · have g1 := (hok b _ y).1
        have g2 := (ok2 b _ (un.frzs b ob _ y)).1
        rw [e] at g1
        cases g1
        exact g2

/-- what k_head leaves, from the promise of the law's def -/
theorem walk_G {l : PySem.W.OpenLaw} {n k : Nat} {q : Program} {loose : List Str} {XP : (Str → Option Value) → Heap → Prop}
    {YP : World → Heap → Prop} {d : DefRec} {K : Params → PySem.W.Frag} {sp : World → Sp} {x : Str}
    (hn : l.most = some n) (hz : n ≤ sizeLine) (hdf : d.params.defaults = []) (hr : Room k callerA)
    (hY : ∀ (w : World) (h : Heap), YP w h → (K w.params).In h)
    (F : ∀ (w : World) (mg : Str → Option Value) (fa : Addr) (h : Heap), (K w.params).In h → h.Ns mainGlobals mg → mg d.name = some (.ref fa) →
      ∃ fd : FuncData, (∀ (s : Shared) (u : Value), BindsTo s fd ⟨[u], []⟩ [(x, u)]) ∧ ∀ base : Heap, (K w.params).In base →
        base.Ns mainGlobals mg → FnG l.prog w (K w.params) mg base CX0 k fa fd [x] (sp w))
    (hsp : ∀ (w : World) (H : Hp) (a : Addr) (ns : List Int), ns.length ≤ n → Only H → SqL (K w.params) H a (ns.map V.int) →
      sp w [.ref a] H (fun v _ => v = .bl true) E0) :
    PySem.W.WalkO q loose XP YP l.row.toRowW d [] (fun f vs => PySem.call f vs) := by
  apply Att.attach_call hn hdf
  intro w s0 s1 mg mb fa o pm cd doc a vs ns G Y ho hd hcd hmg hobj hi hlen hg
  have KX := hY w _ Y
  obtain ⟨fd, hb, hF⟩ := F w mg fa _ KX G.T.g hmg
  have rv := vals_ints hi
  have hm : (ns.map V.int).length ≤ sizeLine := by rw [List.length_map]; omega
  cases hk : (K w.params).lookup a with
  | some ob =>
    have e := KX a ob hk
    rw [hobj] at e
    cases e
    refine call_at (H := fun _ => none) KX G.T.g G.T.b G.T.builtins G.T.nolimit hg hobj hr hF hb ?_ (fun _ => Or.inl rfl) (fun b u z => nomatch z) (fun b u z => nomatch z)
    refine hsp w _ a ns hlen (fun _ => Or.inl rfl) (Or.inr ⟨_, vs.toArray, _, hk, rfl, rfl, rfl, ?_, ?_⟩)
    · rw [List.size_toArray, hi.length]; omega
    · simpa using rv
  | none =>
    let ob : Obj := { cls := .type "list", data := .seq vs.toArray }
    let H : Hp := fun b => if b = a then some (.frz ob (.lst (ns.map V.int))) else none
    have at_a : ∀ b u, H b = some u → b = a ∧ u = .frz ob (.lst (ns.map V.int)) := by
      intro b u z
      by_cases hb : b = a
      · have z2 := (if_pos hb).symm.trans z
        cases z2
        exact ⟨hb, rfl⟩
      · have z2 := (if_neg hb).symm.trans z
        cases z2
    have only : Only H := by
      intro b
      by_cases hb : b = a
      · exact Or.inr ⟨ob, ns.map V.int, if_pos hb⟩
      · exact Or.inl (if_neg hb)
    refine call_at (H := H) KX G.T.g G.T.b G.T.builtins G.T.nolimit hg hobj hr hF hb ?_ only ?_ fun b u z => ⟨(at_a b u z).1, hk⟩
    · exact hsp w H a ns hlen only (Or.inl (Or.inr ⟨ob, if_pos rfl⟩))
    · intro b u z
      obtain ⟨rfl, rfl⟩ := at_a b u z
      exact ⟨hobj, hm, vs, _, rv, hobj⟩
end Ga

set_option maxRecDepth 100000
set_option maxHeartbeats 4000000
namespace Ga
open PySem PySem.Spec PyProof.Rows L2 TL

theorem same_upd {H : Hp} {p : Addr} {o : HO} (h : H p = none) : Same H (upd H p o) := fun b x e => by
  rw [upd_ne (ne_of_none e h)]; exact e
theorem _root_.L2.Same.mut {H H' : Hp} {p : Addr} {o : HO} (s : Same H H') (h : H p = none) : Same H (upd H' p o) := fun b x e => by
  rw [upd_ne (ne_of_none e h)]; exact s b x e
theorem _root_.L2.Same.lst {H H' : Hp} {p : Addr} {xs : List V} (s : Same H H') (h : H p = some (.lst xs)) : H' p = some (.lst xs) := s _ _ h
theorem _root_.L2.Same.seqT {K : PySem.W.Frag} {H H' : Hp} {a : Addr} {xs : List V} (e : Same H H') (h : SqT K H a xs) : SqT K H' a xs := by
  rcases h with (h | ⟨o, h⟩) | h
  · exact .inl (.inl (e _ _ h))
  · exact .inl (.inr ⟨o, e _ _ h⟩)
  · exact .inr h
theorem sqL {K : PySem.W.Frag} {H : Hp} {a : Addr} {xs : List V} (h : H a = some (.lst xs)) : SqL K H a xs := .inl (.inl h)
theorem sqT {K : PySem.W.Frag} {H : Hp} {a : Addr} {xs : List V} (h : H a = some (.tup xs)) : SqT K H a xs := .inl (.inl h)
theorem wipe_set (σ : L2.St) (i : Nat) (v : Option V) : wipe ((wipe σ [i]).set i v) [i] = wipe σ [i] := by
  show ((σ.set i none).set i v).set i none = σ.set i none
  rw [List.set_set, List.set_set]
theorem size_tl (z : Str) : z.cps.size = (tl z).length := by simp [tl]
theorem get_tl {z : Str} {i c : Nat} (h : z.cps[i]? = some c) : (tl z)[i]? = some c := by simpa [tl] using h
theorem take_map_succ {α : Type} {f : α → V} {l : List α} {i : Nat} {c : α} (h : l[i]? = some c) : (l.take (i + 1)).map f = (l.take i).map f ++ [f c] := by
  rw [List.take_add_one, h, List.map_append]; rfl

section
variable {K : PySem.W.Frag} {σ : L2.St} {H : Hp} {Q : VK} {te ta tb : TE}
/-- a comprehension [e for c in text] whose element is a value of the sign -/
theorem lc_str {z : Str} {i j : Nat} {f : Nat → V} (hz : (tl z).length ≤ 100000) (hj : σ[j]? = some (some (.str z)))
    (he : ∀ c ∈ tl z, ∀ (H2 : Hp) (R : VK), Same H H2 → (∀ H3, Same H2 H3 → R (f c) H3) → te ((wipe σ [i]).set i (some (.str ⟨#[c]⟩))) H2 R)
    (hq : ∀ D H', Same H H' → H D = none → H' D = some (.lst ((tl z).map f)) → Q (.ref D) H') :
    tLc (iStr (tVar j)) (gName i) tYes te [i] σ H Q := by
  refine ⟨_, hj, z, rfl, fun D nD => ?_⟩
  refine lc_it (walk_str (z := z)) (fun m H' => Same H H' ∧ H' D = some (.lst (((tl z).take m).map f))) ⟨same_upd nD, upd_same⟩ (fun _ _ _ _ => trivial) ?_ ?_
  · rintro m x H2 H3 hm ⟨s, d⟩ ⟨rfl, c, hc, rfl⟩
    have hg := get_tl hc
    refine ⟨wipe_set _ _ _, ?_⟩
    dsimp only [tYes]
    rw [if_pos rfl]
    refine he c (List.mem_of_getElem? hg) _ _ s fun H4 s4 => ?_
    refine ⟨_, s4 _ _ d, ?_, (s.trans s4).mut nD, ?_⟩
    · rw [List.length_map, List.length_take]
      exact Nat.lt_of_le_of_lt (Nat.le_trans (Nat.min_le_right _ _) hz) (by decide)
    · rw [upd_same, take_map_succ hg]
  · rintro H2 ⟨s, d⟩
    rw [size_tl, List.take_length] at d
    exact hq D _ s nD d
/-- the same over a list, a tuple -/
theorem lc_seq {xs : List V} {i : Nat} {f : V → V} {J : It} (w : Walk J xs.length (fun H' => Same H H') (YAt xs)) (hz : xs.length ≤ 100000)
    (he : ∀ c ∈ xs, ∀ (H2 : Hp) (R : VK), Same H H2 → (∀ H3, Same H2 H3 → R (f c) H3) → te ((wipe σ [i]).set i (some c)) H2 R)
    (hq : ∀ D H', Same H H' → H D = none → H' D = some (.lst (xs.map f)) → Q (.ref D) H') (D : Addr) (nD : H D = none) :
    ∃ W : Nat → Nat → Hp → Prop, (∃ m, W 0 m (upd H D (.lst []))) ∧ ∀ i' m H', W i' m H' →
      (J.stop i' H' ∧ Q (.ref D) H') ∨ (J.go i' H' ∧ ∃ Nx : Hp → Prop, (∀ H', Nx H' → ∃ m', m' < m ∧ W (i' + 1) m' H') ∧ ∀ x H2, J.yld i' H' x H2 → gName i x (wipe σ [i]) H2 fun σ2 H2 => wipe σ2 [i] = wipe σ [i] ∧ tYes σ2 H2 fun b H3 =>
        if b = true then te σ2 H3 fun y H4 => ∃ acc, H4 D = some (.lst acc) ∧ acc.length < sizeLine ∧ Nx (upd H4 D (.lst (acc ++ [y]))) else Nx H3) := by
  refine lc_it w (fun m H' => Same H H' ∧ H' D = some (.lst ((xs.take m).map f))) ⟨same_upd nD, upd_same⟩ (fun _ _ _ q => q.1) ?_ ?_
  · rintro m x H2 H3 hm ⟨s, d⟩ ⟨rfl, hg⟩
    refine ⟨wipe_set _ _ _, ?_⟩
    dsimp only [tYes]
    rw [if_pos rfl]
    refine he x (List.mem_of_getElem? hg) _ _ s fun H4 s4 => ?_
    refine ⟨_, s4 _ _ d, ?_, (s.trans s4).mut nD, ?_⟩
    · rw [List.length_map, List.length_take]
      exact Nat.lt_of_le_of_lt (Nat.le_trans (Nat.min_le_right _ _) hz) (by decide)
    · rw [upd_same, take_map_succ hg]
  · rintro H2 ⟨s, d⟩
    rw [List.take_length] at d
    exact hq D _ s nD d
theorem same_walkL {a : Addr} {xs : List V} (h : SqL K H a xs) : Walk (Itl K a) xs.length (fun H' => Same H H') (YAt xs) :=
  walk_list.mono (fun _ s => s.seq h) fun _ _ _ _ _ _ y => y
theorem same_walkT {a : Addr} {xs : List V} (h : SqT K H a xs) : Walk (Itt K a) xs.length (fun H' => Same H H') (YAt xs) :=
  walk_tup.mono (fun _ s => s.seqT h) fun _ _ _ _ _ _ y => y
/-- all([e for c in text]) -/
theorem all_str {z : Str} {i j : Nat} {p : Nat → Bool} (hz : (tl z).length ≤ 100000) (hj : σ[j]? = some (some (.str z)))
    (he : ∀ c ∈ tl z, ∀ (H2 : Hp) (R : VK), Same H H2 → (∀ H3, Same H2 H3 → R (.bl (p c)) H3) → te ((wipe σ [i]).set i (some (.str ⟨#[c]⟩))) H2 R)
    (hq : ∀ H', Same H H' → Q (.bl ((tl z).all p)) H') :
    tCB (rAll K) (tCons (tLc (iStr (tVar j)) (gName i) tYes te [i]) tNil) σ H Q := by
  show tLc (iStr (tVar j)) (gName i) tYes te [i] σ H fun x H1 => rAll K [x] H1 Q
  refine lc_str (f := fun c => .bl (p c)) hz hj he fun D H' s nD e => ?_
  refine ⟨D, (tl z).map p, rfl, sqL (by rw [e, List.map_map]; rfl), ?_⟩
  rw [List.all_map]
  exact hq _ s
/-- all([e for c in xs]), xs a list or a tuple -/
theorem all_list {a : Addr} {xs : List V} {i : Nat} {p : V → Bool} {tl0 : TE} (hl : ∀ R : VK, R (.ref a) H → tl0 σ H R) (hs : SqL K H a xs) (hz : xs.length ≤ 100000)
    (he : ∀ c ∈ xs, ∀ (H2 : Hp) (R : VK), Same H H2 → (∀ H3, Same H2 H3 → R (.bl (p c)) H3) → te ((wipe σ [i]).set i (some c)) H2 R)
    (hq : ∀ H', Same H H' → Q (.bl (xs.all p)) H') :
    tCB (rAll K) (tCons (tLc (iList K tl0) (gName i) tYes te [i]) tNil) σ H Q := by
  refine hl _ ⟨a, rfl, ⟨xs, hs⟩, fun D nD => ?_⟩
  refine lc_seq (f := fun c => .bl (p c)) (Q := fun x H1 => rAll K [x] H1 Q) (same_walkL hs) hz he (fun D H' s nD e => ?_) D nD
  refine ⟨D, xs.map p, rfl, sqL (by rw [e, List.map_map]; rfl), ?_⟩
  rw [List.all_map]
  exact hq _ s
theorem all_tup {a : Addr} {xs : List V} {i : Nat} {p : V → Bool} {tl0 : TE} (hl : ∀ R : VK, R (.ref a) H → tl0 σ H R) (hs : SqT K H a xs) (hz : xs.length ≤ 100000)
    (he : ∀ c ∈ xs, ∀ (H2 : Hp) (R : VK), Same H H2 → (∀ H3, Same H2 H3 → R (.bl (p c)) H3) → te ((wipe σ [i]).set i (some c)) H2 R)
    (hq : ∀ H', Same H H' → Q (.bl (xs.all p)) H') :
    tCB (rAll K) (tCons (tLc (iTup K tl0) (gName i) tYes te [i]) tNil) σ H Q := by
  refine hl _ ⟨a, rfl, ⟨xs, hs⟩, fun D nD => ?_⟩
  refine lc_seq (f := fun c => .bl (p c)) (Q := fun x H1 => rAll K [x] H1 Q) (same_walkT hs) hz he (fun D H' s nD e => ?_) D nD
  refine ⟨D, xs.map p, rfl, sqL (by rw [e, List.map_map]; rfl), ?_⟩
  rw [List.all_map]
  exact hq _ s
theorem var_is {i : Nat} {v : V} (h : σ[i]? = some (some v)) : ∀ R : VK, R v H → tVar i σ H R := fun R q => ⟨v, h, q⟩
end
end Ga

set_option maxRecDepth 100000
set_option maxHeartbeats 4000000
namespace Ga
open PySem PySem.Spec PyProof.Rows L2 TL
theorem spl_le (S : List Nat) : ∀ (l : List Nat) (k : Nat) (acc p : List Nat), p ∈ spl S k acc l → p.length ≤ acc.length + l.length
  | [], k, acc, p, h => by
    rw [spl_nil] at h
    cases List.mem_singleton.mp h
    exact Nat.le_add_right _ _
  | c :: r, 0, acc, p, h => by
    cases e : pre S (c :: r) with
    | true =>
      rw [spl_hit e] at h
      rcases List.mem_cons.mp h with rfl | h
      · exact Nat.le_add_right _ _
      · have := spl_le S r _ _ p h
        simp at this ⊢
        omega
    | false =>
      rw [spl_miss e] at h
      have := spl_le S r _ _ p h
      simp at this ⊢
      omega
  | c :: r, k + 1, acc, p, h => by
    have := spl_le S r k acc p h
    simp at this ⊢
    omega
theorem spl_len (S : List Nat) : ∀ (l : List Nat) (k : Nat) (acc : List Nat), (spl S k acc l).length ≤ l.length + 1
  | [], k, acc => by rw [spl_nil]; exact Nat.le_refl _
  | c :: r, 0, acc => by
    cases e : pre S (c :: r) with
    | true =>
      rw [spl_hit e]
      have := spl_len S r (S.length - 1) []
      simp
      omega
    | false =>
      rw [spl_miss e]
      have := spl_len S r 0 (acc ++ [c])
      simp
      omega
  | c :: r, k + 1, acc => by
    have := spl_len S r k acc
    show (spl S k acc r).length ≤ _
    simp
    omega
theorem spl_ne (S : List Nat) : ∀ (l : List Nat) (k : Nat) (acc : List Nat), spl S k acc l ≠ []
  | [], k, acc => by rw [spl_nil]; exact List.cons_ne_nil _ _
  | c :: r, 0, acc => by
    cases e : pre S (c :: r) with
    | true => rw [spl_hit e]; exact List.cons_ne_nil _ _
    | false => rw [spl_miss e]; exact spl_ne S r _ _
  | c :: r, k + 1, acc => spl_ne S r k acc
theorem spl_mem (S : List Nat) : ∀ (l : List Nat) (k : Nat) (acc p : List Nat), p ∈ spl S k acc l → ∀ c ∈ p, c ∈ acc ∨ c ∈ l
  | [], k, acc, p, h => by
    rw [spl_nil] at h
    cases List.mem_singleton.mp h
    exact fun c hc => .inl hc
  | d :: r, 0, acc, p, h => by
    cases e : pre S (d :: r) with
    | true =>
      rw [spl_hit e] at h
      rcases List.mem_cons.mp h with rfl | h
      · exact fun c hc => .inl hc
      · intro c hc
        rcases spl_mem S r _ _ p h c hc with h1 | h1
        · cases h1
        · exact .inr (List.mem_cons_of_mem _ h1)
    | false =>
      rw [spl_miss e] at h
      intro c hc
      rcases spl_mem S r _ _ p h c hc with h1 | h1
      · rcases List.mem_append.mp h1 with h2 | h2
        · exact .inl h2
        · cases List.mem_singleton.mp h2
          exact .inr List.mem_cons_self
      · exact .inr (List.mem_cons_of_mem _ h1)
  | d :: r, k + 1, acc, p, h => fun c hc => by
    rcases spl_mem S r k acc p h c hc with h1 | h1
    · exact .inl h1
    · exact .inr (List.mem_cons_of_mem _ h1)
abbrev sl : Str := "/"
theorem tl_sl : tl sl = [47] := by decide +kernel
theorem split_eq (x : Str) : (Txt.split x sl).map tl = spl (tl sl) 0 [] (tl x) := split_spl x sl (by rw [tl_sl]; exact List.cons_ne_nil _ _) (kind_ok (by decide +kernel))
theorem split_le {x p : Str} (h : p ∈ Txt.split x sl) : (tl p).length ≤ (tl x).length := by
  have h2 : tl p ∈ (Txt.split x sl).map tl := List.mem_map_of_mem h
  rw [split_eq] at h2
  have := spl_le _ _ _ _ _ h2
  simp at this
  omega
theorem splitLen (x : Str) : (Txt.split x sl).length ≤ (tl x).length + 1 := by
  have h := congrArg List.length (split_eq x)
  rw [List.length_map] at h
  rw [h]
  exact spl_len _ _ _ _
theorem split_ne (x : Str) : Txt.split x sl ≠ [] := fun e => by
  have h := split_eq x
  rw [e] at h
  exact spl_ne _ _ _ _ h.symm
theorem starts_pre (x y : Str) (hy : tl y ≠ []) : Txt.startswith x y = pre (tl y) (tl x) := by
  have h := at_iff (x := x) (y := y) hy 0
  rw [List.drop_zero] at h
  rw [Bool.eq_iff_iff, ← h]
  unfold Txt.startswith
  rw [Bool.and_eq_true, decide_eq_true_eq]
  exact Iff.rfl
/-- a path lies inside a place -/
def inside (path place : Str) : Bool := decide (place = "") || pre (tl (place ++ sl)) (tl path)
theorem tl_ps (place : Str) : tl (place ++ sl) = tl place ++ [47] := by rw [tl_append, tl_sl]
theorem inside_starts (path place : Str) : Txt.startswith path (place ++ sl) = pre (tl (place ++ sl)) (tl path) :=
  starts_pre _ _ (by rw [tl_ps]; simp)
theorem tl_cut (z : Str) (n : Nat) : tl (cutS z none (some (n : Int))) = (tl z).take n := by
  unfold cutS
  rw [HT.sIx_none, show HT.sIx z.length z.length (some (n : Int)) = min n z.length from HT.sIx_nat z.length z.length n, tl_mk, List.drop_zero, Nat.sub_zero]
  rw [len_tl]
  exact (List.take_eq_take_min).symm
theorem inside_cut (path place : Str) : decide (V.str (cutS path none (some ((place.length : Int) + 1))) = V.str (place ++ sl)) = pre (tl (place ++ sl)) (tl path) := by
  have e1 : ((place.length : Int) + 1) = ((place.length + 1 : Nat) : Int) := by omega
  have e2 : (tl (place ++ sl)).length = place.length + 1 := by rw [tl_ps, List.length_append, ← len_tl]; rfl
  rw [Bool.eq_iff_iff, decide_eq_true_eq, e1]
  unfold pre
  rw [e2, beq_iff_eq, ← tl_cut]
  exact ⟨fun h => by rw [V.str.inj h], fun h => by rw [ext_tl h]⟩
end Ga

set_option maxRecDepth 100000
set_option maxHeartbeats 4000000
namespace Ga
open PySem PySem.Spec PyProof.Rows L2 TL
/-- all but the object at B stays -/
def Kp (B : Addr) (H H' : Hp) : Prop := ∀ b o, b ≠ B → H b = some o → H' b = some o
theorem Kp.refl (B : Addr) (H : Hp) : Kp B H H := fun _ _ _ h => h
theorem Kp.trans {B : Addr} {H H1 H2 : Hp} (a : Kp B H H1) (b : Kp B H1 H2) : Kp B H H2 := fun c o n h => b c o n (a c o n h)
theorem Kp.same {B : Addr} {H H1 : Hp} (a : Same H H1) : Kp B H H1 := fun c o _ h => a c o h
theorem Kp.new {B l : Addr} {H H1 : Hp} {o : HO} (h : H l = none) (a : Kp B (upd H l o) H1) : Kp B H H1 := fun c u n e =>
  a c u n (by rw [upd_ne (ne_of_none e h)]; exact e)
theorem Kp.back {B l : Addr} {H H1 : Hp} {o : HO} (a : Kp B H H1) (h : H l = none) : Kp B H (upd H1 l o) := fun c u n e => by
  rw [upd_ne (ne_of_none e h)]; exact a c u n e
theorem Kp.seqL {K : PySem.W.Frag} {B a : Addr} {H H' : Hp} {xs : List V} (k : Kp B H H') (n : a ≠ B) (h : SqL K H a xs) : SqL K H' a xs := by
  rcases h with (h | ⟨o, h⟩) | h
  · exact .inl (.inl (k _ _ n h))
  · exact .inl (.inr ⟨o, k _ _ n h⟩)
  · exact .inr h
theorem Kp.seqT {K : PySem.W.Frag} {B a : Addr} {H H' : Hp} {xs : List V} (k : Kp B H H') (n : a ≠ B) (h : SqT K H a xs) : SqT K H' a xs := by
  rcases h with (h | ⟨o, h⟩) | h
  · exact .inl (.inl (k _ _ n h))
  · exact .inl (.inr ⟨o, k _ _ n h⟩)
  · exact .inr h
/-- the box of the law at B: its digits, how many are drawn -/
structure Box (H : Hp) (B D : Addr) : Prop where
  ex : ∃ (ds : List Int) (i : Int), H B = some (.lst [.ref D, .int i]) ∧ 0 ≤ i ∧ D ≠ B ∧ H D = some (.lst (ds.map V.int))
theorem Box.same {H H' : Hp} {B D : Addr} (b : Box H B D) (s : Same H H') : Box H' B D := by
  obtain ⟨ds, i, h1, h2, h3, h4⟩ := b.ex
  exact ⟨ds, i, s _ _ h1, h2, h3, s _ _ h4⟩
theorem Box.ne {H : Hp} {B D l : Addr} (b : Box H B D) (h : H l = none) : l ≠ B := fun e => by
  obtain ⟨ds, i, h1, h2, h3, h4⟩ := b.ex
  rw [← e, h] at h1
  cases h1
theorem Box.neD {H : Hp} {B D l : Addr} (b : Box H B D) (h : H l = none) : l ≠ D := fun e => by
  obtain ⟨ds, i, h1, h2, h3, h4⟩ := b.ex
  rw [← e, h] at h4
  cases h4
theorem Box.put {H : Hp} {B D l : Addr} {o : HO} (b : Box H B D) (h1 : l ≠ B) (h2 : l ≠ D) : Box (upd H l o) B D := by
  obtain ⟨ds, i, g1, g2, g3, g4⟩ := b.ex
  exact ⟨ds, i, by rw [upd_ne h1.symm]; exact g1, g2, g3, by rw [upd_ne h2.symm]; exact g4⟩
theorem Box.new {H : Hp} {B D l : Addr} {o : HO} (b : Box H B D) (h : H l = none) : Box (upd H l o) B D := b.same (same_upd h)
/-- a draw below m -/
def spDraw : Sp := fun vs H Q _ => ∃ (B D : Addr) (m : Int), vs = [.ref B, .int m] ∧ 0 < m ∧ Box H B D ∧ ∀ (r : Int) (H' : Hp), 0 ≤ r → r < m → Kp B H H' → Box H' B D → Q (.int r) H'
/-- a value out of the box -/
def spBox (R : Hp → V → Hp → Prop) : Sp := fun vs H Q _ => ∃ B D : Addr, vs = [.ref B] ∧ Box H B D ∧ ∀ (v : V) (H' : Hp), R H v H' → Kp B H H' → Box H' B D → Q v H'

/-! ### displays of constants -/
def constsOf : List Expr → Option (List V)
  | [] => some []
  | .Constant (.str z) _ _ :: r => (constsOf r).map (V.str z :: ·)
  | .Constant (.int i) _ _ :: r => (constsOf r).map (V.int i :: ·)
  | _ => none
def tVals (vs : List V) : TA := fun _ H Q => Q vs H
theorem pa_consts {X : Cx} : ∀ {es : List Expr} {vs : List V}, constsOf es = some vs → PA X es (tVals vs)
  | [], vs, h => by
    cases h
    exact pa_nil
  | .Constant (.str z) k p :: r, vs, h => by
    have h2 : (constsOf r).map (V.str z :: ·) = some vs := h
    cases e : constsOf r with
    | none => rw [e] at h2; cases h2
    | some l =>
      rw [e] at h2
      cases h2
      exact pa_cons pe_str (pa_consts e)
  | .Constant (.int i) k p :: r, vs, h => by
    have h2 : (constsOf r).map (V.int i :: ·) = some vs := h
    cases e : constsOf r with
    | none => rw [e] at h2; cases h2
    | some l =>
      rw [e] at h2
      cases h2
      exact pa_cons pe_int (pa_consts e)
/-! ### text * number -/
def rMulS : R2 := fun x y H Q => ∃ (z : Str) (n : Int), x = .str z ∧ y = .int n ∧ 0 ≤ n ∧ n ≤ 1000 ∧ (tl z).length ≤ 1000 ∧ ∀ r : Str, tl r = (List.replicate n.toNat (tl z)).flatten → Q (.str r) H
theorem flat_arr (z : Array Nat) : ∀ (n : Nat) (acc : Array Nat), ((List.replicate n z).foldl (· ++ ·) acc).toList = acc.toList ++ (List.replicate n z.toList).flatten
  | 0, acc => by simp
  | n + 1, acc => by
    rw [List.replicate_succ, List.foldl_cons, flat_arr z n, List.replicate_succ, List.flatten_cons, Array.toList_append, List.append_assoc]
theorem flat_len {α : Type} (l : List α) : ∀ n : Nat, (List.replicate n l).flatten.length = n * l.length
  | 0 => by simp
  | n + 1 => by rw [List.replicate_succ, List.flatten_cons, List.length_append, flat_len l n, Nat.succ_mul, Nat.add_comm]
theorem op_mulS {X : Cx} : OpR X (binaryOp .Mult) rMulS := by
  intro pins s σ H x y v u Q I rx ry h
  obtain ⟨z, n, rfl, rfl, h0, h1, hz, q⟩ := h
  obtain ⟨t, rfl⟩ := rx
  obtain ⟨t2, rfl⟩ := ry
  have hl : z.length = (tl z).length := len_tl z
  have e63 : (2 : Int) ^ 63 = 9223372036854775808 := by decide
  refine PySem.P.mul_str ?_ (fun a b => ?_) (fun a b => ?_) ?_
  · rw [decide_eq_false (by omega), decide_eq_false (by omega)]
    rfl
  · have : (2 ^ 63 - 1 : Int) / n ≥ (2 ^ 63 - 1 : Int) / 1000 := by
      rw [e63]
      apply Int.le_ediv_of_mul_le (by omega)
      have : (9223372036854775808 - 1 : Int) / 1000 = 9223372036854775 := by decide
      rw [this]
      have := Int.mul_le_mul_of_nonneg_left h1 (show (0 : Int) ≤ 9223372036854775 by decide)
      omega
    have e2 : (2 ^ 63 - 1 : Int) / 1000 = 9223372036854775 := by decide
    omega
  · have : z.length * n.toNat ≤ 1000 * 1000 := Nat.mul_le_mul (by omega) (by omega)
    have s1 : sizeLine = 16777216 := by decide
    exact decide_eq_false (by omega)
  · split
    · have e0 : n.toNat = 0 := by omega
      refine ⟨by decide, .str Str.empty, H, I.tok _, ⟨_, rfl⟩, q _ ?_⟩
      rw [e0]
      rfl
    · split
      · rename_i g1 g2
        refine ⟨.str z, H, I, ⟨_, rfl⟩, q z ?_⟩
        rw [Bool.or_eq_true, beq_iff_eq, beq_iff_eq] at g2
        rcases g2 with g2 | g2
        · rw [g2]
          show tl z = tl z ++ []
          rw [List.append_nil]
        · have e0 : tl z = [] := List.length_eq_zero_iff.mp (by rw [← hl]; exact g2)
          have := flat_len (tl z) n.toNat
          rw [e0] at this ⊢
          exact (List.length_eq_zero_iff.mp (by simpa using this)).symm
      · have e : tl ⟨(List.replicate n.toNat z.cps).foldl (· ++ ·) #[]⟩ = (List.replicate n.toNat (tl z)).flatten := flat_arr z.cps n.toNat #[]
        have s1 : sizeLine = 16777216 := by decide
        refine ⟨?_, .str _, H, I.tok _, ⟨_, rfl⟩, q _ e⟩
        rw [len_tl, e, flat_len]
        have : n.toNat * (tl z).length ≤ 1000 * 1000 := Nat.mul_le_mul (by omega) (by omega)
        omega
/-! ### picks out of a written list -/
section
variable {K : PySem.W.Frag} {σ : L2.St} {H : Hp} {Q : VK} {i : Nat} {B D : Addr} {n : Int} {vs : List V}
theorem draw_is (h0 : 0 < n) (hB : σ[i]? = some (some (.ref B))) (bx : Box H B D) (hq : ∀ (r : Int) (H' : Hp), 0 ≤ r → r < n → Kp B H H' → Box H' B D → Q (.int r) H') :
    tCall spDraw [] E0 (tCons (tVar i) (tCons (tC (.int n)) tNil)) σ H Q := ⟨_, hB, B, D, n, rfl, h0, bx, hq⟩
theorem pick_at {l : Addr} (hn : n = (vs.length : Int)) (h0 : 0 < n) (hl : H l = some (.lst vs)) (ne : l ≠ B) (hB : σ[i]? = some (some (.ref B))) (bx : Box H B D)
    (hq : ∀ v ∈ vs, ∀ H', Kp B H H' → Box H' B D → Q v H') :
    tCall spDraw [] E0 (tCons (tVar i) (tCons (tC (.int n)) tNil)) σ H fun y H2 => rIxL K (.ref l) y H2 Q := by
  refine draw_is h0 hB bx fun r H' r0 rn kp bx' => ?_
  have hr : r.toNat < vs.length := by omega
  have er : r = ((r.toNat : Nat) : Int) := by omega
  refine ⟨l, vs, r, vs[r.toNat], rfl, rfl, sqL (kp l _ ne hl), ?_, hq _ (List.getElem_mem hr) H' kp bx'⟩
  exact at_of er (List.getElem?_eq_getElem hr)
theorem pick (hn : n = (vs.length : Int)) (h0 : 0 < n) (hz : vs.length ≤ 1000) (hB : σ[i]? = some (some (.ref B))) (bx : Box H B D)
    (hq : ∀ v ∈ vs, ∀ H', Kp B H H' → Box H' B D → Q v H') :
    tOp (rIxL K) (tLst (tVals vs)) (tCall spDraw [] E0 (tCons (tVar i) (tCons (tC (.int n)) tNil))) σ H Q := by
  refine ⟨Nat.le_of_lt (small1000 hz), fun l nl => ?_⟩
  exact pick_at hn h0 upd_same (bx.ne nl) hB (bx.new nl) fun v hv H' kp b => hq v hv H' (kp.new nl) b
end
end Ga

set_option maxRecDepth 100000
set_option maxHeartbeats 4000000
namespace Ga
open PySem PySem.Spec PyProof.Rows L2 TL
section
variable {K : PySem.W.Frag} {σ : L2.St} {H : Hp} {Q : VK} {B Dg : Addr} {te : TE}
/-- [e for k in range(n)], e drawn out of the box -/
theorem lc_rng_box {n i : Nat} {R : V → Prop} {Qd : Hp → Prop} {D : Addr} (nD : H D = none) (bx : Box H B Dg) (hz : n ≤ 100000)
    (he : ∀ (m : Nat) (H2 : Hp) (Q2 : VK), m < n → Box H2 B Dg → Kp B H H2 → (∀ v H3, R v → Kp B H2 H3 → Box H3 B Dg → Q2 v H3) → te ((wipe σ [i]).set i (some (.int (0 + m)))) H2 Q2)
    (hq : ∀ H' vs, Kp B H H' → Box H' B Dg → H' D = some (.lst vs) → vs.length = n → (∀ v ∈ vs, R v) → Qd H') :
    ∃ W : Nat → Nat → Hp → Prop, (∃ m, W 0 m (upd H D (.lst []))) ∧ ∀ i' m H', W i' m H' →
      ((Itr 0 n).stop i' H' ∧ Qd H') ∨ ((Itr 0 n).go i' H' ∧ ∃ Nx : Hp → Prop, (∀ H', Nx H' → ∃ m', m' < m ∧ W (i' + 1) m' H') ∧ ∀ x H2, (Itr 0 n).yld i' H' x H2 → gName i x (wipe σ [i]) H2 fun σ2 H2 => wipe σ2 [i] = wipe σ [i] ∧ tYes σ2 H2 fun b H3 =>
        if b = true then te σ2 H3 fun y H4 => ∃ acc, H4 D = some (.lst acc) ∧ acc.length < sizeLine ∧ Nx (upd H4 D (.lst (acc ++ [y]))) else Nx H3) := by
  have neD : D ≠ B := bx.ne nD
  refine lc_it (walk_range (lo := 0) (n := n)) (fun m H' => Kp B H H' ∧ Box H' B Dg ∧ ∃ vs, H' D = some (.lst vs) ∧ vs.length = m ∧ ∀ v ∈ vs, R v)
    ⟨fun b o _ e => same_upd nD b o e, bx.new nD, [], upd_same, rfl, fun _ h => nomatch h⟩ (fun _ _ _ _ => trivial) ?_ ?_
  · rintro m x H2 H3 hm ⟨kp, b2, vs, hD, hl, hR⟩ ⟨rfl, rfl⟩
    refine ⟨wipe_set _ _ _, ?_⟩
    dsimp only [tYes]
    rw [if_pos rfl]
    refine he m H3 _ hm b2 kp fun v H4 rv kp4 b4 => ?_
    refine ⟨vs, kp4 _ _ neD hD, Nat.lt_of_le_of_lt (show vs.length ≤ 100000 by omega) (by decide), (kp.trans kp4).back nD, b4.put neD (bx.neD nD), vs ++ [v], upd_same, by rw [List.length_append, hl]; rfl, ?_⟩
    · intro u hu
      rcases List.mem_append.mp hu with h | h
      · exact hR u h
      · cases List.mem_singleton.mp h
        exact rv
  · rintro H2 ⟨kp, b2, vs, hD, hl, hR⟩
    exact hq H2 vs kp b2 hD hl hR
end
theorem ixL {X : Cx} {K : PySem.W.Frag} (h : X.K = K) : IxR X (rIxL K) := by
  subst h
  exact ix_list
/-! ### lists of texts as data -/
theorem canAll : ∀ l : List Str, (∀ z ∈ l, PyData.strOk z = true) → PyData.canLayAll0 (l.map PyData.str) = true
  | [], _ => rfl
  | z :: r, h => by
    show (PyData.strOk z && PyData.canLayAll0 (r.map PyData.str)) = true
    rw [h z List.mem_cons_self, canAll r fun y hy => h y (List.mem_cons_of_mem _ hy)]
    rfl
theorem depthAll0 : ∀ l : List Str, PyData.depthAll (l.map PyData.str) = 0
  | [] => rfl
  | z :: r => by
    show max 0 (PyData.depthAll (r.map PyData.str)) = 0
    rw [depthAll0 r]
    rfl
theorem shaped_strs {l : List Str} (h : ∀ z ∈ l, PyData.strOk z = true) : SeqAt.shaped (.list (l.map PyData.str)) = true := by
  unfold SeqAt.shaped
  rw [show PyData.canLay0 (.list (l.map PyData.str)) = PyData.canLayAll0 (l.map PyData.str) from rfl, canAll l h,
    show PyData.depth (.list (l.map PyData.str)) = PyData.depthAll (l.map PyData.str) + 1 from rfl, depthAll0]
  rfl
theorem dpAll_strs {K : PySem.W.Frag} {H : Hp} : ∀ l : List Str, DpAll K H (l.map V.str) (l.map PyData.str)
  | [] => .nil
  | z :: r => .cons (.str z) (dpAll_strs r)
theorem eqv_nil : ∀ l : List PyData, PyData.eqv (.list l) (.list []) = l.isEmpty
  | [] => rfl
  | _ :: _ => rfl
end Ga

set_option maxRecDepth 100000
set_option maxHeartbeats 4000000
/-! Gs: set(xs) of a list of texts, as many as there are. -/
namespace Ga
open PySem PySem.Spec PyProof.Rows L2 TL
/-- how many different ones stand among the first i -/
def cnt (xs : List Str) : Nat → Nat
  | 0 => 0
  | i + 1 => if xs.getD i Str.empty ∈ xs.take i then cnt xs i else cnt xs i + 1
theorem cnt_le (xs : List Str) : ∀ i, cnt xs i ≤ i
  | 0 => Nat.le_refl _
  | i + 1 => by
    have := cnt_le xs i
    unfold cnt
    split <;> omega
theorem getD_get {xs : List Str} {i : Nat} (h : i < xs.length) : xs.getD i Str.empty = xs[i] := by
  rw [List.getD_eq_getElem?_getD, List.getElem?_eq_getElem h]; rfl
theorem take_snoc {xs : List Str} {i : Nat} (h : i < xs.length) : xs.take (i + 1) = xs.take i ++ [xs.getD i Str.empty] := by
  rw [getD_get h, List.take_add_one, List.getElem?_eq_getElem h]; rfl
theorem cnt_nodup (xs : List Str) : ∀ i, i ≤ xs.length → (cnt xs i = i ↔ (xs.take i).Nodup)
  | 0, _ => ⟨fun _ => List.nodup_nil, fun _ => rfl⟩
  | i + 1, hi => by
    have ih := cnt_nodup xs i (by omega)
    have hle := cnt_le xs i
    rw [take_snoc hi, List.nodup_append]
    unfold cnt
    by_cases hm : xs.getD i Str.empty ∈ xs.take i
    · rw [if_pos hm]
      refine ⟨fun e => by omega, fun ⟨_, _, h⟩ => absurd rfl (h _ hm _ List.mem_cons_self)⟩
    · rw [if_neg hm]
      refine ⟨fun e => ⟨ih.mp (by omega), by simp, fun a ha b hb e2 => hm ?_⟩, fun ⟨h, _, _⟩ => by rw [ih.mpr h]⟩
      rw [← List.mem_singleton.mp hb, ← e2]
      exact ha
theorem TL_strs : ∀ {ys : List Str} {us : List Value}, Vals (ys.map V.str) us → StrsAre us ys
  | [], _, .nil => .nil
  | y :: r, _, .cons h t => by
    obtain ⟨k, rfl⟩ := h
    exact .cons y k (TL_strs t)
abbrev inTake (xs : List Str) (i : Nat) : Str → Bool := fun k => decide (k ∈ xs.take i)
section
variable {prog : Program} {w : World} {A : Around} {R : Result → Shared → Prop} {J : Addr} {fp wr : List Addr} {G : Array GenState → Array GenState → Prop}
  {n : Nat} {P : Nat → Value → Prop} {St : Nat → Shared → Prop}
theorem txt_at : ∀ {us : List Value} {xs : List Str}, StrsAre us xs → ∀ (i : Nat) (v : Value), us[i]? = some v → ∃ t, v = .str (xs.getD i Str.empty) t := by
  intro us xs h
  induction h with
  | nil => intro i v e; simp at e
  | cons x t r ih =>
    intro i v e
    cases i with
    | zero => exact ⟨t, by simp at e; rw [← e]; rfl⟩
    | succ i =>
      obtain ⟨u, q⟩ := ih i v (by simpa using e)
      exact ⟨u, q⟩
theorem upd_loop (W : WalksS prog w A.in1 J fp wr G n P St) (Z : Addr) (nf : Z ∉ fp) (xs : List Str) (hx : xs.length = n)
    (hv : ∀ i v, P i v → ∃ t, v = .str (xs.getD i Str.empty) t) (hb : n + 1 < scanBound) (m : Nat) :
    ∀ (i : Nat) (s : Shared), n - i = m → i ≤ n → St i s → s.heap.SetOf (PySem.strKind prog w) Z (inTake xs i) (cnt xs i) →
      (∀ s', Moved (Z :: wr) G s s' → s'.heap.SetOf (PySem.strKind prog w) Z (inTake xs n) (cnt xs n) → R (.ok (.ret .none)) s') →
      codeAny (model prog w) A (.builtin "set.update.loop" ⟨[.ref Z, .ref J], []⟩) R s := by
  have nw : Z ∉ wr := fun z => nf (W.sub _ z)
  have more : ∀ b ∈ wr, b ∈ Z :: wr := fun b => List.mem_cons_of_mem _
  induction m with
  | zero =>
    intro i s e1 e2 st SZ fin
    obtain rfl : i = n := by omega
    apply codeAny_builtin PyProof.Rows.F.entry_set_update_loop
    rw [Around.under_plainId PyProof.Rows.F.plain_set_update_loop]
    change wpAny _ A.in1 (pyNext (.ref J) >>= _) _ _ s
    apply wpAny_bind
    refine W.done s _ _ st fun s' mv => ?_
    refine wpAny_pure (fin s' (mv.mono more) ?_)
    obtain ⟨o, es, ep, t, ho, r⟩ := SZ
    exact ⟨o, es, ep, t, mv.heap Z _ nw ho, r⟩
  | succ m ih =>
    intro i s e1 e2 st SZ fin
    have lt : i < n := by omega
    apply codeAny_builtin PyProof.Rows.F.entry_set_update_loop
    rw [Around.under_plainId PyProof.Rows.F.plain_set_update_loop]
    change wpAny _ A.in1 (pyNext (.ref J) >>= _) _ _ s
    apply wpAny_bind
    refine W.item i s _ _ lt st fun v s' pv' st' mv => ?_
    obtain ⟨t, rfl⟩ := hv i v pv'
    have SZ' : s'.heap.SetOf (PySem.strKind prog w) Z (inTake xs i) (cnt xs i) := by
      obtain ⟨o, es, ep, tb, ho, r⟩ := SZ
      exact ⟨o, es, ep, tb, mv.heap Z _ nw ho, r⟩
    change wpAny _ A.in1 (holding [Value.str (xs.getD i Str.empty) t] (setAdd Z (.str (xs.getD i Str.empty) t)) >>= _) _ _ s'
    apply wpAny_bind
    apply wpAny_holding
    unfold setAdd
    apply wpAny_holding
    apply wpAny_bind
    refine (PySem.strKind prog w).pyHash (k := xs.getD i Str.empty) (strKind_is _ _ _ _) ?_
    have room : cnt xs i + 1 < scanBound := by have := cnt_le xs i; omega
    refine wpAny_setAddHashed_of (knd := PySem.strKind prog w) (s := { s' with toks := s'.toks + 1 }) (strKind_is _ _ _ _) rfl SZ' room fun h' sb S2 => ?_
    have S3 : h'.SetOf (PySem.strKind prog w) Z (inTake xs (i + 1)) (cnt xs (i + 1)) := by
      refine SetOf_congr S2 (fun k => ?_) ?_
      · show (decide (k ∈ xs.take i) || decide (k = xs.getD i Str.empty)) = decide (k ∈ xs.take (i + 1))
        rw [take_snoc (by omega), Bool.eq_iff_iff, Bool.or_eq_true, decide_eq_true_eq, decide_eq_true_eq, decide_eq_true_eq, List.mem_append, List.mem_singleton]
      · show (if decide (xs.getD i Str.empty ∈ xs.take i) = true then cnt xs i else cnt xs i + 1) = cnt xs (i + 1)
        simp only [decide_eq_true_eq]
        rfl
    have apart : ∀ b ∈ fp, b ≠ Z := fun b hb e => nf (e ▸ hb)
    refine wpAny_pure ⟨plainId_quiet PyProof.Rows.F.plain_set_update_loop _, ih (i + 1) _ (by omega) lt ?_ S3 fun s2 mv2 SN => ?_⟩
    · exact W.frame _ s' _ _ st' (Nat.le_succ _) fun b hb o e => (sb.2 b (apart b hb)).trans e
    · exact fin s2 (Moved.trans W.gtrans ((mv.mono more).then_heap (Nat.le_succ _) fun b o hb e => (sb.2 b fun z => hb (z ▸ List.mem_cons_self)).trans e) mv2) SN
end
section
open PyProof.Rows
variable {prog : Program} {w : World} {A : Around} {E : Value → Shared → Prop} {s : Shared}
set_option maxHeartbeats 6400000 in
/-- set(xs) -/
theorem set_txt {l : Addr} {its : Array Value} {xs : List Str} {Q : Value → Shared → Prop} (hh : A.handled = none) (hl : s.heap.IsList l its)
    (hx : StrsAre its.toList xs) (hb : its.size + 1 < scanBound)
    (fin : ∀ (h' : Heap) (tk : Nat), h'.SetOf (PySem.strKind prog w) s.heap.objs.size (inTake xs its.size) (cnt xs its.size) →
      (∀ b o, b < s.heap.objs.size → s.heap.get? b = some o → h'.get? b = some o) → Q (.ref s.heap.objs.size) { s with heap := h', toks := tk }) :
    wpAny (model prog w) A (call (.type "set") [.ref l]) Q E s := by
  obtain ⟨c0, tl0, mro0⟩ := PySem.F.called_set.mro
  have made := PySem.F.called_set.made
  have subs := PySem.F.called_set.sub
  have ntyp := PySem.F.called_set.notType
  have cans := PySem.F.called_set.canCreate
  have tcal := PySem.F.typeCall_set_1 (.ref l)
  have len : xs.length = its.size := by rw [← Array.length_toList]; exact (hx.length).symm
  apply wpAny_call
  apply codeAny_of_tree
  change wpAny _ _ (callAny (.type "set") _) _ _ _
  refine wpAny_pure ⟨Code.quiet_builtin _ (by decide +kernel), codeAny_builtin PySem.F.entry_type_call ?_⟩
  rw [Around.under_plain (weight_type_call_type "set" [.ref l] []) rfl]
  repeat (any_goals (first | assumption | wp_step))
  let Z : Addr := s.heap.objs.size
  let fresh : Bool → Obj := fun led => { cls := .type "set", dict := none, data := .set #[] 0 (.fresh 0 0 led) }
  refine codeAny_mono (code_set_new_1 (.ref l) (E := E) (Q₁ := fun ob s1 => ∃ led : Bool, ob = .ref Z ∧ s1 = { s with heap := s.heap.push (fresh led) })
    fun led => ⟨led, rfl, rfl⟩) ?_
  rintro (e | fl) s1 hr
  · exact hr
  cases fl with
  | next => exact hr.elim
  | brk => exact hr.elim
  | cont => exact hr.elim
  | ret ob =>
    obtain ⟨led, rfl, rfl⟩ := hr
    have atZ : (s.heap.push (fresh led)).get? Z = some (fresh led) := Heap.get?_push_size _ rfl
    have tyZ : Shared.TypeIs { s with heap := s.heap.push (fresh led) } (.ref Z) "set" := ⟨_, atZ, rfl⟩
    have ini := PySem.F.called_set.init.lookup
    have bnd := PySem.F.called_set.init.bind (.ref Z)
    repeat (any_goals (first | assumption | wp_step))
    refine codeAny_mono (codeAny_call_builtin (R := wants (fun r s2 => r = .none ∧ ∃ h' tk, s2 = { s with heap := h', toks := tk } ∧
        h'.SetOf (PySem.strKind prog w) Z (inTake xs its.size) (cnt xs its.size) ∧ (∀ b o, b < Z → s.heap.get? b = some o → h'.get? b = some o)) E)
      PySem.F.called_set.init.plain PySem.F.entry_set_init (check_set_init_1 tyZ ?_)) ?_
    · obtain ⟨⟨cl, dd, da, sl⟩, hol, hcl, nl, hdl⟩ := hl
      simp only at hcl hdl
      subst hcl
      subst hdl
      have hol1 : (s.heap.push (fresh led)).get? l = some { cls := .type "list", dict := dd, data := .seq its nl, slots := sl } := Heap.get?_push_of_some _ hol
      have n1 := PySem.F.sub_list_set
      have n2 := PySem.F.sub_list_frozenset
      have n3 : (Value.type "list" == Value.type "dict") = false := by decide
      have isl : (s.heap.push (fresh led)).IsList l its := ⟨_, hol1, rfl, nl, rfl⟩
      unfold Builtin.«set.__init__» noKeywords Builtin.Frozenset.updateFrom
      generalize hPI : pyIter = PI
      wp_walk
      subst hPI
      apply wpAny_pyIter_list isl
      apply wpAny_bind
      apply wpAny_runValue
      have lZ : l < Z := Heap.lt_size hol
      have size1 : (s.heap.push (fresh led)).objs.size = Z + 1 := Heap.size_push _ _
      have calm : A.in1.in1.in1.handled = none := by simp [hh]
      have neJ : l ≠ (s.heap.push (fresh led)).objs.size := by rw [size1]; exact Nat.ne_of_lt (Nat.lt_succ_of_lt lZ)
      have notin : Z ∉ [(s.heap.push (fresh led)).objs.size, l] := by
        rw [size1]
        simp only [List.mem_cons, List.not_mem_nil, or_false, not_or]
        exact ⟨Nat.ne_of_lt (Nat.lt_succ_self _), Nat.ne_of_gt lZ⟩
      refine upd_loop (Walks.list calm _ l neJ its).toS Z notin xs len (fun i v hv => txt_at hx i v (by rw [Array.getElem?_toList]; exact hv)) hb (its.size - 0) 0 _
        (by omega) (Nat.zero_le _) ⟨⟨_, Heap.get?_push_size _ rfl, rfl, rfl⟩, isl.push _⟩ ?zero ?last
      case zero =>
        have g := Heap.get?_push_of_some ({ cls := .type "list_iterator", data := .fields #[.ref l, .int 0 0] } : Obj) atZ
        exact SetOf_congr ((setObjOf_fresh (knd := PySem.strKind prog w) led).setOf g (by unfold scanBound; omega)) (fun _ => rfl) rfl
      case last =>
        rintro ⟨h', g', d', tk', os'⟩ mv SN
        obtain rfl : g' = s.gens := mv.gens
        obtain rfl : d' = s.drawn := mv.drawn
        obtain rfl : os' = s.os := mv.os
        change wpAny _ _ _ _ _ _
        apply wpAny_pure
        change wpAny _ _ (ret Value.none) _ _ _
        refine wpAny_pure ⟨rfl, h', tk', rfl, SN, fun b o hb e => mv.heap b o ?_ (Heap.get?_push_of_some _ (Heap.get?_push_of_some _ e))⟩
        simp only [List.mem_cons, List.not_mem_nil, or_false, not_or]
        rw [size1]
        exact ⟨Nat.ne_of_lt hb, Nat.ne_of_lt (Nat.lt_succ_of_lt hb)⟩
    · rintro (e | fl2) s2 hr2
      · exact hr2
      cases fl2 with
      | next => exact hr2.elim
      | brk => exact hr2.elim
      | cont => exact hr2.elim
      | ret r =>
        obtain ⟨rfl, h', tk, rfl, SN, kp⟩ := hr2
        repeat (any_goals (first | assumption | wp_step))
        exact fin _ _ SN kp
end
/-- len(set(xs)) of a list of texts -/
def tLenSetT (K : PySem.W.Frag) (ta : TE) : TE := fun σ H Q => ta σ H fun x H1 => ∃ (l : Addr) (xs : List Str), x = .ref l ∧ SqL K H1 l (xs.map V.str) ∧ xs.length ≤ 4000 ∧ Q (.int (cnt xs xs.length : Nat)) H1
theorem pe_lenSetT {X : Cx} {a : Expr} {ta : TE} {p p2 q pos : Pos} (hg : Gl X "len") (hm : X.mg "len" = none) (gs : Gl X "set") (ms : X.mg "set" = none)
    (ha : PE X a ta) (hc : X.calm = true := by rfl) (na : starEach [a] X.env = (false, eval a X.env) :: starEach [] X.env := by rfl) :
    PE X (.Call (.Name "len" p) [.Call (.Name "set" p2) [a] [] q] [] pos) (tLenSetT X.K ta) := by
  refine ⟨fun pins s σ H Q I h => Call_ (ld_blt I hg hm boot_len ?_)⟩
  refine callWith_builtin1 (args_cons (Call_ (ld_blt I gs ms boot_set ?_)) rfl) rfl rfl
  refine callWith_type1 (args_cons (thn (ha.run pins s σ H _ I h) ?_) na) na rfl
  rintro v s1 ⟨x, H1, I1, r1, l, xs, rfl, hq, hl, q1⟩
  apply args_nil
  cases r1
  obtain ⟨its, r, pl, hz⟩ := I1.list hq
  have size : its.toArray.size = xs.length := by rw [List.size_toArray, ← r.length, List.length_map]
  refine set_txt (I1.ok.hd hc) pl.isList (by simpa using TL_strs r) (by rw [size]; unfold scanBound; omega) fun h' tk hS hk => ?_
  apply args_nil
  rw [size] at hS
  obtain ⟨o, es, ep, t, ho, hex, hd, _, _, _, hf, hn⟩ := hS
  have I2 : Inv X pins σ H1 { s1 with heap := h', toks := tk } := I1.kept fun b o e => hk b o (Heap.lt_size e) e
  have := cnt_le xs xs.length
  exact call_len_set ho hex hd hf (by rw [hn]; omega) ⟨.int (cnt xs xs.length : Nat), H1, I2.tok _, ⟨_, by rw [hn]⟩, q1⟩
end Ga

set_option maxRecDepth 100000
set_option maxHeartbeats 4000000
/-! Gt: rows of (path, lines), comprehensions over them, tables of them. -/
namespace Ga
open PySem PySem.Spec PyProof.Rows L2 TL
/-- all tuples stay -/
def SameT (H H' : Hp) : Prop := ∀ b xs, (H b = some (.tup xs) → H' b = some (.tup xs)) ∧ ∀ o, H b = some (.frz o (.tup xs)) → H' b = some (.frz o (.tup xs))
theorem SameT.refl (H : Hp) : SameT H H := fun _ _ => ⟨id, fun _ => id⟩
theorem SameT.trans {H H1 H2 : Hp} (a : SameT H H1) (b : SameT H1 H2) : SameT H H2 := fun c xs => ⟨fun h => (b c xs).1 ((a c xs).1 h), fun o h => (b c xs).2 o ((a c xs).2 o h)⟩
theorem _root_.L2.Same.t {H H' : Hp} (s : Same H H') : SameT H H' := fun b xs => ⟨fun h => s _ _ h, fun o h => s _ _ h⟩
/-- what is written here is no tuple -/
def NoTup : HO → Bool
  | .tup _ => false
  | .frz _ (.tup _) => false
  | _ => true
theorem SameT.put {H : Hp} {a : Addr} {u v : HO} (h : H a = some u) (n : NoTup u = true) : SameT H (upd H a v) := fun b xs => by
  refine ⟨fun e => ?_, fun o e => ?_⟩
  all_goals
    have ne : b ≠ a := fun z => by
      subst z
      rw [h] at e
      cases e
      cases n
    rw [upd_ne ne]
    exact e
theorem SameT.new {H : Hp} {a : Addr} {v : HO} (h : H a = none) : SameT H (upd H a v) := (same_upd h).t
theorem SameT.box {H H' : Hp} {B D : Addr} (k : Kp B H H') (bx : Box H B D) : SameT H H' := fun b xs => by
  obtain ⟨ds, i, h1, _⟩ := bx.ex
  refine ⟨fun e => ?_, fun o e => ?_⟩
  all_goals
    refine k b _ (fun z => ?_) e
    rw [z, h1] at e
    cases e
section
variable {K : PySem.W.Frag} {H H' : Hp}
theorem SameT.sq {a : Addr} {xs : List V} (e : SameT H H') (h : SqT K H a xs) : SqT K H' a xs := by
  rcases h with (h | ⟨o, h⟩) | h
  · exact .inl (.inl ((e a xs).1 h))
  · exact .inl (.inr ⟨o, (e a xs).2 o h⟩)
  · exact .inr h
abbrev File := Str × List Str
/-- the lines of a file, a tuple of texts -/
def LinesAt (K : PySem.W.Frag) (H : Hp) (v : V) (l : List Str) : Prop := ∃ a, v = .ref a ∧ SqT K H a (l.map V.str)
/-- a row: (path, lines) -/
def RowAt (K : PySem.W.Frag) (H : Hp) (v : V) (f : File) : Prop := ∃ t w, v = .ref t ∧ SqT K H t [.str f.1, w] ∧ LinesAt K H w f.2
theorem LinesAt.st {v : V} {l : List Str} (h : LinesAt K H v l) (e : SameT H H') : LinesAt K H' v l := by
  obtain ⟨a, rfl, h⟩ := h
  exact ⟨a, rfl, e.sq h⟩
theorem RowAt.st {v : V} {f : File} (h : RowAt K H v f) (e : SameT H H') : RowAt K H' v f := by
  obtain ⟨t, w, rfl, h, l⟩ := h
  exact ⟨t, w, rfl, e.sq h, l.st e⟩
def dL (l : List Str) : PyData := .tuple (l.map PyData.str)
def dF (f : File) : PyData := .tuple [.str f.1, dL f.2]
theorem LinesAt.dp {v : V} {l : List Str} (h : LinesAt K H v l) : Dp K H v (dL l) := by
  obtain ⟨a, rfl, h⟩ := h
  exact .tup h (dpAll_strs l)
theorem RowAt.dp {v : V} {f : File} (h : RowAt K H v f) : Dp K H v (dF f) := by
  obtain ⟨t, w, rfl, h, l⟩ := h
  exact .tup h (.cons (.str _) (.cons l.dp .nil))
abbrev RowsAt (K : PySem.W.Frag) (H : Hp) (vs : List V) (fs : List File) : Prop := Paired (RowAt K H) vs fs
theorem RowsAt.dp {vs : List V} {fs : List File} (h : RowsAt K H vs fs) : DpAll K H vs (fs.map dF) := by
  induction h with
  | nil => exact .nil
  | cons a _ ih => exact .cons a.dp ih
theorem RowsAt.st {vs : List V} {fs : List File} (h : RowsAt K H vs fs) (e : SameT H H') : RowsAt K H' vs fs := h.mono fun _ _ r => r.st e
theorem paired_get {α β : Type} {F : α → β → Prop} : ∀ {l : List α} {m : List β}, Paired F l m → ∀ (i : Nat) (a : α), l[i]? = some a → ∃ b, m[i]? = some b ∧ F a b
  | _, _, .nil, i, a, e => by simp at e
  | _, _, .cons h t, 0, a, e => by
    cases e
    exact ⟨_, rfl, h⟩
  | _, _, .cons h t, i + 1, a, e => paired_get t i a (by simpa using e)
theorem paired_get2 {α β : Type} {F : α → β → Prop} : ∀ {l : List α} {m : List β}, Paired F l m → ∀ (i : Nat) (b : β), m[i]? = some b → ∃ a, l[i]? = some a ∧ F a b
  | _, _, .nil, i, a, e => by simp at e
  | _, _, .cons h t, 0, a, e => by
    cases e
    exact ⟨_, rfl, h⟩
  | _, _, .cons h t, i + 1, a, e => paired_get2 t i a (by simpa using e)
theorem paired_mem {α β : Type} {F : α → β → Prop} {l : List α} {m : List β} (h : Paired F l m) {a : α} (e : a ∈ l) : ∃ b ∈ m, F a b := by
  obtain ⟨i, hi⟩ := List.getElem?_of_mem e
  obtain ⟨b, hb, f⟩ := paired_get h i a hi
  exact ⟨b, List.mem_of_getElem? hb, f⟩
theorem paired_take {α β : Type} {F : α → β → Prop} : ∀ {l : List α} {m : List β}, Paired F l m → ∀ n, Paired F (l.take n) (m.take n)
  | _, _, .nil, n => by simp; exact .nil
  | _, _, .cons h t, 0 => .nil
  | _, _, .cons h t, n + 1 => .cons h (paired_take t n)
/-! ### comprehensions over a list or a tuple of anything -/
variable {σ : L2.St}
theorem filter_take_succ {α : Type} {p : α → Bool} {l : List α} {i : Nat} {c : α} (h : l[i]? = some c) : (l.take (i + 1)).filter p = (l.take i).filter p ++ if p c = true then [c] else [] := by
  rw [List.take_add_one, h, List.filter_append]
  cases hp : p c <;> simp [hp]
theorem lc_rel {α : Type} {J : It} {xs : List V} {as : List α} {g : TG} {tt : TT} {te : TE} {vs : List Nat} {R : Hp → α → V → Prop} {p : α → Bool} {Qd : Hp → Prop} {D : Addr} (nD : H D = none) (w : Walk J xs.length (fun H' => Same H H') (YAt xs)) (hal : xs.length = as.length) (hz : xs.length ≤ 100000)
    (hR : ∀ {H1 H2 : Hp} {c : α} {y : V}, SameT H1 H2 → R H1 c y → R H2 c y)
    (he : ∀ (i : Nat) (c : V) (a : α), xs[i]? = some c → as[i]? = some a → ∀ (H2 : Hp) (Rk : VK) (Rn : Hp → Prop), Same H H2 → (∀ y H3, p a = true → Same H2 H3 → R H3 a y → Rk y H3) → (∀ H3, p a = false → Same H2 H3 → Rn H3) →
      g c (wipe σ vs) H2 fun σ2 H3 => wipe σ2 vs = wipe σ vs ∧ tt σ2 H3 fun b H4 => if b = true then te σ2 H4 Rk else Rn H4)
    (hq : ∀ H' ys, Same H H' → H' D = some (.lst ys) → Paired (R H') (as.filter p) ys → Qd H') :
    ∃ W : Nat → Nat → Hp → Prop, (∃ m, W 0 m (upd H D (.lst []))) ∧ ∀ i' m H', W i' m H' →
      (J.stop i' H' ∧ Qd H') ∨ (J.go i' H' ∧ ∃ Nx : Hp → Prop, (∀ H', Nx H' → ∃ m', m' < m ∧ W (i' + 1) m' H') ∧ ∀ x H2, J.yld i' H' x H2 → g x (wipe σ vs) H2 fun σ2 H2 => wipe σ2 vs = wipe σ vs ∧ tt σ2 H2 fun b H3 =>
        if b = true then te σ2 H3 fun y H4 => ∃ acc, H4 D = some (.lst acc) ∧ acc.length < sizeLine ∧ Nx (upd H4 D (.lst (acc ++ [y]))) else Nx H3) := by
  refine lc_it w (fun m H' => Same H H' ∧ ∃ ys, H' D = some (.lst ys) ∧ Paired (R H') ((as.take m).filter p) ys) ⟨same_upd nD, [], upd_same, by simp; exact .nil⟩ (fun _ _ _ q => q.1) ?_ ?_
  · rintro m x H2 H3 hm ⟨s, ys, d, pr⟩ ⟨rfl, hg⟩
    obtain ⟨a, ha⟩ : ∃ a, as[m]? = some a := ⟨_, List.getElem?_eq_getElem (by omega)⟩
    refine he m x a hg ha H3 _ _ s (fun y H4 px s4 r => ?_) (fun H4 px s4 => ?_)
    · refine ⟨ys, s4 _ _ d, ?_, (s.trans s4).mut nD, ys ++ [y], upd_same, ?_⟩
      · rw [← pr.length]
        refine Nat.lt_of_le_of_lt (Nat.le_trans (List.length_filter_le _ _) (Nat.le_trans ?_ hz)) (by decide)
        rw [List.length_take, hal]
        exact Nat.min_le_right _ _
      · rw [filter_take_succ ha, if_pos px]
        have st : SameT H4 (upd H4 D (.lst (ys ++ [y]))) := .put (s4 _ _ d) rfl
        exact Paired.snoc (pr.mono fun _ _ q => hR (s4.t.trans st) q) (hR st r)
    · refine ⟨s.trans s4, ys, s4 _ _ d, ?_⟩
      rw [filter_take_succ ha, px, if_neg Bool.false_ne_true, List.append_nil]
      exact pr.mono fun _ _ q => hR s4.t q
  · rintro H2 ⟨s, ys, d, pr⟩
    rw [hal, List.take_length] at pr
    exact hq H2 ys s d pr
/-- {k: v for target in tuple or list} : keys are texts of R -/
theorem dc_rel {α : Type} {J : It} {xs : List V} {as : List α} {g : TG} {tt : TT} {tk tv : TE} {vs : List Nat} {R : Hp → α → Key × V → Prop} {p : α → Bool} {Qd : Hp → Prop} {D : Addr} (nD : H D = none) (w : Walk J xs.length (fun H' => Same H H') (YAt xs)) (hal : xs.length = as.length) (hz : xs.length ≤ 100000)
    (hR : ∀ {H1 H2 : Hp} {c : α} {y : Key × V}, SameT H1 H2 → R H1 c y → R H2 c y) (ky : α → Key) (hky : ∀ {H1 : Hp} {c : α} {y : Key × V}, R H1 c y → y.1 = ky c) (hnd : ((as.filter p).map ky).Nodup)
    (he : ∀ (i : Nat) (c : V) (a : α), xs[i]? = some c → as[i]? = some a → ∀ (H2 : Hp) (Rk : V → V → Hp → Prop) (Rn : Hp → Prop), Same H H2 → (∀ y H3, p a = true → Same H2 H3 → R H3 a y → Rk (kV y.1) y.2 H3) → (∀ H3, p a = false → Same H2 H3 → Rn H3) →
      g c (wipe σ vs) H2 fun σ2 H3 => wipe σ2 vs = wipe σ vs ∧ tt σ2 H3 fun b H4 => if b = true then tk σ2 H4 fun y H5 => tv σ2 H5 fun z H6 => Rk y z H6 else Rn H4)
    (hq : ∀ H' ys, Same H H' → H' D = some (.dK ys) → Paired (R H') (as.filter p) ys → Qd H') :
    ∃ W : Nat → Nat → Hp → Prop, (∃ m, W 0 m (upd H D (.dK []))) ∧ ∀ i' m H', W i' m H' →
      (J.stop i' H' ∧ Qd H') ∨ (J.go i' H' ∧ ∃ Nx : Hp → Prop, (∀ H', Nx H' → ∃ m', m' < m ∧ W (i' + 1) m' H') ∧ ∀ x H2, J.yld i' H' x H2 → g x (wipe σ vs) H2 fun σ2 H2 => wipe σ2 vs = wipe σ vs ∧ tt σ2 H2 fun b H3 =>
        if b = true then tk σ2 H3 fun y H4 => tv σ2 H4 fun z H5 => ∃ kvs k, y = kV k ∧ H5 D = some (.dK kvs) ∧ kvs.length < sizeLine ∧ Nx (upd H5 D (.dK (putK kvs k z))) else Nx H3) := by
  have keyOf : ∀ {H1 : Hp} {l : List α} {ys : List (Key × V)}, Paired (R H1) l ys → ys.map (·.1) = l.map ky := by
    intro H1 l ys h
    induction h with
    | nil => rfl
    | cons a _ ih => rw [List.map_cons, List.map_cons, ih, hky a]
  refine ⟨fun i m H' => m = xs.length - i ∧ i ≤ xs.length ∧ Same H H' ∧ ∃ ys, H' D = some (.dK ys) ∧ Paired (R H') ((as.take i).filter p) ys, ⟨xs.length, by simp, Nat.zero_le _, same_upd nD, [], upd_same, by simp; exact .nil⟩, ?_⟩
  rintro i m H2 ⟨rfl, hi, s, ys, d, pr⟩
  by_cases hlt : i < xs.length
  · refine .inr ⟨w.goes i H2 hlt s, fun H' => i + 1 ≤ xs.length ∧ Same H H' ∧ ∃ ys, H' D = some (.dK ys) ∧ Paired (R H') ((as.take (i + 1)).filter p) ys, fun H' q => ⟨xs.length - (i + 1), by omega, rfl, q.1, q.2⟩, fun x H3 y => ?_⟩
    obtain ⟨rfl, hg⟩ := w.yields i H2 x H3 hlt s y
    obtain ⟨a, ha⟩ : ∃ a, as[i]? = some a := ⟨_, List.getElem?_eq_getElem (by omega)⟩
    refine he i x a hg ha H3 (fun a b H5 => ∃ kvs k, a = kV k ∧ H5 D = some (.dK kvs) ∧ kvs.length < sizeLine ∧ _) _ s (fun y H4 px s4 r => ?_) (fun H4 px s4 => ?_)
    · have hl : ys.length ≤ i := by
        rw [← pr.length]
        refine Nat.le_trans (List.length_filter_le _ _) ?_
        rw [List.length_take]
        exact Nat.min_le_left _ _
      have hn : valV ys y.1 = none := by
        cases e : valV ys y.1 with
        | none => rfl
        | some v =>
          have m1 := valV_in e
          rw [keyOf pr, hky r] at m1
          exfalso
          have nd2 : (((as.take (i + 1)).filter p).map ky).Nodup := hnd.sublist (List.Sublist.map ky (List.Sublist.filter p (List.take_sublist _ _)))
          rw [filter_take_succ ha, if_pos px, List.map_append, List.nodup_append] at nd2
          exact nd2.2.2 _ m1 _ (List.mem_singleton.mpr rfl) rfl
      refine ⟨ys, y.1, rfl, s4 _ _ d, Nat.lt_of_le_of_lt (Nat.le_trans hl (Nat.le_trans hi hz)) (by decide), hlt, (s.trans s4).mut nD, ys ++ [y], ?_, ?_⟩
      · rw [upd_same, putK_new _ hn]
      · rw [filter_take_succ ha, if_pos px]
        have st : SameT H4 (upd H4 D (.dK (putK ys y.1 y.2))) := .put (s4 _ _ d) rfl
        exact Paired.snoc (pr.mono fun _ _ q => hR (s4.t.trans st) q) (hR st r)
    · refine ⟨hlt, s.trans s4, ys, s4 _ _ d, ?_⟩
      rw [filter_take_succ ha, px, if_neg Bool.false_ne_true, List.append_nil]
      exact pr.mono fun _ _ q => hR s4.t q
  · have e : i = xs.length := by omega
    rw [e, hal, List.take_length] at pr
    exact .inl ⟨e ▸ w.stops H2 s, hq H2 ys s d pr⟩
/-- [e for a in xs for b in xs], e a truth of a and b -/
theorem wipe2 {i j : Nat} {v : Option V} (ij : i ≠ j) : wipe ((wipe σ [i, j]).set i v) [i, j] = wipe σ [i, j] := by
  show ((((σ.set j none).set i none).set i v).set j none).set i none = (σ.set j none).set i none
  rw [List.set_set, List.set_comm _ _ ij, List.set_set, List.set_set]
theorem lc2_bl {J J1 : It} {xs : List V} {wi1 : TI} {te : TE} {i j : Nat} {p : V → V → Bool} {Qd : Hp → Prop} {D : Addr} (nD : H D = none) (w : Walk J xs.length (fun H' => Same H H') (YAt xs)) (w1 : Walk J1 xs.length (fun H' => Same H H') (YAt xs)) (hz : xs.length ≤ 300) (ij : i ≠ j)
    (hi : ∀ (c : V) (H2 : Hp) (R : It → Hp → Prop), c ∈ xs → Same H H2 → R J1 H2 → wi1 ((wipe σ [i, j]).set i (some c)) H2 R)
    (he : ∀ a ∈ xs, ∀ b ∈ xs, ∀ (H2 : Hp) (R : VK), Same H H2 → (∀ H3, Same H2 H3 → R (.bl (p a b)) H3) → te ((wipe ((wipe σ [i, j]).set i (some a)) [j]).set j (some b)) H2 R)
    (hq : ∀ H', Same H H' → H' D = some (.lst ((xs.flatMap fun a => xs.map fun b => p a b).map V.bl)) → Qd H') :
    ∃ W : Nat → Nat → Hp → Prop, (∃ m, W 0 m (upd H D (.lst []))) ∧ ∀ i' m H', W i' m H' →
      (J.stop i' H' ∧ Qd H') ∨ (J.go i' H' ∧ ∃ Nx : Hp → Prop, (∀ H', Nx H' → ∃ m', m' < m ∧ W (i' + 1) m' H') ∧ ∀ x H2, J.yld i' H' x H2 → gName i x (wipe σ [i, j]) H2 fun σ2 H2 => wipe σ2 [i, j] = wipe σ [i, j] ∧ tYes σ2 H2 fun b H3 =>
        if b = true then wi1 σ2 H3 fun J1 H4 => ∃ W1 : Nat → Nat → Hp → Prop, (∃ m, W1 0 m H4) ∧ ∀ j' k H, W1 j' k H →
          (J1.stop j' H ∧ Nx H) ∨ (J1.go j' H ∧ ∃ Nx1 : Hp → Prop, (∀ H', Nx1 H' → ∃ k', k' < k ∧ W1 (j' + 1) k' H') ∧ ∀ x H', J1.yld j' H x H' → gName j x (wipe σ2 [j]) H' fun σ3 H5 => wipe σ3 [j] = wipe σ2 [j] ∧ tYes σ3 H5 fun b H6 =>
            if b = true then te σ3 H6 fun y H7 => ∃ acc, H7 D = some (.lst acc) ∧ acc.length < sizeLine ∧ Nx1 (upd H7 D (.lst (acc ++ [y]))) else Nx1 H6)
        else Nx H3) := by
  let row : V → List V := fun a => xs.map fun b => .bl (p a b)
  have lenRow : ∀ l : List V, (l.flatMap row).length = l.length * xs.length := by
    intro l
    induction l with
    | nil => simp
    | cons a r ih =>
      rw [List.flatMap_cons, List.length_append, ih, List.length_cons, Nat.succ_mul, Nat.add_comm]
      simp [row]
  refine ⟨fun a m H' => m = xs.length - a ∧ a ≤ xs.length ∧ Same H H' ∧ H' D = some (.lst ((xs.take a).flatMap row)), ⟨xs.length, by simp, Nat.zero_le _, same_upd nD, by rw [upd_same]; rfl⟩, ?_⟩
  rintro a m H2 ⟨rfl, ha, s, d⟩
  by_cases hlt : a < xs.length
  · refine .inr ⟨w.goes a H2 hlt s, fun H' => a + 1 ≤ xs.length ∧ Same H H' ∧ H' D = some (.lst ((xs.take (a + 1)).flatMap row)), fun H' q => ⟨xs.length - (a + 1), by omega, rfl, q.1, q.2⟩, fun x H3 y => ?_⟩
    obtain ⟨rfl, hg⟩ := w.yields a H2 x H3 hlt s y
    have hx := List.mem_of_getElem? hg
    refine ⟨?_, ?_⟩
    · exact wipe2 ij
    · dsimp only [tYes]
      rw [if_pos rfl]
      refine hi x H3 _ hx s ⟨fun b k H' => k = xs.length - b ∧ b ≤ xs.length ∧ Same H H' ∧ H' D = some (.lst ((xs.take a).flatMap row ++ (xs.take b).map fun c => .bl (p x c))), ⟨xs.length, by simp, Nat.zero_le _, s, by rw [d]; simp⟩, ?_⟩
      rintro b k H4 ⟨rfl, hb, s4, d4⟩
      by_cases hlb : b < xs.length
      · refine .inr ⟨w1.goes b H4 hlb s4, fun H' => b + 1 ≤ xs.length ∧ Same H H' ∧ H' D = some (.lst ((xs.take a).flatMap row ++ (xs.take (b + 1)).map fun c => .bl (p x c))), fun H' q => ⟨xs.length - (b + 1), by omega, rfl, q.1, q.2⟩, fun z H5 y5 => ?_⟩
        obtain ⟨rfl, hg5⟩ := w1.yields b H4 z H5 hlb s4 y5
        refine ⟨wipe_set _ _ _, ?_⟩
        dsimp only [tYes]
        rw [if_pos rfl]
        refine he x hx z (List.mem_of_getElem? hg5) H5 _ s4 fun H6 s6 => ?_
        refine ⟨_, s6 _ _ d4, ?_, hlb, (s4.trans s6).mut nD, ?_⟩
        · rw [List.length_append, lenRow, List.length_map, List.length_take, List.length_take]
          have h1 : min a xs.length ≤ 300 := Nat.le_trans (Nat.min_le_right _ _) hz
          have h2 : min b xs.length ≤ 300 := Nat.le_trans (Nat.min_le_right _ _) hz
          have h3 : min a xs.length * xs.length ≤ 300 * 300 := Nat.mul_le_mul h1 hz
          have : sizeLine = 16777216 := by decide
          omega
        · rw [upd_same, List.append_assoc, take_map_succ (f := fun c => V.bl (p x c)) hg5]
      · have e : b = xs.length := by omega
        subst e
        refine .inl ⟨w1.stops H4 s4, hlt, s4, ?_⟩
        rw [d4, List.take_add_one, hg, List.take_length, List.flatMap_append]
        simp [row]
  · have e : a = xs.length := by omega
    subst e
    rw [List.take_length] at d
    refine .inl ⟨w.stops H2 s, hq H2 s ?_⟩
    rw [d, List.map_flatMap]
    simp [row, Function.comp_def]
end
section
variable {X : Cx} {K : PySem.W.Frag}
theorem piL (h : X.K = K) {tg l : Expr} {tl : TE} (hl : PE X l tl) : PI X tg l (iList K tl) := by
  subst h
  exact pi_list hl
theorem piT (h : X.K = K) {tg l : Expr} {tl : TE} (hl : PE X l tl) : PI X tg l (iTup K tl) := by
  subst h
  exact pi_tup hl
theorem peF (h : X.K = K) {e : Expr} {f : Str} {ta : TE} {pos : Pos} (he : PE X e ta) (hb : attributeBase e f X.env (eval e X.env) = eval e X.env := by rfl) : PE X (.Attribute e f pos) (tFld K ta f) := by
  subst h
  exact pe_fld he hb
theorem pgT (h : X.K = K) {es : List Expr} {k : Nat} {t : TGs} {n : Nat} {pos : Pos} (hc : X.calm = true) (hg : PGs X es t)
    (hn : (assignEach es X.env).length = n := by rfl) (hst : (assignEach es X.env).findIdx? (·.1) = none := by rfl) : PG X (.Tuple es k pos) (gTup K n t) := by
  subst h
  exact pg_tup hc hg hn hst
theorem ixT (h : X.K = K) : IxR X (rIxT K) := by
  subst h
  exact ix_tup
/-- tuple(xs) -/
def rTupOf (K : PySem.W.Frag) : List V → Hp → VK → Prop := fun xs H Q => ∃ p ys, xs = [.ref p] ∧ ((SqL K H p ys ∧ ∀ l, H l = none → Q (.ref l) (upd H l (.tup ys))) ∨ (SqT K H p ys ∧ Q (.ref p) H))
theorem callTup (h : X.K = K) : CallR X (.type "tuple") (rTupOf K) := by
  subst h
  exact call_tuple_of
/-- a list or a tuple in slot i, walked -/
theorem src {H : Hp} {i : Nat} {a : Addr} {vs : List V} (h : SqL K H a vs ∨ SqT K H a vs) : ∃ (wi : TI) (J : It), (∀ (X : Cx) (tg l : Expr), X.K = K → PE X l (tVar i) → PI X tg l wi) ∧
    (∀ (σ : L2.St) (H2 : Hp) (R : It → Hp → Prop), Same H H2 → σ[i]? = some (some (.ref a)) → R J H2 → wi σ H2 R) ∧ ∀ H2, Same H H2 → Walk J vs.length (fun H' => Same H2 H') (YAt vs) := by
  rcases h with h | h
  · exact ⟨iList K (tVar i), Itl K a, fun X tg l e p => piL e p, fun σ H2 R s e r => ⟨_, e, a, rfl, ⟨_, s.seq h⟩, r⟩, fun H2 s => same_walkL (s.seq h)⟩
  · exact ⟨iTup K (tVar i), Itt K a, fun X tg l e p => piT e p, fun σ H2 R s e r => ⟨_, e, a, rfl, ⟨_, s.seqT h⟩, r⟩, fun H2 s => same_walkT (s.seqT h)⟩
/-- a comprehension over a walk -/
theorem lcR {α : Type} {H : Hp} {σ : L2.St} {Q : VK} {wi : TI} {J : It} {xs : List V} {as : List α} {g : TG} {tt : TT} {te : TE} {vs : List Nat} {R : Hp → α → V → Prop} {p : α → Bool} (hwi : ∀ R : It → Hp → Prop, R J H → wi σ H R)
    (w : Walk J xs.length (fun H' => Same H H') (YAt xs)) (hal : xs.length = as.length) (hz : xs.length ≤ 100000) (hR : ∀ {H1 H2 : Hp} {c : α} {y : V}, SameT H1 H2 → R H1 c y → R H2 c y)
    (he : ∀ (i : Nat) (c : V) (a : α), xs[i]? = some c → as[i]? = some a → ∀ (H2 : Hp) (Rk : VK) (Rn : Hp → Prop), Same H H2 → (∀ y H3, p a = true → Same H2 H3 → R H3 a y → Rk y H3) → (∀ H3, p a = false → Same H2 H3 → Rn H3) →
      g c (wipe σ vs) H2 fun σ2 H3 => wipe σ2 vs = wipe σ vs ∧ tt σ2 H3 fun b H4 => if b = true then te σ2 H4 Rk else Rn H4)
    (hq : ∀ D H' ys, Same H H' → H D = none → H' D = some (.lst ys) → Paired (R H') (as.filter p) ys → Q (.ref D) H') : tLc wi g tt te vs σ H Q :=
  hwi _ fun D nD => lc_rel (R := R) (p := p) (Qd := fun H1 => Q (.ref D) H1) nD w hal hz hR he fun H' ys s d pr => hq D H' ys s nD d pr
theorem dcR {α : Type} {H : Hp} {σ : L2.St} {Q : VK} {wi : TI} {J : It} {xs : List V} {as : List α} {g : TG} {tt : TT} {tk tv : TE} {vs : List Nat} {R : Hp → α → Key × V → Prop} {p : α → Bool} (hwi : ∀ R : It → Hp → Prop, R J H → wi σ H R)
    (w : Walk J xs.length (fun H' => Same H H') (YAt xs)) (hal : xs.length = as.length) (hz : xs.length ≤ 100000)
    (hR : ∀ {H1 H2 : Hp} {c : α} {y : Key × V}, SameT H1 H2 → R H1 c y → R H2 c y) (ky : α → Key) (hky : ∀ {H1 : Hp} {c : α} {y : Key × V}, R H1 c y → y.1 = ky c) (hnd : ((as.filter p).map ky).Nodup)
    (he : ∀ (i : Nat) (c : V) (a : α), xs[i]? = some c → as[i]? = some a → ∀ (H2 : Hp) (Rk : V → V → Hp → Prop) (Rn : Hp → Prop), Same H H2 → (∀ y H3, p a = true → Same H2 H3 → R H3 a y → Rk (kV y.1) y.2 H3) → (∀ H3, p a = false → Same H2 H3 → Rn H3) →
      g c (wipe σ vs) H2 fun σ2 H3 => wipe σ2 vs = wipe σ vs ∧ tt σ2 H3 fun b H4 => if b = true then tk σ2 H4 fun y H5 => tv σ2 H5 fun z H6 => Rk y z H6 else Rn H4)
    (hq : ∀ D H' ys, Same H H' → H D = none → H' D = some (.dK ys) → Paired (R H') (as.filter p) ys → Q (.ref D) H') : tDc wi g tt tk tv vs σ H Q :=
  hwi _ fun D nD => dc_rel (R := R) (p := p) (Qd := fun H1 => Q (.ref D) H1) nD w hal hz hR ky hky hnd he fun H' ys s d pr => hq D H' ys s nD d pr
theorem filterY {α : Type} {xs : List α} : xs.filter (fun _ => true) = xs := by simp
theorem paired_map {α β : Type} {f : α → β} : ∀ {l : List α} {m : List β}, Paired (fun a b => b = f a) l m → m = l.map f
  | _, _, .nil => rfl
  | _, _, .cons h t => by rw [h, paired_map t]; rfl
/-- ... each element a value of its own -/
theorem lcF {α : Type} {H : Hp} {σ : L2.St} {Q : VK} {wi : TI} {J : It} {xs : List V} {as : List α} {g : TG} {te : TE} {vs : List Nat} {f : α → V} (hwi : ∀ R : It → Hp → Prop, R J H → wi σ H R)
    (w : Walk J xs.length (fun H' => Same H H') (YAt xs)) (hal : xs.length = as.length) (hz : xs.length ≤ 100000)
    (he : ∀ (i : Nat) (c : V) (a : α), xs[i]? = some c → as[i]? = some a → ∀ (H2 : Hp) (Rk : VK), Same H H2 → (∀ H3, Same H2 H3 → Rk (f a) H3) → g c (wipe σ vs) H2 fun σ2 H3 => wipe σ2 vs = wipe σ vs ∧ te σ2 H3 Rk)
    (hq : ∀ D H', Same H H' → H D = none → H' D = some (.lst (as.map f)) → Q (.ref D) H') : tLc wi g tYes te vs σ H Q := by
  refine lcR (R := fun _ a y => y = f a) (p := fun _ => true) hwi w hal hz (fun _ h => h) (fun i c a hc ha H2 Rk Rn s k _ => ?_) fun D H' ys s nD d pr => ?_
  · have := he i c a hc ha H2 Rk s fun H3 s3 => k _ H3 rfl s3 rfl
    exact this
  · rw [filterY] at pr
    rw [paired_map pr] at d
    exact hq D H' s nD d
theorem lcF1 {α : Type} {H : Hp} {σ : L2.St} {J : It} {xs : List V} {as : List α} {g : TG} {te : TE} {vs : List Nat} {f : α → V} {Qd : Hp → Prop} {D : Addr} (nD : H D = none)
    (w : Walk J xs.length (fun H' => Same H H') (YAt xs)) (hal : xs.length = as.length) (hz : xs.length ≤ 100000)
    (he : ∀ (i : Nat) (c : V) (a : α), xs[i]? = some c → as[i]? = some a → ∀ (H2 : Hp) (Rk : VK), Same H H2 → (∀ H3, Same H2 H3 → Rk (f a) H3) → g c (wipe σ vs) H2 fun σ2 H3 => wipe σ2 vs = wipe σ vs ∧ te σ2 H3 Rk)
    (hq : ∀ H', Same H H' → H' D = some (.lst (as.map f)) → Qd H') :
    ∃ W : Nat → Nat → Hp → Prop, (∃ m, W 0 m (upd H D (.lst []))) ∧ ∀ i' m H', W i' m H' →
      (J.stop i' H' ∧ Qd H') ∨ (J.go i' H' ∧ ∃ Nx : Hp → Prop, (∀ H', Nx H' → ∃ m', m' < m ∧ W (i' + 1) m' H') ∧ ∀ x H2, J.yld i' H' x H2 → g x (wipe σ vs) H2 fun σ2 H2 => wipe σ2 vs = wipe σ vs ∧ tYes σ2 H2 fun b H3 =>
        if b = true then te σ2 H3 fun y H4 => ∃ acc, H4 D = some (.lst acc) ∧ acc.length < sizeLine ∧ Nx (upd H4 D (.lst (acc ++ [y]))) else Nx H3) := by
  refine lc_rel (R := fun _ a y => y = f a) (p := fun _ => true) nD w hal hz (fun _ h => h) (fun i c a hc ha H2 Rk Rn s k _ => ?_) fun H' ys s d pr => ?_
  · exact he i c a hc ha H2 Rk s fun H3 s3 => k _ H3 rfl s3 rfl
  · rw [filterY] at pr
    rw [paired_map pr] at d
    exact hq H' s d
/-- for path, lines in rows: the target of a row -/
theorem g_row {H : Hp} {σ : L2.St} {i j : Nat} {c : V} {f : File} {Q : L2.St → Hp → Prop} (h : RowAt K H c f) (hq : ∀ w, LinesAt K H w f.2 → Q ((σ.set i (some (.str f.1))).set j (some w)) H) :
    gTup K 2 (gCons (gName i) (gCons (gName j) gNil)) c σ H Q := by
  obtain ⟨t, w, rfl, ht, hl⟩ := h
  exact ⟨t, _, rfl, ht, rfl, _, _, rfl, _, _, rfl, rfl, hq w hl⟩
/-- the keys of a locked dict, walked -/
theorem same_walkK {H : Hp} {d : Addr} {o : Obj} {kvs : List (Key × V)} (h : H d = some (.frz o (.dK kvs))) : Walk (Itk d o kvs) (kvs.map fun kv => kV kv.1).length (fun H' => Same H H') (YAt (kvs.map fun kv => kV kv.1)) := by
  rw [List.length_map]
  refine walk_keys.mono (fun _ s => s _ _ h) fun i H1 x H2 _ _ y => ?_
  obtain ⟨e, k, v, e1, e2⟩ := y
  exact ⟨e, by rw [List.getElem?_map, e1, e2]; rfl⟩
theorem unlock {H H' : Hp} {d : Addr} {u : HO} {od : Obj} (s : Same (upd H d (.frz od u)) H') (h : H d = some u) : Same H (upd H' d u) := fun b o e => by
  by_cases hb : b = d
  · rw [hb, upd_same, ← h, ← hb, e]
  · rw [upd_ne hb]
    exact s b o (by rw [upd_ne hb]; exact e)
theorem same_at {H H' : Hp} (s : Same H H') {b : Addr} (n : H' b = none) : H b = none := by
  cases e : H b with
  | none => rfl
  | some o => rw [s _ _ e] at n; cases n
theorem passF {X : Cx} : Passes (L2.CX X.prog X.w) X (fun _ _ _ => False) := fun _ _ _ _ _ _ _ h => by
  obtain ⟨_, _, _, _, _, _, _, _, _, _, _, _, z⟩ := h
  exact z.elim
end
end Ga

set_option maxRecDepth 100000
set_option maxHeartbeats 4000000
/-! Go: files in the order of their paths. -/
namespace Ga
open PySem PySem.Spec PyProof.Rows L2 TL
/-- x is not behind y -/
def leS (x y : Str) : Prop := ltCps y.cps.toList x.cps.toList = false
instance (x y : Str) : Decidable (leS x y) := inferInstanceAs (Decidable (_ = _))
theorem leS_iff {x y : Str} : leS x y ↔ tl x ≤ tl y := by
  unfold leS
  rw [ltCps_eq, decide_eq_false_iff_not]
  exact Iff.rfl
theorem leS_total (x y : Str) : leS x y ∨ leS y x := by
  rw [leS_iff, leS_iff]
  exact List.le_total _ _
theorem leS_trans {x y z : Str} (a : leS x y) (b : leS y z) : leS x z := by
  rw [leS_iff] at *
  exact List.le_trans a b
theorem leS_anti {x y : Str} (a : leS x y) (b : leS y x) : x = y := by
  rw [leS_iff] at *
  have e : tl x = tl y := List.le_antisymm a b
  cases x with
  | mk x =>
    cases y with
    | mk y =>
      have e2 : x.toList = y.toList := e
      rw [Array.toList_inj.mp e2]
theorem leS_refl (x : Str) : leS x x := (leS_total x x).elim id id
theorem perm_eq {α : Type} {r : α → α → Prop} (anti : ∀ a b, r a b → r b a → a = b) : ∀ {l m : List α}, l.Perm m → l.Pairwise r → m.Pairwise r → l = m
  | [], m, p, _, _ => p.nil_eq
  | a :: l, [], p, _, _ => p.symm.nil_eq.symm
  | a :: l, b :: m, p, h1, h2 => by
    have c1 := List.pairwise_cons.mp h1
    have c2 := List.pairwise_cons.mp h2
    have e : a = b := by
      have m1 : a ∈ b :: m := p.mem_iff.mp List.mem_cons_self
      have m2 : b ∈ a :: l := p.mem_iff.mpr List.mem_cons_self
      rcases List.mem_cons.mp m1 with e | m1
      · exact e
      · rcases List.mem_cons.mp m2 with e | m2
        · exact e.symm
        · exact anti _ _ (c1.1 _ m2) (c2.1 _ m1)
    subst e
    rw [perm_eq anti (List.Perm.cons_inv p) c1.2 c2.2]
theorem rising_pw : ∀ (p : Str) (l : List Str), risingS p l = true → (p :: l).Pairwise leS
  | p, [], _ => List.pairwise_singleton _ _
  | p, x :: r, h => by
    obtain ⟨h1, h2⟩ := Bool.and_eq_true_iff.mp h
    have ih := rising_pw x r h2
    have px : leS p x := by
      unfold leS
      cases e : ltCps x.cps.toList p.cps.toList with
      | false => rfl
      | true => rw [e] at h1; cases h1
    refine List.pairwise_cons.mpr ⟨fun y hy => ?_, ih⟩
    rcases List.mem_cons.mp hy with rfl | hy
    · exact px
    · exact leS_trans px ((List.pairwise_cons.mp ih).1 y hy)
theorem sorted_pw : ∀ {l : List Str}, sortedS l = true → l.Pairwise leS
  | [], _ => List.Pairwise.nil
  | x :: r, h => rising_pw x r h
/-- put in its place -/
def insF (f : File) : List File → List File
  | [] => [f]
  | g :: r => if leS f.1 g.1 then f :: g :: r else g :: insF f r
def srtF : List File → List File
  | [] => []
  | f :: r => insF f (srtF r)
theorem insF_perm (f : File) : ∀ l : List File, (insF f l).Perm (f :: l)
  | [] => List.Perm.refl _
  | g :: r => by
    unfold insF
    split
    · exact List.Perm.refl _
    · exact ((insF_perm f r).cons g).trans (List.Perm.swap f g r)
theorem srtF_perm : ∀ l : List File, (srtF l).Perm l
  | [] => List.Perm.refl _
  | f :: r => (insF_perm f (srtF r)).trans ((srtF_perm r).cons f)
abbrev leF (f g : File) : Prop := leS f.1 g.1
theorem insF_pw (f : File) : ∀ {l : List File}, l.Pairwise leF → (insF f l).Pairwise leF
  | [], _ => List.pairwise_singleton _ _
  | g :: r, h => by
    have c := List.pairwise_cons.mp h
    unfold insF
    split
    · rename_i e
      refine List.pairwise_cons.mpr ⟨fun y hy => ?_, h⟩
      rcases List.mem_cons.mp hy with rfl | hy
      · exact e
      · exact leS_trans e (c.1 y hy)
    · rename_i e
      refine List.pairwise_cons.mpr ⟨fun y hy => ?_, insF_pw f c.2⟩
      rcases List.mem_cons.mp ((insF_perm f r).mem_iff.mp hy) with rfl | hy
      · exact (leS_total _ _).resolve_left e
      · exact c.1 y hy
theorem srtF_pw : ∀ l : List File, (srtF l).Pairwise leF
  | [] => List.Pairwise.nil
  | f :: r => insF_pw f (srtF_pw r)
theorem srtF_len (l : List File) : (srtF l).length = l.length := (srtF_perm l).length_eq
/-- the one way to sort them -/
theorem sorted_is {ys : List Str} {fs : List File} (p : ys.Perm (fs.map (·.1))) (h : sortedS ys = true) : ys = (srtF fs).map (·.1) :=
  perm_eq (fun _ _ => leS_anti) (p.trans ((srtF_perm fs).symm.map _)) (sorted_pw h) (List.pairwise_map.mpr (srtF_pw fs))
theorem file_eq : ∀ {l : List File}, (l.map (·.1)).Nodup → ∀ {f g : File}, f ∈ l → g ∈ l → f.1 = g.1 → f = g := by
  intro l
  induction l with
  | nil => intro _ f g h; cases h
  | cons a l ih =>
    intro nd f g hf hg e
    have nd2 := List.nodup_cons.mp nd
    rcases List.mem_cons.mp hf with rfl | hf1
    · rcases List.mem_cons.mp hg with rfl | hg1
      · rfl
      · exact (nd2.1 (List.mem_map.mpr ⟨g, hg1, e.symm⟩)).elim
    · rcases List.mem_cons.mp hg with rfl | hg1
      · exact (nd2.1 (List.mem_map.mpr ⟨f, hf1, e⟩)).elim
      · exact ih nd2.2 hf1 hg1 e
/-- files of different paths are sorted in one way only -/
theorem sortedF_is {gs fs : List File} (p : gs.Perm fs) (nd : (fs.map (·.1)).Nodup) (h : gs.Pairwise leF) : gs = srtF fs := by
  have eqp : gs.map (·.1) = (srtF fs).map (·.1) := perm_eq (fun _ _ => leS_anti) ((p.trans (srtF_perm fs).symm).map _) (List.pairwise_map.mpr h) (List.pairwise_map.mpr (srtF_pw fs))
  have key : ∀ {f g : File}, f ∈ fs → g ∈ fs → f.1 = g.1 → f = g := fun hf hg e => file_eq nd hf hg e
  have : ∀ {l m : List File}, (∀ f ∈ l, f ∈ fs) → (∀ f ∈ m, f ∈ fs) → l.map (·.1) = m.map (·.1) → l = m := by
    intro l
    induction l with
    | nil => intro m _ _ e; cases m with | nil => rfl | cons _ _ => cases e
    | cons a l ih =>
      intro m h1 h2 e
      cases m with
      | nil => cases e
      | cons b m =>
        have e1 := List.cons.inj e
        rw [key (h1 a List.mem_cons_self) (h2 b List.mem_cons_self) e1.1, ih (fun f hf => h1 f (List.mem_cons_of_mem _ hf)) (fun f hf => h2 f (List.mem_cons_of_mem _ hf)) e1.2]
  exact this (fun f hf => p.mem_iff.mp hf) (fun f hf => (srtF_perm fs).mem_iff.mp hf) eqp
end Ga

set_option maxRecDepth 100000
set_option maxHeartbeats 4000000
/-! Gw: rows sorted: no two have the same path. -/
namespace Ga
open PySem PySem.Spec PyProof.Rows L2 TL SrtO Srt
/-- a tuple whose first item is this text -/
def RowO (h : Heap) (v : Value) (x : Str) : Prop := ∃ a o t u n, v = .ref a ∧ h.get? a = some o ∧ o.cls = .type "tuple" ∧ o.data = .seq #[.str x t, u] n
theorem RowO.keeps {h h' : Heap} {v : Value} {x : Str} (p : RowO h v x) (k : ∀ b o, h.get? b = some o → o.cls = .type "tuple" → h'.get? b = some o) : RowO h' v x := by
  obtain ⟨a, o, t, u, n, e, ho, hc, hd⟩ := p
  exact ⟨a, o, t, u, n, e, k _ _ ho hc, hc, hd⟩
abbrev ltS (x y : Str) : Bool := decide (x.cps.toList < y.cps.toList)
theorem ltS_no {x y : Str} : ltS x y = false ↔ leS y x := by
  unfold leS
  rw [ltCps_eq]
theorem swo_rows (k : Value → Str) : Swo fun v u => ltS (k v) (k u) := by
  refine ⟨fun x y h => ?_, fun x y z h1 h2 => ?_⟩
  · rw [ltS_no]
    refine (leS_total _ _).resolve_right fun z => ?_
    rw [← ltS_no, h] at z
    cases z
  · rw [ltS_no] at *
    exact leS_trans h1 h2
section
variable {prog : Program} {w : World} {A : Around} {E : Value → Shared → Prop} {s : Shared}
theorem row_cmp {vs : List Value} {k : Value → Str} (hp : ∀ v ∈ vs, RowO s.heap v (k v)) (inj : ∀ v ∈ vs, ∀ u ∈ vs, k v = k u → v = u) : Cmp prog w A s (tuples' true) (fun p => p.1 ∈ vs) (lt2 fun v u => ltS (k v) (k u)) := by
  intro p q hm hm'
  have h1 := hp _ hm
  have h2 := hp _ hm'
  have ij := inj _ hm _ hm'
  show wpAny (model prog w) A (keyLt' (tuples' true) p.1 q.1) (fun r s' => s' = s ∧ r = ltS (k p.1) (k q.1)) (fun _ _ => False) s
  generalize k p.1 = x at h1 ij ⊢
  generalize k q.1 = y at h2 ij ⊢
  obtain ⟨a, o, t, u, n, e, ho, hc, hd⟩ := h1
  obtain ⟨a', o', t', u', n', e', ho', hc', hd'⟩ := h2
  rw [e, e'] at ij ⊢
  refine PySem.W.kat_lt ho hd ho' hd' ?_
  show PySem.W.KatLex prog w A true (decide (2 < 2)) _ [(.str x t, .str y t'), (u, u')] 0 s
  refine PySem.W.kat_cons (SeqAt.EqAt.str_str x t y t' prog w _ _ ?_)
  refine PySem.W.kat_go (fun e1 => ?_) (fun e1 => ?_)
  · have ex : x = y := by simpa using e1
    have ea := Value.ref.inj (ij ex)
    subst ea
    rw [ho] at ho'
    cases ho'
    rw [hd] at hd'
    have eu : u = u' := by
      have z := Data.seq.inj hd'
      have z2 := congrArg Array.toList z.1
      exact (List.cons.inj (List.cons.inj z2).2).1
    subst eu
    refine PySem.W.kat_yes (PySem.W.kat_cons (SeqAt.EqAt.same u prog w _ _ ?_))
    refine PySem.W.kat_go (fun _ => PySem.W.kat_yes (PySem.W.kat_nil ⟨rfl, ?_⟩)) fun z => nomatch z
    rw [ex]
    exact (ltS_no.mpr (leS_refl y)).symm
  · exact PySem.W.kat_no (oneLt_str ⟨rfl, rfl⟩)
theorem firstsR {h : Heap} : ∀ {vs : List Value}, (∀ v ∈ vs, ∃ x, RowO h v x) → ∃ fs : List Value, PySem.W.KatTups h vs fs ∧ fs.length = vs.length ∧ ∀ f ∈ fs, ∃ x t, f = Value.str x t
  | [], _ => ⟨[], PySem.W.KatTups.nil, rfl, fun _ hm => by cases hm⟩
  | v :: vs, hp => by
    obtain ⟨fs, h1, h2, h3⟩ := firstsR (vs := vs) fun v' hm => hp v' (List.mem_cons_of_mem _ hm)
    obtain ⟨x, a, o, t, u, n, e, ho, hc, hd⟩ := hp v List.mem_cons_self
    subst e
    refine ⟨.str x t :: fs, PySem.W.KatTups.cons ho hc hd rfl h1, congrArg Nat.succ h2, fun f hm => ?_⟩
    rcases List.mem_cons.mp hm with rfl | hm
    · exact ⟨x, t, rfl⟩
    · exact h3 f hm
theorem rows_sortable {a : Addr} {vs : List Value} {k : Value → Str} (h0 : 0 < vs.length) (hp : ∀ v ∈ vs, RowO s.heap v (k v)) (inj : ∀ v ∈ vs, ∀ u ∈ vs, k v = k u → v = u) (ha : ∀ o, s.heap.get? a = some o → o.cls ≠ .type "tuple") :
    SortableO prog w A s a vs fun v u => ltS (k v) (k u) := by
  intro h' keep
  have hp' : ∀ v ∈ vs, RowO h' v (k v) := fun v hm => (hp v hm).keeps fun b o e c => keep b o (fun z => ha o (z ▸ e) c) e
  obtain ⟨fs, h1, h2, h3⟩ := firstsR fun v hm => ⟨_, hp' v hm⟩
  refine ⟨tuples' true, fun Q E hq => ?_, row_cmp hp' inj⟩
  refine PySem.W.kat_kind (T := .type "str") h1 (by omega) (fun f hm => ?_) (by rfl) ?_
  · obtain ⟨x, t, rfl⟩ := h3 f hm
    exact PySem.W.Looks.now
  · have e : (Value.type "str" != Value.type "tuple") = true := by first | decide +kernel | rfl | decide
    rw [e]
    exact hq
/-- sorted of a tuple: its items are put into a list first -/
theorem collectT {l : Addr} {vs : List Value} {Q : List Value → Shared → Prop} (hl : s.heap.IsTuple l vs.toArray) (hz : vs.length ≤ sizeLine)
    (h : Q vs { s with heap := (s.heap.push (seqObj "list" #[] 0)).update s.heap.objs.size (Obj.mapSeq (· ++ vs.toArray)) }) : wpAny (model prog w) A (collect (.ref l)) Q E s := by
  obtain ⟨o, ho, hc, n, hd⟩ := hl
  have ho' : (s.heap.push (seqObj "list" #[] 0)).get? l = some o := Heap.get?_push_of_some _ ho
  have hN : (s.heap.push (seqObj "list" #[] 0)).get? s.heap.objs.size = some (seqObj "list" #[] 0) := Heap.get?_push_size _ rfl
  unfold collect
  refine wpAny_bind (wpAny_runValue (codeAny_builtin entry_proto_collect' ?_))
  refine wpAny_bind (wpAny_newList (wpAny_pure ⟨Code.quiet_builtin _ (by decide +kernel), codeAny_builtin entry_list_iadd' ?_⟩))
  show wpAny _ _ (Builtin.List.listExtendWith (.ref s.heap.objs.size) (.ref l) (.ref s.heap.objs.size)) _ _ { s with heap := s.heap.push (seqObj "list" #[] 0) }
  unfold Builtin.List.listExtendWith
  refine wpAny_bind (wpAny_typeOf (T := "tuple") ⟨o, ho', hc⟩ ?_)
  rw [if_pos (by rw [Bool.or_eq_true]; exact .inr rfl)]
  refine wpAny_bind (listItems_at ho' hd (wpAny_bind (listItems_at (xs := #[]) (n := 0) hN rfl ?_)))
  rw [if_neg (by simp)]
  refine wpAny_bind (listUpdate_at (xs := #[]) (n := 0) hN rfl ?_ (Nat.zero_le _) (by show (#[] ++ vs.toArray).size ≤ sizeLine + 1; simp only [Array.size_append, List.size_toArray, List.length_nil]; omega))
  refine wpAny_pure ?_
  refine wpAny_bind (wpAny_load (get?_update_seq hN _) ?_)
  show wpAny _ _ (pure ((#[] : Array Value) ++ vs.toArray).toList) Q E _
  rw [show ((#[] : Array Value) ++ vs.toArray).toList = vs by simp]
  exact wpAny_pure h
theorem sortedT_ord {l : Addr} {vs : List Value} {ltv : Value → Value → Bool} {Q : Value → Shared → Prop} (O : Swo ltv) (hl : s.heap.IsTuple l vs.toArray) (hz : vs.length ≤ sizeLine)
    (hS : 2 ≤ vs.length → ∀ (h₁ : Heap) (a : Addr), h₁.get? a = some (seqObj "list" vs.toArray 0) → (∀ b o, s.heap.get? b = some o → b ≠ a ∧ h₁.get? b = some o) → SortableO prog w A.in1.in1 { s with heap := h₁ } a vs ltv)
    (h : ∀ out : List Value, Srtd ltv out → Stb ltv out vs → Q (.ref (s.heap.objs.size + 1)) { s with heap := sortedAll s.heap vs out.toArray }) :
    wpAny (model prog w) A (call (.builtin "sorted") [.ref l]) Q E s := by
  refine Calls.call_function_entry kind_sorted plain_sorted entry_sorted (args_sorted1 _) ?_
  unfold Builtin.«sorted»
  refine wpAny_bind (m := checkCount "sorted" 1 1 _) (wpAny_pure ?_)
  refine wpAny_bind (collectT hl hz ?_)
  refine wpAny_bind (wpAny_newList ?_ hz)
  let g : Heap := (s.heap.push (seqObj "list" #[] 0)).update s.heap.objs.size (Obj.mapSeq (· ++ vs.toArray))
  have hsz : g.objs.size = s.heap.objs.size + 1 := by show (Heap.update _ _ _).objs.size = _; rw [Heap.size_update, size_push']
  have hoL : (g.push (seqObj "list" vs.toArray 0)).get? (s.heap.objs.size + 1) = some (seqObj "list" vs.toArray 0) := by
    rw [← hsz]
    exact Heap.get?_push_size _ rfl
  have kk : ∀ b o, s.heap.get? b = some o → b ≠ s.heap.objs.size + 1 ∧ (g.push (seqObj "list" vs.toArray 0)).get? b = some o := fun b o q => by
    have lt := Heap.lt_size q
    refine ⟨Nat.ne_of_lt (Nat.lt_succ_of_lt lt), Heap.get?_push_of_some _ ((Heap.get?_update_ne _ _ _ _ (Nat.ne_of_lt lt)).trans (Heap.get?_push_of_some _ q))⟩
  show wpAny _ _ _ _ _ { s with heap := g.push (seqObj "list" vs.toArray 0) }
  rw [show ((s.heap.push (seqObj "list" #[] 0)).update s.heap.objs.size (Obj.mapSeq (· ++ vs.toArray))).objs.size = s.heap.objs.size + 1 from hsz]
  refine wpAny_bind (wpAny_holding (wpAny_call_entry slot_list_sort ⟨_, hoL, rfl⟩ entry_list_sort (list_sort_ord O hoL hz (fun h2 => hS h2 _ _ hoL kk) fun out hs hb => ⟨_, rfl, ?_⟩) (args_list_sort _)))
  exact wpAny_pure ⟨_, rfl, h out hs hb⟩
end
/-! ### the rows themselves -/
theorem perm_paired {α β : Type} {R : α → β → Prop} : ∀ {l l' : List α}, l'.Perm l → ∀ {m : List β}, Paired R l m → ∃ m', m'.Perm m ∧ Paired R l' m' := by
  intro l l' p
  induction p with
  | nil => intro m h; cases h; exact ⟨[], List.Perm.refl _, .nil⟩
  | cons x p ih =>
    intro m h
    cases h with
    | cons a t =>
      obtain ⟨m', p1, p2⟩ := ih t
      exact ⟨_ :: m', p1.cons _, .cons a p2⟩
  | swap x y l =>
    intro m h
    cases h with
    | cons a t =>
      cases t with
      | cons b u => exact ⟨_ :: _ :: _, List.Perm.swap _ _ _, .cons b (.cons a u)⟩
  | trans p1 p2 ih1 ih2 =>
    intro m h
    obtain ⟨m1, q1, r1⟩ := ih2 h
    obtain ⟨m2, q2, r2⟩ := ih1 r1
    exact ⟨m2, q2.trans q1, r2⟩
theorem pw_paired {α β : Type} {R : α → β → Prop} {r : α → α → Prop} {q : β → β → Prop} (h : ∀ a b c d, R a c → R b d → r a b → q c d) : ∀ {l : List α} {m : List β}, Paired R l m → l.Pairwise r → m.Pairwise q
  | _, _, .nil, _ => List.Pairwise.nil
  | _, _, .cons (a := a) a0 t, p => by
    obtain ⟨p1, p2⟩ := List.pairwise_cons.mp p
    refine List.pairwise_cons.mpr ⟨fun d hd => ?_, pw_paired (q := q) h t p2⟩
    obtain ⟨b, hb, e⟩ : ∃ b ∈ _, R b d := by
      obtain ⟨i, hi⟩ := List.getElem?_of_mem hd
      obtain ⟨b, hb, f⟩ := paired_get2 t i d hi
      exact ⟨b, List.mem_of_getElem? hb, f⟩
    exact h _ _ _ _ a0 e (p1 b hb)
open Classical in
/-- the first item, where there is one -/
noncomputable def pathOf (h : Heap) (v : Value) : Str := if e : ∃ x, RowO h v x then e.choose else ""
theorem RowO.inj {h : Heap} {v : Value} {x y : Str} (a : RowO h v x) (b : RowO h v y) : x = y := by
  obtain ⟨p, o, t, u, n, e, ho, _, hd⟩ := a
  obtain ⟨p', o', t', u', n', e', ho', _, hd'⟩ := b
  rw [e] at e'
  cases e'
  rw [ho] at ho'
  cases ho'
  rw [hd] at hd'
  have z := congrArg Array.toList (Data.seq.inj hd').1
  have z2 := (List.cons.inj z).1
  cases z2
  rfl
theorem pathOf_is {h : Heap} {v : Value} {x : Str} (a : RowO h v x) : pathOf h v = x := by
  unfold pathOf
  have e : ∃ x, RowO h v x := ⟨x, a⟩
  rw [dif_pos e]
  exact e.choose_spec.inj a
theorem row_obj {X : Cx} {pins : List (Addr × Obj)} {σ : L2.St} {H : Hp} {s : Shared} (I : Inv X pins σ H s) {v : V} {u : Value} {f : File} (h : RowAt X.K H v f) (r : RelV v u) : RowO s.heap u f.1 := by
  obtain ⟨t, w, rfl, ht, _⟩ := h
  obtain ⟨its, rv, ⟨o, ho, hc, n, hd⟩, _⟩ := I.tuple ht
  obtain ⟨u1, u2, rfl, ri, _⟩ := vals2 rv
  obtain ⟨t1, rfl⟩ := ri
  cases r
  exact ⟨t, o, t1, u2, n, rfl, ho, hc, hd⟩
/-- sorted(rows), rows a list or a tuple, no two of the same path: a new list -/
def rSortF (K : PySem.W.Frag) : List V → Hp → VK → Prop := fun vs H Q => ∃ (a : Addr) (ws : List V) (gs : List File), vs = [.ref a] ∧ (SqL K H a ws ∨ SqT K H a ws) ∧ RowsAt K H ws gs ∧ (gs.map (·.1)).Nodup ∧ gs.length ≤ 1000 ∧
  ∀ p ys, H p = none → RowsAt K (upd H p (.lst ys)) ys (srtF gs) → Q (.ref p) (upd H p (.lst ys))
theorem call_sortF {X : Cx} {K : PySem.W.Frag} (hK : X.K = K) : CallR X (.builtin "sorted") (rSortF K) := by
  subst hK
  intro pins s σ H xs us Q I r h
  obtain ⟨a, ws, gs, rfl, hS, hR, nd, hl, q⟩ := h
  obtain ⟨u, rfl, ru⟩ := vals1 r
  obtain rfl : u = Value.ref a := ru
  obtain ⟨its, rv, hz, hrun⟩ : ∃ its : List Value, Vals ws its ∧ ws.length ≤ sizeLine ∧ (s.heap.IsList a its.toArray ∨ s.heap.IsTuple a its.toArray) := by
    rcases hS with hS | hS
    · obtain ⟨its, rv, hi, hz⟩ := I.list hS
      exact ⟨its, rv, hz, .inl hi.isList⟩
    · obtain ⟨its, rv, hi, hz⟩ := I.tuple hS
      exact ⟨its, rv, hz, .inr hi⟩
  have hz2 : its.length ≤ sizeLine := by rw [← rv.length]; exact hz
  -- each item is a row
  have both : Paired (fun (u : Value) (f : File) => RowO s.heap u f.1 ∧ RowAt X.K H (backV u) f ∧ ∃ t, u = .ref t) its gs := by
    clear hz hrun hz2 q nd hl hS
    induction rv generalizing gs with
    | nil => cases hR; exact .nil
    | cons r _ ih =>
      cases hR with
      | cons h t =>
        refine .cons ⟨row_obj I h r, ?_⟩ (ih _ t)
        obtain ⟨t0, w0, rfl, e⟩ := id h
        cases r
        exact ⟨h, t0, rfl⟩
  have hp : ∀ v ∈ its, RowO s.heap v (pathOf s.heap v) := fun v hv => by
    obtain ⟨f, _, e, _⟩ := paired_mem both hv
    rw [pathOf_is e]
    exact e
  have inj : ∀ v ∈ its, ∀ u ∈ its, pathOf s.heap v = pathOf s.heap u → v = u := fun v hv u hu e => by
    obtain ⟨i, hi⟩ := List.getElem?_of_mem hv
    obtain ⟨j, hj⟩ := List.getElem?_of_mem hu
    obtain ⟨f, hf, e1, _⟩ := paired_get both i v hi
    obtain ⟨g, hg, e2, _⟩ := paired_get both j u hj
    rw [pathOf_is e1, pathOf_is e2] at e
    have e3 : (gs.map (·.1))[i]? = some f.1 := by rw [List.getElem?_map, hf]; rfl
    have e4 : (gs.map (·.1))[j]? = some f.1 := by rw [List.getElem?_map, hg, e]; rfl
    have ij : i = j := nodup_ix nd e3 e4
    rw [ij, hj] at hi
    exact (Option.some.inj hi).symm
  have fin : ∀ out : List Value, Srtd (fun v u => ltS (pathOf s.heap v) (pathOf s.heap u)) out → Stb (fun v u => ltS (pathOf s.heap v) (pathOf s.heap u)) out its →
      EP X pins σ Q (.ref (s.heap.objs.size + 1)) { s with heap := sortedAll s.heap its out.toArray } := fun out h1 h2 => by
    obtain ⟨gs', p1, p2⟩ := perm_paired h2.perm both
    have pw : gs'.Pairwise leF := pw_paired (fun v u f g ef eg z => by
      have z : ltS (pathOf s.heap u) (pathOf s.heap v) = false := z
      rw [pathOf_is ef.1, pathOf_is eg.1] at z
      exact ltS_no.mp z) p2 h1
    have eg := sortedF_is p1 nd pw
    subst eg
    have refs : ∀ u ∈ out, ∃ t, u = Value.ref t := fun u hu => by
      obtain ⟨f, _, _, _, t, e⟩ := paired_mem p2 hu
      exact ⟨t, e⟩
    obtain ⟨n, hn⟩ := sortedAll_at s.heap its out.toArray
    have nw : H (s.heap.objs.size + 1) = none := I.hok.fresh (Nat.le_succ _)
    have hl2 : (out.map backV).length ≤ sizeLine := by rw [List.length_map, h2.perm.length_eq]; exact hz2
    have J : Inv X pins σ (upd H (s.heap.objs.size + 1) (.lst (out.map backV))) { s with heap := sortedAll s.heap its out.toArray } :=
      I.laid (t' := s.toks) (fun b o e => sortedAll_old e) (Nat.le_succ _) ⟨hl2, out, n, vals_back refs, hn⟩
    refine ⟨.ref (s.heap.objs.size + 1), _, J, rfl, q _ _ nw ?_⟩
    have rows : ∀ {l : List Value} {m : List File}, Paired (fun (u : Value) (f : File) => RowO s.heap u f.1 ∧ RowAt X.K H (backV u) f ∧ ∃ t, u = .ref t) l m → RowsAt X.K H (l.map backV) m := by
      intro l m h
      induction h with
      | nil => exact .nil
      | cons a _ ih => exact .cons a.2.1 ih
    exact (rows p2).st (same_upd nw).t
  have sortable : 2 ≤ its.length → ∀ (h₁ : Heap) (b : Addr), h₁.get? b = some (seqObj "list" its.toArray 0) → (∀ c o, s.heap.get? c = some o → c ≠ b ∧ h₁.get? c = some o) →
      SortableO X.prog X.w X.A.in1.in1 { s with heap := h₁ } b its (fun v u => ltS (pathOf s.heap v) (pathOf s.heap u)) := fun h2 h₁ b hb kk => by
    refine rows_sortable (s := { s with heap := h₁ }) (by omega) (fun v hm => (hp v hm).keeps fun c o e _ => (kk c o e).2) inj fun o e => ?_
    have e' : some o = some (seqObj "list" its.toArray 0) := e.symm.trans hb
    cases e'
    intro c
    exact absurd (Value.type.inj c) (by decide)
  rcases hrun with hi | hi
  · exact sorted_ord (swo_rows _) hi hz2 sortable fin
  · exact sortedT_ord (swo_rows _) hi hz2 sortable fin
end Ga

set_option maxRecDepth 100000
set_option maxHeartbeats 4000000
/-! Gx: an own exception's __init__ that says super().__init__(..) first. -/
namespace Ga
open PySem PySem.Spec PyProof.Rows L2 TL NdefX
/-- what the top has left of such an __init__ -/
structure SupIn (P : Program) (K : PySem.W.Frag) (f C : Addr) (F : NF) (fd : FuncData) : Prop where
  ex : ∃ (oc ccl cl : Value) (od cdd cld : Option Addr) (osl ccs csl : Array (Option Value)) (doc pm ctv : Value) (vs : Array Value) (file : Str) (tf : Tok) (cc : Addr), fd = F.fd doc pm ctv ∧
    K.lookup f = some ⟨oc, od, .func (F.fd doc pm ctv), osl⟩ ∧ PySem.W.codeIn K (.ref F.c) F.qual = true ∧ K.lookup F.c = some ⟨ccl, cdd, .fields vs, ccs⟩ ∧ vs[2]? = some (.str file tf) ∧
    ((P.main.file : Str) == file) = true ∧ F.cl = [(("__class__" : Str), cc)] ∧ K.lookup cc = some ⟨cl, cld, .cell (some (.ref C)), csl⟩
/-- what the written part says of its class -/
structure SupC (K : PySem.W.Frag) (C : Addr) : Prop extends OexC K C where
  self : PySem.W.mroIn K C (.ref C) = some true
  sup : PySem.W.ks_superIn K C C "__init__" = some (some (.builtin "ValueError.__init__"))
  ve : PySem.W.subIn K (.ref C) (.type "ValueError") = some true
  any : PySem.W.nsIn K cStatics "thirdparty.any" = some none
/-- what its text says -/
structure SupT (P : Program) (F : NF) (N ps : List Str) (ar : Arg) : Prop where
  scope : NScope N ps ["__class__"] F.scope
  head : (F.params.posonlyargs ++ F.params.args).head? = some ar
  name : ps[0]? = some ar.arg
  ks : F.scope.names.lookup ("super" : Str) = some .globalImplicit
  top : (P.main.scope.names.lookup ("super" : Str)).isSome = false
section
variable {P : Program} {w : World} {K : PySem.W.Frag} {mg : Str → Option Value} {base : Heap}
theorem ok_sup {k : Nat} {f C : Addr} {F : NF} {fd : FuncData} {N ps : List Str} {sp : Sp} {ar : Arg} {e : Expr} {es : List Expr} {rest : List Stmt} {p0 p1 p2 p3 p4 : Pos}
    (SI : SupIn P K f C F fd) (SC : SupC K C) (ST : SupT P F N ps ar) (hsuper : mg "super" = none)
    (hbody : F.body = .Expr (.Call (.Attribute (.Call (.Name "super" p0) [] [] p1) "__init__" p2) (e :: es) [] p3) p4 :: rest)
    (len : ∀ vs H Q E, sp vs H Q E → vs.length = ps.length)
    (hi : ∀ L, interactive (envF F f L) = false) (hsw : ∀ L, swapsWith (.Call (.Attribute (.Call (.Name "super" p0) [] [] p1) "__init__" p2) (e :: es) [] p3) none p4.line (envF F f L) = pure false)
    (hev : ∀ L, ∃ pl : Sem Bool, eval (.Call (.Attribute (.Call (.Name "super" p0) [] [] p1) "__init__" p2) (e :: es) [] p3) (envF F f L) = (do
      let ov ← attributeBase (.Call (.Name "super" p0) [] [] p1) "__init__" (envF F f L) (eval (.Call (.Name "super" p0) [] [] p1) (envF F f L))
      standAt p2.atName
      let (f', first) ← holding [ov] (getMethod ov "__init__" pl)
      callWith p3 f' first (backTo p3 (starEach (e :: es) (envF F f L))) []))
    (he : ∀ L, starEach (e :: es) (envF F f L) = (false, eval e (envF F f L)) :: starEach es (envF F f L)) (hpl : ∀ L, (backTo p3 (starEach es (envF F f L))).any (·.1) = false)
    (hb : ∀ (A : Around) (outer : List Env) (s : Shared) (H : Hp) (vs : List V) (Q : VK) (E : XK), Room k (A.deeper (envF F f s.heap.objs.size)) → sp vs H Q E →
      ∃ (a : Addr) (tA : TA) (t : TS), vs[0]? = some (.ref a) ∧ H a = some (exo a C none) ∧ PA (ncx CX0 P w K mg base N F f A outer s H E) (e :: es) tA ∧ PSs (ncx CX0 P w K mg base N F f A outer s H E) rest t ∧
        tA (startF N vs [none]) H fun ws H1 => ws.length ≤ 1000 ∧ H1 a = some (exo a C none) ∧ t { nx := fun _ H' => Q .non H', rt := Q } (startF N vs [none]) H1) :
    FnOk P w K mg base CX0 (k + 1) f fd ps sp := by
  obtain ⟨oc, ccl, cl, od, cdd, cld, osl, ccs, csl, doc, pm, ctv, vs2, file, tf, cc, rfl, lk, hcd, lc, hvs, hfile, hcl, lcell⟩ := SI.ex
  obtain ⟨nm, qn, N', bs, bm, sn, sub, ab, col, dd, k0, k1, k2, k3, k5, hC, hbm⟩ := SC.cls
  have S := ST.scope
  refine ⟨len, fun A outer s H args us vs Q E hr e0 hbi r hsp => ?_⟩
  have hl := len _ _ _ _ hsp
  have keep : ∀ b o, base.get? b = some o → s.heap.get? b = some o := fun b o e => (e0.bs b o e).1
  have KX := e0.mod.kin.keeps keep
  have lim := e0.mod.nolimit.keeps keep
  have CC : CellsAt F.cl ["__class__"] [none] s.heap H := by
    rw [hcl]
    have one : ∀ {y : Str} {c : Addr}, List.lookup y [(("__class__" : Str), cc)] = some c → y = "__class__" ∧ c = cc := by
      intro y c e
      by_cases q : y = "__class__"
      · subst q
        simp [List.lookup] at e
        exact ⟨rfl, e.symm⟩
      · have q2 : (y == ("__class__" : Str)) = false := by simpa using q
        simp [List.lookup, q2] at e
    refine ⟨rfl, fun y c e => ?_, fun x y c e1 e2 => (one e1).1.trans (one e2).1.symm, fun i y e => ?_⟩
    · obtain ⟨rfl, rfl⟩ := one e
      exact ⟨(e0.bs _ _ (e0.mod.kin _ _ lcell)).2, _, _, KX _ _ lcell, rfl⟩
    · cases i with
      | zero =>
        cases e
        exact ⟨cc, by simp [List.lookup], fun v z => by cases z⟩
      | succ i => cases e
  refine ks_codeAny_call_defAt (fd := F.fd doc pm ctv) (body := F.body) (binds := ps.zip us) hr.depth (KX _ _ lk) rfl lim (PySem.W.codeRec_of KX hcd) rfl hbi S.nocell (fun y hy => S.par y.1 (List.of_mem_zip (a := y.1) (b := y.2) hy).1) (fun h₁ hns kp => ?_) S.co S.gen S.kind
  have I : Inv (ncx CX0 P w K mg base N F f A outer s H E) [] (startF N vs [none]) H { s with heap := h₁, toks := s.toks + (ps.zip us).length } := inv_startN S hr.hd e0 hl r CC hns kp
  obtain ⟨a, tA, t, hv0, ea, hA, hR, hq⟩ := hb A outer s H vs Q E (hr.deeper _) hsp
  show _root_.PySem.wpAt (model P w) (A.deeper (envF F f s.heap.objs.size)) (.func F.body (envF F f s.heap.objs.size)) (execs F.body (envF F f s.heap.objs.size)) _ _ _
  have X1 : K.In h₁ := I.kIn
  obtain ⟨u0, hu0, ru0⟩ := r.get hv0
  obtain rfl : u0 = Value.ref a := ru0
  have hself : (ps.zip us).reverse.lookup ar.arg = some (.ref a) := by
    have ndP : ps.Nodup := by
      have q : (ps ++ [("__class__" : Str)]).Nodup := by
        rw [← S.pre]
        exact S.nd.sublist (List.take_sublist _ N)
      exact (List.nodup_append.mp q).1
    exact zip_look ndP ST.name hu0
  have hka : F.scope.names.lookup ar.arg = some .local := S.par _ (List.mem_of_getElem? ST.name)
  have hkc : F.scope.names.lookup ("__class__" : Str) = some .free := S.frk _ (by simp)
  rw [hbody]
  obtain ⟨pl, hpl1⟩ := hev s.heap.objs.size
  refine ks_wpAt_execs_cons (ks_wpAt_Expr_any (ks_wpAt_MethodCall (pl := pl) ?_ hpl1) (hi _) (hsw _))
  refine ks_wpAt_super_base (env := envF F f s.heap.objs.size) ST.ks hkc (by decide) rfl (X1 _ _ lk) rfl ST.head rfl (X1 _ _ lc) rfl hvs hfile ST.top ?_
  obtain ⟨mb, hb1, hb2⟩ := I.mod.blt
  refine PySem.W.ks_loadName_global S.kind ST.ks (Calls.loadGlobal_builtin (env := envF F f s.heap.objs.size) (I.mod.glob.keeps I.bk) hsuper (hb1.keeps I.bk) ((hb2 _ (by decide)).trans (show bootBuiltins "super" = some (.type "super") by decide +kernel)) ⟨rfl, ?_⟩)
  refine wpAny_loadName_free S.kind hkc (c := cc) (by show F.cl.lookup _ = _; rw [hcl]; simp [List.lookup]) ⟨_, X1 _ _ lcell, rfl⟩ ?_
  refine wpAny_loadName_local S.kind hka hns hself ?_
  obtain ⟨t1, ho⟩ := exo_at I.hok ea
  have hc1 := X1 _ _ hC
  refine ks_wpAny_isType_cls hc1 rfl ⟨rfl, ?_⟩
  refine ks_wpAny_call_super hc1 rfl ho rfl (fun c z => by cases z) (PySem.W.looks_mroIn X1 SC.self) (fun h2 hso kp2 => ?_)
  have X2 : K.In h2 := X1.keeps kp2
  have I2 := I.kept (t' := s.toks + (ps.zip us).length) kp2
  have ho2 := kp2 _ _ ho
  have hsupA := SC.sup
  have I0 : PySem.W.InstAt h2 a _ C none := ⟨ho2, rfl, rfl, trivial⟩
  have hIn : PySem.W.Looks (model P w) h2 (isInstance (.ref a) (.type "ValueError")) true := I0.type.andThen (PySem.W.looks_subIn X2 SC.ve)
  have hcl1 : PySem.W.clsIn K C = some { name := nm, bases := bs, mro := .ref C :: bm, ns := N', qualname := qn, hasDict := true, slotNames := sn, subclasses := sub, abstract := ab, collection := col, hasDel := false } := by unfold PySem.W.clsIn; rw [hC] <;> rfl
  unfold PySem.W.ks_superIn at hsupA
  rw [hcl1] at hsupA
  refine PySem.W.kxs_getMethod PySem.W.kxs_ValueError hso (PySem.W.looks_opaque X2 SC.any) (l₀ := .ref C :: bm) ?_ rfl X2 hsupA hIn (PySem.W.ks_ne X2 I0 hcl1) (by decide) ?_
  · exact fun A Q E s k q => wpAny_bind ((PySem.W.looks_clsIn X2 hcl1) A _ E s k (wpAny_pure q))
  let u : Addr := h2.objs.size
  have hu : (h2.push (PySem.W.kxs_mw "ValueError.__init__" a)).get? u = some (PySem.W.kxs_mw "ValueError.__init__" a) := Heap.get?_push_at rfl rfl
  have I3 := I2.kept (h' := h2.push (PySem.W.kxs_mw "ValueError.__init__" a)) (t' := s.toks + (ps.zip us).length + 1) (fun b o z => Heap.get?_push_of_some _ z)
  have I4 : Inv (ncx CX0 P w K mg base N F f A outer s H E) [(u, PySem.W.kxs_mw "ValueError.__init__" a)] _ H _ := I3.pins_of fun p hp => by
    obtain rfl := List.mem_singleton.mp hp
    have f0 := I2.fpOk (b := u) (Nat.le_refl _) (I2.hok.fresh (Nat.le_refl _))
    exact ⟨hu, f0.1, f0.2.1, f0.2.2.1, fun v z => by cases z⟩
  show wpAny (model P w) _ (callWith p3 (.ref u) [] (backTo p3 (starEach (e :: es) (envF F f s.heap.objs.size))) []) _ _ _
  rw [he]
  refine PySem.W.kxs_callWith (i := "ValueError.__init__") (x := a) (by show (false || (backTo p3 (starEach es (envF F f s.heap.objs.size))).any (·.1)) = false; rw [hpl]; rfl) (PySem.Calls.evalArgs_plain ?_)
  have A1 := hA.run p3 _ _ _ _ _ I4 hq
  rw [show starEach (e :: es) (ncx CX0 P w K mg base N F f A outer s H E).env = _ from he _] at A1
  refine thn A1 fun ws s2 hws => ?_
  obtain ⟨vs', H1, I5, r5, hz, ea1, q⟩ := hws
  have hu5 := (I5.pin (u, PySem.W.kxs_mw "ValueError.__init__" a) (List.mem_append_right _ (List.mem_singleton.mpr rfl))).1
  refine ⟨hu5, ?_⟩
  have hlen : ws.length ≤ sizeLine := by
    rw [← r5.length, sizeLine_eq]
    omega
  obtain ⟨t2, ho5⟩ := exo_at I5.hok ea1
  have hc5 := I5.kIn _ _ hC
  obtain ⟨hh, g, d, tk, os⟩ := s2
  show wpAny _ _ (call (.ref u) ws) _ _ _
  refine wpAny_call (codeAny_of_tree ?_)
  show wpAny _ (Around.in1 _) (callAny (.ref u) ⟨ws, []⟩) _ _ _
  simp only [callAny]
  refine wpAny_bind (wpAny_load hu5 ?_)
  simp only [PySem.W.kxs_mw, show (Value.type "method-wrapper" == Value.type "method" || Value.type "method-wrapper" == Value.type "builtin_function_or_method" || Value.type "method-wrapper" == Value.type "method-wrapper") = true by decide, if_true]
  refine PySem.W.KFB.if_so (by decide) ?_
  refine wpAny_bind (PySem.W.check_bound_init PySem.F.excBase_ValueError.toExcCallFacts hc5 ho5 rfl ?_)
  refine wpAny_bind (wpAny_pure (wpAny_pure ?_))
  refine ⟨plainId_quiet PySem.F.excBase_ValueError.init.plain _, codeAny_builtin PySem.F.excBase_ValueError.initEntry ?_⟩
  refine PySem.W.exc_init_tree (cls := .ref C) (t0 := t2) (dv := none) (c2 := .none) (c3 := .none) (b4 := .bool false) ho5 hlen (fun h' k6 e6 _ => ?_)
  have J := I5.write (t' := tk) (x := a) (e := a) (o := exo a C none) (by rw [ea1]; exact True.intro) (.inl rfl) k6 ⟨_, e6⟩ (exo_ok e6)
  have eu : upd H1 a (exo a C none) = H1 := by
    funext b
    by_cases hb : b = a
    · rw [hb, upd_same, ea1]
    · rw [upd_ne hb]
  rw [eu] at J
  have J2 : Inv (ncx CX0 P w K mg base N F f A outer s H E) [] (startF N vs [none]) H1 ⟨h', g, d, tk, os⟩ := J.pins_of fun p hp => by cases hp
  refine wpAt_of_wpAny (wpAny_mono (hR.run [] _ _ H1 _ J2 q) (fun fl s' hs => ?_) fun e s' hs => hs)
  have fin : ∀ {σ' : L2.St} {H' : Hp} {v : V} {u : Value}, Inv (ncx CX0 P w K mg base N F f A outer s H E) [] σ' H' s' → L2.RelV v u → Q v H' → CE outer P w H s Q u s' :=
    fun {σ' H' v u} J rv q => ⟨v, H', J.os, J.bare, J.base, J.hok, rv, q⟩
  cases fl with
  | ret u =>
    obtain ⟨v, σ', H', J, rv, q⟩ := hs
    exact fin J rv q
  | next =>
    obtain ⟨σ', H', J, q⟩ := hs
    exact fin (v := V.non) (u := Value.none) J rfl q
  | brk =>
    obtain ⟨_, _, _, q⟩ := hs
    exact False.elim q
  | cont =>
    obtain ⟨_, _, _, q⟩ := hs
    exact False.elim q
end
end Ga

set_option maxRecDepth 100000
set_option maxHeartbeats 4000000
/-! Gy: making an instance in a try; isinstance of a caught error that has its dict. -/
namespace Ga
open PySem PySem.Spec PyProof.Rows L2 TL
def tMakeS (C : Addr) (sp : Sp) (dvs : List V) (E : L2.St → XK) (t : TA) : TE := fun σ H Q => t σ H fun vs H1 => ∀ x dx, H1 x = none → H1 dx = none → dx ≠ x → sp (.ref x :: (vs ++ dvs)) (upd (upd H1 dx (.own x)) x (.ins C dx [])) (fun v H2 => v = .non ∧ Q (.ref x) H2) (E σ)
section
variable {X : Cx} {CX : CXT} {k : Nat} {f C : Addr} {fd : FuncData} {ps : List Str} {sp : Sp} {E : L2.St → XK} {x : Str} {p pos : Pos} {e : Expr} {es : List Expr} {t : TA} {dvs : List V} {ds : List Value}
theorem pe_makeS (M : Mk X.K C f) (F : FnOk X.prog X.w X.K X.mg X.base CX k f fd ps sp) (hr : Room (k + 1) X.A) (hg : Gl X x) (hm : X.mg x = some (.ref C)) (hb : Binds X.K fd ps ds) (hd : Vals dvs ds) (hx : ∀ σ, PassesAt CX X σ (E σ))
    (ha : PA X (e :: es) t) (hdb : (x == ("__debug__" : Str)) = false := by decide) (he : starEach (e :: es) X.env = (false, eval e X.env) :: starEach es X.env := by rfl) (hpl : (backTo pos (starEach es X.env)).any (·.1) = false := by rfl) :
    PE X (.Call (.Name x p) (e :: es) [] pos) (tMakeS C sp dvs E t) := by
  refine ⟨fun pins s σ H Q I h => ?_⟩
  refine wpAny_Call_Name_kw (ld_glob I hg hm ?_ hdb)
  refine PySem.W.callWith_K (h₀ := X.base) I.ok.mod.kin M.kp (thn (ha.run pos pins s σ H _ I h) fun us s1 ⟨vs, H1, I1, r, q⟩ => ⟨I1.kIn, ?_⟩) he hpl
  have n1 : H1 (s1.heap.objs.size + 1) = none := I1.hok.fresh (Nat.le_succ _)
  have n2 : H1 s1.heap.objs.size = none := I1.hok.fresh (Nat.le_refl _)
  have asked := q _ _ n1 n2 (Nat.ne_of_lt (Nat.lt_succ_self _))
  have J := Inv.made (C := C) I1
  have vals : Vals (V.ref (s1.heap.objs.size + 1) :: (vs ++ dvs)) (Value.ref (s1.heap.objs.size + 1) :: (us ++ ds)) := .cons rfl (r.append hd)
  have len : (Value.ref (s1.heap.objs.size + 1) :: us ++ ds).length = ps.length := vals.length.symm.trans (F.len _ _ _ _ asked)
  show wpAny _ _ (call (.ref C) us) _ _ _
  refine wpAny_call (make_map (f := f) I1.kIn M.makes M.init (beq_iff_eq.mp M.fn) (codeAny_mono (F.run _ X.stack _ _ ⟨Value.ref (s1.heap.objs.size + 1) :: us, []⟩ _ _ _ (E σ) (hr.make C us [])
    (J.env0.make C us []) (hb _ (Value.ref (s1.heap.objs.size + 1) :: us) J.kIn len) vals asked) fun r s' h' => ?_))
  match r, h' with
  | .error e, h' => exact hx σ pins _ _ e s' J h'
  | .ok (.ret u), h' =>
    obtain ⟨v, H', J2, rv, ev, q3⟩ := J.after h'
    subst ev
    exact ⟨rv, V.ref (s1.heap.objs.size + 1), H', J2, rfl, q3⟩
  | .ok .next, h' => exact h'.elim
  | .ok .brk, h' => exact h'.elim
  | .ok .cont, h' => exact h'.elim
end
/-- isinstance(e, c), e the exception that the suite holds, with its dict -/
def rIsX (K : PySem.W.Frag) (a : Addr) (cls : Value) (d : Option Addr) : List V → Hp → VK → Prop := fun xs H Q => ∃ (D dd : Addr) (fs : List (Str × V)) (c : V) (cv : Value) (b : Bool), cls = .ref D ∧ d = some dd ∧ H dd = some (.xd fs) ∧ ExcC K D ∧
  xs = [.ref a, c] ∧ (∀ u, RelV c u → u = cv) ∧ PySem.W.kitOne K (.ref D) cv = some b ∧ Q (.bl b) H
theorem call_isX {X : Cx} {a : Addr} {oe : Obj} {cls : Value} {d : Option Addr} {pn : List (Addr × Obj)} (hz : Zc cls d oe) (hf : ∃ vs, oe.data = .fields vs) : CallR (X.suite a ((a, oe) :: pn)) (.builtin "isinstance") (rIsX X.K a cls d) := by
  intro pins s σ H xs us Q I r h
  obtain ⟨D, dd, fs, c, cv, b, rfl, rfl, hdd, T, rfl, hcv, e, q⟩ := h
  cases r with
  | cons rx rr =>
    cases rr with
    | cons rt rr =>
      cases rr
      cases rx
      have ec := hcv _ rt
      subst ec
      have hget := (I.pin (a, oe) (List.mem_append_left _ List.mem_cons_self)).1
      obtain ⟨vs, hv⟩ := hf
      have hx : ObjOk X.prog X.w H s.heap dd (.xd fs) := I.hok dd _ hdd
      obtain ⟨mA, hns, _⟩ := hx
      obtain ⟨od, ho, _⟩ := lookIn_ns hns
      have J : PySem.W.InstAt s.heap a oe D (some od) := ⟨hget, hz.1, by unfold PySem.W.notCls; rw [hv] <;> rfl, by rw [hz.2]; exact ho⟩
      have hcl : (PySem.W.clsIn X.K D).isSome = true := by
        obtain ⟨cd, hc, _⟩ := PySem.W.any_some T.hd
        rw [hc]
        rfl
      exact PySem.W.kia_one (PySem.W.kitx_exc hcl T.hg T.hk T.hs T.ha T.hn T.ht T.hm) I.kIn J e (fun z => nomatch z) fun tk => ⟨.bl b, H, I.kept (t' := tk) fun _ _ z => z, rfl, q⟩
end Ga

set_option maxRecDepth 100000
set_option maxHeartbeats 4000000
/-! Gz: a tuple times 0 or 1. -/
namespace Ga
open PySem PySem.Spec PyProof.Rows L2 TL
theorem mul_one (l : Addr) (items : Array Value) (n : Nat) (dd : Option Addr) (sl : Array (Option Value)) (u : Tok) :
    Meets (Builtin.«tuple.__mul__» ⟨[.ref l, .int 1 u], []⟩) (fun _ R s => s.heap.get? l = some { cls := .type "tuple", dict := dd, data := .seq items n, slots := sl } ∧ R (.ok (.ret (.ref l))) s) :=
  .of_wp fun prog w A R s h => by
    obtain ⟨hp, g, d, tk, os⟩ := s
    obtain ⟨hl, h⟩ := h
    have f1 := AutoSeq1.idx_int
    have c1 : (items.isEmpty || (1 : Int) == 1) = true := by rw [Bool.or_eq_true]; exact .inr rfl
    have ty : (⟨hp, g, d, tk, os⟩ : Shared).TypeIs (.ref l) "tuple" := ⟨_, hl, rfl⟩
    wp_walk using wpAny_loadPart' hl
    repeat (first
      | (refine wpAny_ite_true (decide_eq_true c1) ?_; wp_walk using wpAny_loadPart' hl)
      | (refine wpAny_typeOf ty ?_; wp_walk using wpAny_loadPart' hl))
    all_goals first | exact ⟨_, rfl, h⟩ | exact h | skip
theorem mul_zero (l : Addr) (items : Array Value) (n : Nat) (dd : Option Addr) (sl : Array (Option Value)) (u : Tok) (hne : items.isEmpty = false) :
    Meets (Builtin.«tuple.__mul__» ⟨[.ref l, .int 0 u], []⟩) (fun _ R s => s.heap.get? l = some { cls := .type "tuple", dict := dd, data := .seq items n, slots := sl } ∧
      R (.ok (.ret (Value.ref s.heap.objs.size))) { s with heap := s.heap.push { cls := Value.type "tuple", data := Data.seq #[] }, toks := s.toks }) :=
  .of_wp fun prog w A R s h => by
    obtain ⟨hp, g, d, tk, os⟩ := s
    obtain ⟨hl, h⟩ := h
    have f1 := AutoSeq1.idx_int
    have c1 : (items.isEmpty || (0 : Int) == 1) = false := by rw [hne]; rfl
    have c2 : (decide ((0 : Int) ≤ 0) || items.isEmpty) = true := rfl
    wp_walk using wpAny_loadPart' hl
    repeat (first
      | (refine wpAny_ite_false (decide_eq_false (by rw [c1]; exact Bool.false_ne_true)) ?_; wp_walk using wpAny_loadPart' hl)
      | (refine wpAny_ite_true (decide_eq_true c2) ?_; wp_walk using wpAny_loadPart' hl))
    all_goals first | exact ⟨_, rfl, h⟩ | exact h | skip
/-- a tuple of some items, a few times -/
def rRepS (K : PySem.W.Frag) : R2 := fun x y H Q => ∃ l k xs, x = .ref l ∧ y = .int k ∧ SqT K H l xs ∧ xs ≠ [] ∧ 0 ≤ k ∧ k ≤ 1000 ∧ xs.length ≤ 1000 ∧ ∀ p H', Same H H' → SqT K H' p (List.replicate k.toNat xs).flatten → Q (.ref p) H'
theorem op_repS {X : Cx} {K : PySem.W.Frag} (hK : X.K = K) : OpR X (binaryOp .Mult) (rRepS K) := by
  subst hK
  intro pins s σ H x y v u Q I rx ry h
  obtain ⟨l, k, xs, rfl, rfl, hT, hne, h0, h1, hz, q⟩ := h
  by_cases h2 : 2 ≤ k
  · exact op_repT pins s σ H _ _ v u Q I rx ry ⟨l, k, xs, rfl, rfl, hT, hne, h2, h1, hz, fun p np => q p _ (same_upd np) (sqT upd_same)⟩
  · cases rx
    obtain ⟨t, rfl⟩ := ry
    obtain ⟨its, r, ⟨⟨cls, dd, data, sl⟩, ho, hc, n, hd⟩, hs⟩ := I.tuple hT
    simp only at hc hd
    subst hc hd
    have hi : its.toArray.isEmpty = false := by
      cases its with
      | nil => cases r; exact absurd rfl hne
      | cons a b => rfl
    rcases (show k = 0 ∨ k = 1 by omega) with rfl | rfl
    · refine wpAny_binaryOp_repeat_ref (T := "tuple") (U := "int") (by decide) ⟨_, ho, rfl⟩ (fun s' => typeIs_int s' 0 t) noFill_tuple_mul F.fills_int_mul F.slot_int_rmul repeat_tuple F.slot_int_index.lookup
        (call_meets F.slot_int_rmul (typeIs_int s 0 t) F.entry_int_rmul (F.args_int_rmul_2 _ _) (int_rmul_tuple 0 t l its.toArray n dd sl)
          ⟨ho, rfl, ⟨_, ho, rfl⟩, call_meets F.slot_tuple_mul ⟨_, ho, rfl⟩ F.entry_tuple_mul (F.args_tuple_mul_2 _ _) (mul_zero l its.toArray n dd sl t hi) ⟨ho, ?_⟩⟩)
      have nw := I.hok.fresh (Nat.le_refl s.heap.objs.size)
      refine ⟨.ref s.heap.objs.size, _, I.laid (t' := s.toks) (o := .tup []) (fun b ob q => Heap.get?_push_of_some _ q) (Nat.le_refl _) ?_, rfl, q _ _ (same_upd nw) (sqT upd_same)⟩
      exact ⟨Nat.zero_le _, [], .nil, IsTup.new _ _⟩
    · refine wpAny_binaryOp_repeat_ref (T := "tuple") (U := "int") (by decide) ⟨_, ho, rfl⟩ (fun s' => typeIs_int s' 1 t) noFill_tuple_mul F.fills_int_mul F.slot_int_rmul repeat_tuple F.slot_int_index.lookup
        (call_meets F.slot_int_rmul (typeIs_int s 1 t) F.entry_int_rmul (F.args_int_rmul_2 _ _) (int_rmul_tuple 1 t l its.toArray n dd sl)
          ⟨ho, rfl, ⟨_, ho, rfl⟩, call_meets F.slot_tuple_mul ⟨_, ho, rfl⟩ F.entry_tuple_mul (F.args_tuple_mul_2 _ _) (mul_one l its.toArray n dd sl t) ⟨ho, ?_⟩⟩)
      refine ⟨.ref l, H, I, rfl, q l H (.refl _) ?_⟩
      have : (List.replicate (1 : Int).toNat xs).flatten = xs := by simp
      rw [this]
      exact hT
end Ga

set_option maxRecDepth 100000
set_option maxHeartbeats 4000000
namespace KX
open PySem PySem.Spec PyProof.Rows L2 TL Ga
def top (i : Nat) : Stmt := PySem.Challenge.pw_sameanswers_k42_cut_on_schedule.main.body.getD i (.Pass ⟨0, 0, 0, 0⟩)
/-- the statements of a class -/
def clsB : Stmt → List Stmt
  | .ClassDef _ _ _ b _ _ _ _ _ _ _ => b
  | _ => []
def meth (c : Stmt) (i : Nat) : Stmt := (clsB c).getD i (.Pass ⟨0, 0, 0, 0⟩)
/-- what the module's names hold -/
structure Tx (mg : Str → Option Value) : Prop where
  len : mg "len" = none
  all : mg "all" = none
  any : mg "any" = none
  ord : mg "ord" = none
  int : mg "int" = none
  range : mg "range" = none
  repr : mg "repr" = none
  tuple : mg "tuple" = none
  list : mg "list" = none
  dict : mg "dict" = none
  set : mg "set" = none
  sorted : mg "sorted" = none
  str : mg "str" = none
  isinstance : mg "isinstance" = none
  min : mg "min" = none
  max : mg "max" = none
  sum : mg "sum" = none
  bool : mg "bool" = none
  enumerate : mg "enumerate" = none
  zip : mg "zip" = none
  reversed : mg "reversed" = none
  abs : mg "abs" = none
  c_BLOCK : ∃ t, mg "BLOCK" = some (.int 32 t)
  c_BLOCKS_MOST : ∃ t, mg "BLOCKS_MOST" = some (.int 400 t)
  c_BLOCKS_LEAST : ∃ t, mg "BLOCKS_LEAST" = some (.int 8 t)
  c_BYTE_MOST : ∃ t, mg "BYTE_MOST" = some (.int 255 t)
  c_MANY_MOST : ∃ t, mg "MANY_MOST" = some (.int 100000 t)
abbrev s_TrunkError : Stmt := top 1
abbrev s_OutOfRange : Stmt := top 2
abbrev sOorInit : Stmt := meth s_OutOfRange 0
abbrev s_PowerCut : Stmt := top 3
abbrev s_is_block : Stmt := top 10
theorem sc_is_block : FnScope ["block", "byte"] ["block"] (defScope s_is_block) := ⟨rfl, rfl, rfl, by decide +kernel, rfl, by decide +kernel, by decide +kernel⟩
abbrev n_is_block : List Str := ["block", "byte"]
abbrev s_check_torn : Stmt := top 11
theorem sc_check_torn : FnScope ["torn", "many"] ["torn"] (defScope s_check_torn) := ⟨rfl, rfl, rfl, by decide +kernel, rfl, by decide +kernel, by decide +kernel⟩
abbrev n_check_torn : List Str := ["torn", "many"]
abbrev s_Disk : Stmt := top 12
abbrev s_Disk___init : Stmt := meth s_Disk 0
theorem sc_Disk___init : FnScope ["self", "blocks", "_"] ["self", "blocks"] (defScope s_Disk___init) := ⟨rfl, rfl, rfl, by decide +kernel, rfl, by decide +kernel, by decide +kernel⟩
abbrev n_Disk___init : List Str := ["self", "blocks", "_"]
abbrev s_Disk_size : Stmt := meth s_Disk 1
theorem sc_Disk_size : FnScope ["self"] ["self"] (defScope s_Disk_size) := ⟨rfl, rfl, rfl, by decide +kernel, rfl, by decide +kernel, by decide +kernel⟩
abbrev n_Disk_size : List Str := ["self"]
abbrev s_Disk_read : Stmt := meth s_Disk 2
theorem sc_Disk_read : FnScope ["self", "at", "found", "where", "block"] ["self", "at"] (defScope s_Disk_read) := ⟨rfl, rfl, rfl, by decide +kernel, rfl, by decide +kernel, by decide +kernel⟩
abbrev n_Disk_read : List Str := ["self", "at", "found", "where", "block"]
abbrev s_Disk_write : Stmt := meth s_Disk 3
theorem sc_Disk_write : FnScope ["self", "at", "block"] ["self", "at", "block"] (defScope s_Disk_write) := ⟨rfl, rfl, rfl, by decide +kernel, rfl, by decide +kernel, by decide +kernel⟩
abbrev n_Disk_write : List Str := ["self", "at", "block"]
abbrev s_Disk_flush : Stmt := meth s_Disk 4
theorem sc_Disk_flush : FnScope ["self", "at", "block"] ["self"] (defScope s_Disk_flush) := ⟨rfl, rfl, rfl, by decide +kernel, rfl, by decide +kernel, by decide +kernel⟩
abbrev n_Disk_flush : List Str := ["self", "at", "block"]
abbrev s_Disk_pending_count : Stmt := meth s_Disk 5
theorem sc_Disk_pending_count : FnScope ["self"] ["self"] (defScope s_Disk_pending_count) := ⟨rfl, rfl, rfl, by decide +kernel, rfl, by decide +kernel, by decide +kernel⟩
abbrev n_Disk_pending_count : List Str := ["self"]
abbrev s_Disk_cut_count : Stmt := meth s_Disk 6
theorem sc_Disk_cut_count : FnScope ["self"] ["self"] (defScope s_Disk_cut_count) := ⟨rfl, rfl, rfl, by decide +kernel, rfl, by decide +kernel, by decide +kernel⟩
abbrev n_Disk_cut_count : List Str := ["self"]
abbrev s_Disk_cut_power : Stmt := meth s_Disk 7
theorem sc_Disk_cut_power : FnScope ["self", "torn", "at", "block", "many"] ["self", "torn"] (defScope s_Disk_cut_power) := ⟨rfl, rfl, rfl, by decide +kernel, rfl, by decide +kernel, by decide +kernel⟩
abbrev n_Disk_cut_power : List Str := ["self", "torn", "at", "block", "many"]
abbrev s_Disk_schedule_cut : Stmt := meth s_Disk 8
theorem sc_Disk_schedule_cut : FnScope ["self", "many", "torn"] ["self", "many", "torn"] (defScope s_Disk_schedule_cut) := ⟨rfl, rfl, rfl, by decide +kernel, rfl, by decide +kernel, by decide +kernel⟩
abbrev n_Disk_schedule_cut : List Str := ["self", "many", "torn"]
abbrev s_Disk__check_at : Stmt := meth s_Disk 9
theorem sc_Disk__check_at : FnScope ["self", "at"] ["self", "at"] (defScope s_Disk__check_at) := ⟨rfl, rfl, rfl, by decide +kernel, rfl, by decide +kernel, by decide +kernel⟩
abbrev n_Disk__check_at : List Str := ["self", "at"]
abbrev s_Disk__count : Stmt := meth s_Disk 10
theorem sc_Disk__count : FnScope ["self"] ["self"] (defScope s_Disk__count) := ⟨rfl, rfl, rfl, by decide +kernel, rfl, by decide +kernel, by decide +kernel⟩
abbrev n_Disk__count : List Str := ["self"]
abbrev sCell : Stmt := top 14
theorem scCell : FnScope ["script", "k"] ["script", "k"] (defScope sCell) := ⟨rfl, rfl, rfl, by decide +kernel, rfl, by decide +kernel, by decide +kernel⟩
abbrev nCell : List Str := ["script", "k"]
abbrev sDigits : Stmt := top 15
theorem scDigits : FnScope ["script", "first", "last", "digits", "k", "cell", "turn", "seed"] ["script", "first", "last"] (defScope sDigits) := ⟨rfl, rfl, rfl, by decide +kernel, rfl, by decide +kernel, by decide +kernel⟩
abbrev nDigits : List Str := ["script", "first", "last", "digits", "k", "cell", "turn", "seed"]
abbrev sDraw : Stmt := top 16
theorem scDraw : FnScope ["box", "many", "at"] ["box", "many"] (defScope sDraw) := ⟨rfl, rfl, rfl, by decide +kernel, rfl, by decide +kernel, by decide +kernel⟩
abbrev nDraw : List Str := ["box", "many", "at"]
abbrev s_L_torn : Stmt := top 17
theorem sc_L_torn : FnScope ["box", "many", "kind", "k"] ["box", "many"] (defScope s_L_torn) := ⟨rfl, rfl, rfl, by decide +kernel, rfl, by decide +kernel, by decide +kernel⟩
abbrev n_L_torn : List Str := ["box", "many", "kind", "k"]
abbrev s_L_schedule : Stmt := top 18
theorem sc_L_schedule : FnScope ["disk", "count", "torn", "e"] ["disk", "count", "torn"] (defScope s_L_schedule) := ⟨rfl, rfl, rfl, by decide +kernel, rfl, by decide +kernel, by decide +kernel⟩
abbrev n_L_schedule : List Str := ["disk", "count", "torn", "e"]
abbrev s_L_do_raw : Stmt := top 19
theorem sc_L_do_raw : FnScope ["disk", "at", "block"] ["disk", "at", "block"] (defScope s_L_do_raw) := ⟨rfl, rfl, rfl, by decide +kernel, rfl, by decide +kernel, by decide +kernel⟩
abbrev n_L_do_raw : List Str := ["disk", "at", "block"]
abbrev s_L_do : Stmt := top 20
theorem sc_L_do : FnScope ["disk", "at", "block", "told", "e"] ["disk", "at", "block"] (defScope s_L_do) := ⟨rfl, rfl, rfl, by decide +kernel, rfl, by decide +kernel, by decide +kernel⟩
abbrev n_L_do : List Str := ["disk", "at", "block", "told", "e"]
abbrev sLaw : Stmt := top 21
theorem scLaw : FnScope ["script", "box", "size", "disk", "blocks", "k", "pending", "left", "torn", "cuts", "turn", "kind", "handed", "at", "block", "actual", "place", "entry"] ["script"] (defScope sLaw) := ⟨rfl, rfl, rfl, by decide +kernel, rfl, by decide +kernel, by decide +kernel⟩
abbrev nLaw : List Str := ["script", "box", "size", "disk", "blocks", "k", "pending", "left", "torn", "cuts", "turn", "kind", "handed", "at", "block", "actual", "place", "entry"]
end KX

set_option maxRecDepth 100000
set_option maxHeartbeats 4000000
/-! G1: word, *items = a tuple; a local name called with what a list holds. -/
namespace Ga
open PySem PySem.Spec PyProof.Rows L2 TL
/-- (x, *y) = a tuple: the head, and a new list of the rest -/
def gHead (K : PySem.W.Frag) (t : TGs) : TG := fun v σ H Q => ∃ a x xs, v = .ref a ∧ SqT K H a (x :: xs) ∧ xs.length ≤ 1000 ∧ ∀ D, H D = none → t [x, .ref D] σ (upd H D (.lst xs)) Q
/-- the targets without their stars -/
def bare : List Expr → List Expr
  | [] => []
  | .Starred e _ :: r => e :: bare r
  | e :: r => e :: bare r
theorem pg_head {X : Cx} {K : PySem.W.Frag} (hK : X.K = K) {es : List Expr} {k : Nat} {t : TGs} {pos : Pos} (hc : X.calm = true) (h : PGs X (bare es) t) (hm : (assignEach es X.env).map (·.2) = (assignEach (bare es) X.env).map (·.2) := by rfl)
    (hn : (assignEach es X.env).length = 2 := by rfl) (hst : (assignEach es X.env).findIdx? (·.1) = some 1 := by rfl) : PG X (.Tuple es k pos) (gHead K t) := by
  subst hK
  refine ⟨fun pins s σ H v u Q I r hw => ?_⟩
  obtain ⟨a, x, xs, rfl, hq, hl, hw⟩ := hw
  obtain rfl : u = Value.ref a := r
  obtain ⟨its, rv, ht, hz⟩ := I.tuple hq
  obtain ⟨u1, us, rfl, r1, r2⟩ : ∃ u1 us, its = u1 :: us ∧ RelV x u1 ∧ Vals xs us := by
    cases rv with
    | cons a b => exact ⟨_, _, rfl, a, b⟩
  have hh : X.A.handled = none := I.ok.hd hc
  have tup : PyProof.Rows.IsTup s.heap a (u1 :: us).toArray := ht
  have hul : us.length = xs.length := r2.length.symm
  have ne : a ≠ s.heap.objs.size := by
    obtain ⟨o, ho, _⟩ := ht
    exact Nat.ne_of_lt (Heap.lt_size ho)
  rw [PyProof.Rows.assign_Tuple]
  refine wpAny_bind (wpAny_standAt ?_)
  unfold unpack
  rw [hn, hst]
  refine wpAny_bind (wpAny_holding ?_)
  unfold unpackItems notIterableAtAll
  refine wpAny_bind (wpAny_bind (wpAny_specialOf tup.typeIs PyProof.Rows.slot_tuple_iter.lookup (wpAny_pure ?_)))
  rw [if_neg (by simp)]
  refine wpAny_bind (wpAny_holding (PyProof.Rows.iter_tuple tup ?_))
  refine wpAny_bind (wpAny_holding (PyProof.Rows.draw_tuple ne 1 0 _ _ ⟨_, Heap.get?_push_size _ rfl, rfl, rfl⟩ (tup.push _) (by simp) fun h1 it1 sb1 => ?_))
  have t1 : PyProof.Rows.IsTup h1 a (u1 :: us).toArray := (tup.push _).extBut sb1.extBut ne
  obtain ⟨oi, hoi, _⟩ := id it1
  obtain ⟨ot, hot, _⟩ := id t1
  show wpAny _ _ (if ([u1] : List Value).length < 1 then _ else _) _ _ _
  rw [if_neg (by simp)]
  refine wpAny_bind (wpAny_holding (PySem.W.kun_collect (s := { s with heap := h1 }) (T := "tuple_iterator") (.inr (.inr (.inr rfl))) (Walks.tuple (A := X.A.in1) hh s.heap.objs.size a ne (u1 :: us).toArray) (fun j u st => st.1.typeIs) (k := 1) (by simp) ⟨it1, t1⟩
    (Heap.lt_size hoi) (Heap.lt_size hot) (fun h2 tk hk => ?_) (by simp; rw [sizeLine_eq]; omega)))
  have he : ∀ b o, s.heap.get? b = some o → h2.get? b = some o := fun b o e => hk b o (Nat.ne_of_lt (Heap.lt_size e)) (sb1.extBut b o (Nat.ne_of_lt (Heap.lt_size e)) (Heap.get?_push_of_some _ e))
  show wpAny _ _ (if us.length < 0 then _ else _) _ _ _
  rw [if_neg (by simp)]
  show wpAny _ _ (newList (us.take (us.length - 0)) >>= fun d => pure ([u1] ++ [d] ++ us.drop (us.length - 0))) _ _ _
  rw [Nat.sub_zero, List.take_length, List.drop_length]
  have I2 : Inv X pins σ H { s with heap := h2, toks := tk } := I.kept he
  have hus : us.length ≤ sizeLine := by rw [hul]; exact Nat.le_trans hl (by decide)
  refine wpAny_bind (wpAny_newList (wpAny_pure ?_) hus)
  have new : ObjOk X.prog X.w (upd H h2.objs.size (.lst xs)) (h2.push (seqObj "list" us.toArray 0)) h2.objs.size (.lst xs) := ⟨by omega, us, 0, r2, Heap.get?_push_size _ rfl⟩
  have I3 : Inv X pins σ (upd H h2.objs.size (.lst xs)) { s with heap := h2.push (seqObj "list" us.toArray 0), toks := tk } :=
    I2.laid (t' := tk) (fun b o e => Heap.get?_push_of_some _ e) (Nat.le_refl _) new
  rw [hm]
  exact h.run pins _ σ _ [x, .ref h2.objs.size] [u1, .ref h2.objs.size] Q I3 (.cons r1 (.cons rfl .nil)) (hw _ (I2.hok.fresh (Nat.le_refl _)))
/-- a def that a slot may hold, of the promise sp -/
def tCallV (i : Nat) (Rl : Addr → Sp → Prop) (E : XK) (t : TA) : TE := fun σ H Q => ∃ f sp, σ[i]? = some (some (.ref f)) ∧ Rl f sp ∧ t σ H fun vs H1 => sp vs H1 Q E
section
variable {X : Cx} {CX : CXT} {k i : Nat} {x : Str} {p pos : Pos} {e : Expr} {es : List Expr} {t : TA} {E : XK}
/-- x(e, *y), x a local name -/
theorem pe_callV {Rl : Addr → Sp → Prop} (hR : ∀ f sp, Rl f sp → FnR X.prog X.w X.K X.mg X.base CX k f sp ∧ PySem.W.keepIn X.K (.ref f) = true) (hr : Room k X.A) (hN : X.N[i]? = some x) (hv : Vis X.env.scope x) (hx : Passes CX X E) (ha : PA X (e :: es) t)
    (hdb : (x == ("__debug__" : Str)) = false := by decide) (hcd : (x == ("__classdict__" : Str)) = false := by decide) (he : starEach (e :: es) X.env = (false, eval e X.env) :: starEach es X.env := by rfl) (hst : (backTo pos (starEach es X.env)).any (·.1) = true := by rfl) :
    PE X (.Call (.Name x p) (e :: es) [] pos) (tCallV i Rl E t) := by
  refine ⟨fun pins s σ H Q I h => ?_⟩
  obtain ⟨f, sp, hs, hf, ht⟩ := h
  obtain ⟨F, hk⟩ := hR f sp hf
  refine wpAny_Call_Name_kw (thn ((pe_var (pos := p) hN hv hdb hcd).run pins s σ H (fun v H1 => v = .ref f ∧ H1 = H) I ⟨.ref f, hs, rfl, rfl⟩) fun u s1 ⟨v, H1, I1, r1, q1⟩ => ?_)
  obtain ⟨rfl, rfl⟩ := q1
  obtain rfl : u = Value.ref f := r1
  refine PySem.W.callWith_S2 (h₀ := X.base) I.ok.mod.kin hk (thn (ha.run pos pins s1 σ _ _ I1 ht) fun us s2 ⟨vs, H2, I2, r, q⟩ => ⟨I2.kIn, ?_⟩) he hst
  exact wpAny_call (run_fnR F hr hx I2 r q)
end
end Ga

set_option maxRecDepth 100000
set_option maxHeartbeats 4000000
/-! J1: some words, *items = a list. -/
namespace Ga
open PySem PySem.Spec PyProof.Rows L2 TL
/-- (x, y, .., *z) = a list: i heads, and a new list of the rest -/
def gStarL (K : PySem.W.Frag) (i : Nat) (t : TGs) : TG := fun v σ H Q => ∃ a xs, v = .ref a ∧ SqL K H a xs ∧ i ≤ xs.length ∧ xs.length ≤ 1000 ∧ ∀ D, H D = none → t (xs.take i ++ [.ref D]) σ (upd H D (.lst (xs.drop i))) Q
theorem vals_take {xs : List V} {us : List Value} (r : Vals xs us) (i : Nat) : Vals (xs.take i) (us.take i) := by
  induction r generalizing i with
  | nil => simp; exact .nil
  | cons h t ih => cases i with
    | zero => exact .nil
    | succ i => exact .cons h (ih i)
theorem vals_drop {xs : List V} {us : List Value} (r : Vals xs us) (i : Nat) : Vals (xs.drop i) (us.drop i) := by
  induction r generalizing i with
  | nil => simp; exact .nil
  | cons h t ih => cases i with
    | zero => exact .cons h t
    | succ i => exact ih i
theorem pg_starL {X : Cx} {K : PySem.W.Frag} (hK : X.K = K) {es : List Expr} {k i : Nat} {t : TGs} {pos : Pos} (hc : X.calm = true) (h : PGs X (bare es) t) (hm : (assignEach es X.env).map (·.2) = (assignEach (bare es) X.env).map (·.2) := by rfl)
    (hn : (assignEach es X.env).length = i + 1 := by rfl) (hst : (assignEach es X.env).findIdx? (·.1) = some i := by rfl) : PG X (.Tuple es k pos) (gStarL K i t) := by
  subst hK
  refine ⟨fun pins s σ H v u Q I r hw => ?_⟩
  obtain ⟨a, xs, rfl, hq, hi, hl, hw⟩ := hw
  obtain rfl : u = Value.ref a := r
  obtain ⟨us, rv, hp, hz⟩ := I.list hq
  have ht : s.heap.IsList a us.toArray := by
    obtain ⟨o, n, e1, e2, _, e3⟩ := hp
    exact ⟨o, e1, e2, n, e3⟩
  have hh : X.A.handled = none := I.ok.hd hc
  have hul : us.length = xs.length := rv.length.symm
  have ne : a ≠ s.heap.objs.size := by
    obtain ⟨o, ho, _⟩ := ht
    exact Nat.ne_of_lt (Heap.lt_size ho)
  rw [PyProof.Rows.assign_Tuple]
  refine wpAny_bind (wpAny_standAt ?_)
  unfold unpack
  rw [hn, hst]
  refine wpAny_bind (wpAny_holding ?_)
  unfold unpackItems notIterableAtAll
  refine wpAny_bind (wpAny_bind (wpAny_specialOf ht.typeIs slot_list_iter.lookup (wpAny_pure ?_)))
  rw [if_neg (by simp)]
  refine wpAny_bind (wpAny_holding (wpAny_pyIter_list ht ?_))
  refine wpAny_bind (wpAny_holding (PySem.W.kun_draw ne i 0 _ _ ⟨_, Heap.get?_push_size _ rfl, rfl, rfl⟩ (ht.push _) (by simp; omega) fun h1 it1 sb1 => ?_))
  have t1 : h1.IsList a us.toArray := (ht.push _).extBut sb1.extBut ne
  rw [Nat.zero_add] at it1
  obtain ⟨oi, hoi, _⟩ := id it1
  obtain ⟨ot, hot, _⟩ := id t1
  rw [List.drop_zero]
  have hfl : (us.take i).length = i := by rw [List.length_take]; omega
  show wpAny _ _ (if (us.take i).length < i then _ else _) _ _ _
  rw [if_neg (by rw [hfl]; omega)]
  refine wpAny_bind (wpAny_holding (PySem.W.kun_collect (s := { s with heap := h1 }) (T := "list_iterator") (.inr (.inr (.inl rfl))) (Walks.list (A := X.A.in1) hh s.heap.objs.size a ne us.toArray) (fun j u st => st.1.typeIs) (k := i) (by simp; omega) ⟨it1, t1⟩
    (Heap.lt_size hoi) (Heap.lt_size hot) (fun h2 tk hk => ?_) (by simp; rw [sizeLine_eq]; omega)))
  have he : ∀ b o, s.heap.get? b = some o → h2.get? b = some o := fun b o e => hk b o (Nat.ne_of_lt (Heap.lt_size e)) (sb1.extBut b o (Nat.ne_of_lt (Heap.lt_size e)) (Heap.get?_push_of_some _ e))
  have e0 : i + 1 - 1 - i = 0 := by omega
  show wpAny _ _ (if (us.drop i).length < i + 1 - 1 - i then _ else _) _ _ _
  rw [if_neg (by rw [e0]; omega)]
  show wpAny _ _ (newList ((us.drop i).take ((us.drop i).length - (i + 1 - 1 - i))) >>= fun d => pure (us.take i ++ [d] ++ (us.drop i).drop ((us.drop i).length - (i + 1 - 1 - i)))) _ _ _
  rw [e0, Nat.sub_zero, List.take_length, List.drop_length]
  have I2 : Inv X pins σ H { s with heap := h2, toks := tk } := I.kept he
  have hdl : (us.drop i).length ≤ sizeLine := by rw [List.length_drop]; exact Nat.le_trans (show _ ≤ 1000 by omega) (by decide)
  refine wpAny_bind (wpAny_newList (wpAny_pure ?_) hdl)
  have rd := vals_drop rv i
  have new : ObjOk X.prog X.w (upd H h2.objs.size (.lst (xs.drop i))) (h2.push (seqObj "list" (us.drop i).toArray 0)) h2.objs.size (.lst (xs.drop i)) := ⟨by rw [rd.length]; exact hdl, us.drop i, 0, rd, Heap.get?_push_size _ rfl⟩
  have I3 : Inv X pins σ (upd H h2.objs.size (.lst (xs.drop i))) { s with heap := h2.push (seqObj "list" (us.drop i).toArray 0), toks := tk } :=
    I2.laid (t' := tk) (fun b o e => Heap.get?_push_of_some _ e) (Nat.le_refl _) new
  rw [hm, List.append_nil]
  exact h.run pins _ σ _ (xs.take i ++ [.ref h2.objs.size]) (us.take i ++ [.ref h2.objs.size]) Q I3 ((vals_take rv i).append (.cons (show L2.RelV (V.ref h2.objs.size) (.ref h2.objs.size) from rfl) .nil)) (hw _ (I2.hok.fresh (Nat.le_refl _)))
end Ga

set_option maxRecDepth 100000
set_option maxHeartbeats 4000000
/-! J2: the rules by the written part's name. -/
namespace Ga
open PySem PySem.Spec PyProof.Rows L2 TL
section
variable {X : Cx} {K : PySem.W.Frag}
/-- len of a list or a tuple -/
def rLenQ (K : PySem.W.Frag) : List V → Hp → VK → Prop := fun xs H Q => ∃ p ys, xs = [.ref p] ∧ (SqL K H p ys ∨ SqT K H p ys) ∧ Q (.int ys.length) H
theorem kLen (h : X.K = K) : CallR X (.builtin "len") (rLenQ K) := by
  subst h
  exact call_len_seq
theorem kEq (h : X.K = K) (hu : X.A.units + 64 < cLine) : OpR X (compareOp .Eq) (rEqD K) := by
  subst h
  exact op_eqD hu
theorem kNe (h : X.K = K) (hu : X.A.units + 64 < cLine) : OpR X (compareOp .NotEq) (rNeD K) := by
  subst h
  exact op_neD hu
theorem kSlL (h : X.K = K) : SlR X (rSlL K) := by
  subst h
  exact sl_list
/-- list(xs) -/
def rListOf (K : PySem.W.Frag) : List V → Hp → VK → Prop := fun xs H Q => ∃ p ys, xs = [.ref p] ∧ (SqL K H p ys ∨ SqT K H p ys) ∧ ∀ l, H l = none → Q (.ref l) (upd H l (.lst ys))
theorem kList (h : X.K = K) : CallR X (.type "list") (rListOf K) := by
  subst h
  exact call_list_of
theorem kAll (h : X.K = K) (hc : X.calm = true) : CallR X (.builtin "all") (rAll K) := by
  subst h
  exact cr_all hc
theorem kAny (h : X.K = K) (hc : X.calm = true) : CallR X (.builtin "any") (rAny K) := by
  subst h
  exact cr_any hc
end
end Ga

set_option maxRecDepth 100000
set_option maxHeartbeats 4000000
/-! B0: what every law's text has: cells, digits, draws; defs that may be called. -/
namespace KX
open PySem PySem.Spec PyProof.Rows L2 TL Ga
/-- an int out of the script -/
def spCell (K : PySem.W.Frag) : Sp := fun vs H Q _ => ∃ (a : Addr) (ns : List Int) (k : Int), vs = [.ref a, .int k] ∧ SqL K H a (ns.map V.int) ∧ 0 ≤ k ∧ ∀ z : Int, Q (.int z) H
/-- a new list of ints -/
def spDigits (K : PySem.W.Frag) : Sp := fun vs H Q _ => ∃ (a : Addr) (ns : List Int) (u v : Int), vs = [.ref a, .int u, .int v] ∧ SqL K H a (ns.map V.int) ∧ 0 ≤ u ∧ u ≤ 1000 ∧ 0 ≤ v ∧ v ≤ 1000 ∧
  ∀ (p : Addr) (H' : Hp) (ds : List Int), Same H H' → H p = none → H' p = some (.lst (ds.map V.int)) → Q (.ref p) H'
section
variable {P : Program} {w : World} {K : PySem.W.Frag} {mg : Str → Option Value} {base : Heap}
theorem ok_cell {f : Addr} {fd : FuncData} (F : Fun K "_law_cell" "_law_cell" sCell f fd) (T : Tx mg) : FnOk P w K mg base CX0 1 f fd ["script", "k"] (spCell K) := by
  refine F.ok scCell (fun vs H Q E h => ?_) (fun cdv A outer s H vs Q E hr h => ?_)
  · obtain ⟨a, z, k, rfl, _⟩ := h
    rfl
  · obtain ⟨a, ns, k, rfl, hS, hk, q⟩ := h
    refine ⟨_, pss_cons (ps_if (pt_cmpR op_lt (pv 1) (pe_callB call_len_seq (by rfl) T.len PySem.boot_len (pa_cons (pv 0) pa_nil)) (nomark _)) (pss_one (ps_ret (pe_ix ix_list (pv 0) (pv 1) (fun _ _ => rfl)))) pss_nil)
      (pss_one (ps_ret pe_int)), ?_⟩
    refine ⟨_, rfl, _, rfl, a, _, rfl, .inl hS, _, _, rfl, rfl, _, rfl, ite2 (fun e => ?_) (fun e => ?_)⟩
    · have e1 : k < ((ns.map V.int).length : Int) := of_decide_eq_true e
      rw [List.length_map] at e1
      have h1 : k.toNat < ns.length := by omega
      refine ⟨_, rfl, _, rfl, a, _, _, .int ns[k.toNat], rfl, rfl, hS, ?_, q _⟩
      exact at_of (j := k.toNat) (by omega) (by rw [List.getElem?_map, List.getElem?_eq_getElem h1]; rfl)
    · exact q 0
theorem ok_draw {f : Addr} {fd : FuncData} (F : Fun K "_law_draw" "_law_draw" sDraw f fd) (T : Tx mg) : FnOk P w K mg base CX0 1 f fd ["box", "many"] spDraw := by
  refine F.ok scDraw (fun vs H Q E h => ?_) (fun cdv A outer s H vs Q E hr h => ?_)
  · obtain ⟨B, D, m, rfl, _⟩ := h
    rfl
  · obtain ⟨B, D, m, rfl, hm, bx, q⟩ := h
    obtain ⟨ds, i, hB, hi, hne, hD⟩ := bx.ex
    have ix0 : ∀ {X : Cx}, IxR X (rIxL X.K) := ix_list
    refine ⟨_, pss_cons (ps_set (i := 2) scDraw.nd rfl (.inl rfl) (pe_ix ix_list (pv 0) pe_int (fun _ _ => rfl)))
      (pss_cons (ps_asg (pe_op op_add (pv 2) pe_int) (pg_sub (pv 0) pe_int set_list))
      (pss_cons (ps_if (pt_cmpR op_lt (pv 2) (pe_callB call_len_seq (by rfl) T.len PySem.boot_len (pa_cons (pe_ix ix_list (pv 0) pe_int (fun _ _ => rfl)) pa_nil)) (nomark _))
          (pss_one (ps_ret (pe_op op_mod (pe_callTy call_int1 (by rfl) T.int (by decide +kernel) (pa_cons (pe_ix ix_list (pe_ix ix_list (pv 0) pe_int (fun _ _ => rfl)) (pv 2) (fun _ _ => rfl)) pa_nil)) (pv 1)))) pss_nil)
      (pss_one (ps_ret (pe_op op_mod (pe_callTy call_int1 (by rfl) T.int (by decide +kernel) (pa_cons (pe_op op_add (pe_op op_mul (pv 2) pe_int) pe_int) pa_nil)) (pv 1)))))), ?_⟩
    refine ⟨_, rfl, _, _, _, _, rfl, rfl, sqL hB, atI_nat (j := 1) rfl, _, rfl, _, _, rfl, rfl, _, rfl, B, _, _, 1, rfl, rfl, hB, rfl, ?_⟩
    have hB2 : (upd H B (.lst [.ref D, .int (i + 1)])) B = some (.lst [.ref D, .int (i + 1)]) := upd_same
    have hD2 : (upd H B (.lst [.ref D, .int (i + 1)])) D = some (.lst (ds.map V.int)) := by rw [upd_ne hne]; exact hD
    have kp : Kp B H (upd H B (.lst [.ref D, .int (i + 1)])) := fun b o n e => by rw [upd_ne n]; exact e
    have bx2 : Box (upd H B (.lst [.ref D, .int (i + 1)])) B D := ⟨ds, i + 1, hB2, by omega, hne, hD2⟩
    refine ⟨_, rfl, _, rfl, _, _, _, _, rfl, rfl, sqL hB2, atI_nat (j := 0) rfl, D, _, rfl, .inl (sqL hD2), _, _, rfl, rfl, _, rfl, ite2 (fun e => ?_) (fun e => ?_)⟩
    · have e1 : i < ((ds.map V.int).length : Int) := of_decide_eq_true e
      rw [List.length_map] at e1
      have h1 : i.toNat < ds.length := by omega
      refine ⟨_, rfl, _, _, _, _, rfl, rfl, sqL hB2, atI_nat (j := 0) rfl, _, rfl, D, _, _, .int ds[i.toNat], rfl, rfl, sqL hD2, at_of (j := i.toNat) (by omega) (by rw [List.getElem?_map, List.getElem?_eq_getElem h1]; rfl), .inl ⟨_, rfl, ?_⟩⟩
      exact ⟨_, rfl, _, _, rfl, rfl, hm, q _ _ (Int.emod_nonneg _ (by omega)) (Int.emod_lt_of_pos _ hm) kp bx2⟩
    · refine ⟨_, rfl, _, _, rfl, rfl, .inr ⟨by decide, by decide⟩, _, _, rfl, rfl, .inl ⟨_, rfl, ?_⟩⟩
      exact ⟨_, rfl, _, _, rfl, rfl, hm, q _ _ (Int.emod_nonneg _ (by omega)) (Int.emod_lt_of_pos _ hm) kp bx2⟩
theorem ok_digits {f f1 : Addr} {fd fd1 : FuncData} (F : Fun K "_law_digits" "_law_digits" sDigits f fd) (T : Tx mg) (G1 : FnOk P w K mg base CX0 1 f1 fd1 ["script", "k"] (spCell K))
    (g1 : mg "_law_cell" = some (.ref f1)) (k1 : PySem.W.keepIn K (.ref f1) = true) (b1 : Binds K fd1 ["script", "k"] []) : FnOk P w K mg base CX0 2 f fd ["script", "first", "last"] (spDigits K) := by
  refine F.ok scDigits (fun vs H Q E h => ?_) (fun cdv A outer s H vs Q E hr h => ?_)
  · obtain ⟨a, z, u, v, rfl, _⟩ := h
    rfl
  · obtain ⟨a, ns, u, v, rfl, hS, hu, hu2, hv, hv2, q⟩ := h
    refine ⟨_, pss_cons (ps_set (i := 3) scDigits.nd rfl (.inl rfl) (pe_lst pa_nil))
      (pss_cons (ps_for PassesOwn.never rfl (pi_range2 (by rfl) T.range (pa_cons (pv 1) (pa_cons (pv 2) pa_nil))) (pg_name (i := 4) scDigits.nd rfl (Or.inl rfl))
        (pss_cons (ps_set (i := 5) scDigits.nd rfl (.inl rfl) (pe_call G1 hr (by rfl) g1 k1 b1 .nil pass0 (pa_cons (pv 0) (pa_cons (pv 4) pa_nil))))
        (pss_cons (ps_if (pt_cmpR op_lt (pv 5) pe_int (nomark _)) (pss_one (ps_set (i := 5) scDigits.nd rfl (.inl rfl) (pe_op op_sub pe_int (pe_op op_mul pe_int (pv 5))))) pss_nil)
        (pss_one (ps_if (pt_cmpR op_ge (pv 5) pe_int (nomark _))
          (pss_one (ps_for PassesOwn.never rfl (pi_range1 (by rfl) T.range (pa_cons pe_int pa_nil)) (pg_name (i := 6) scDigits.nd rfl (Or.inl rfl))
            (pss_one (ps_if (pt_cmpR op_gt (pv 5) pe_int (nomark _))
              (pss_cons (ps_expr (pe_bm PySem.F.plainAttrs_list PySem.F.slot_list_append PySem.F.type_list_append mt_append (pv 3) (pa_cons (pe_op op_mod (pe_callTy call_int1 (by rfl) T.int (by decide +kernel) (pa_cons (pv 5) pa_nil)) pe_int) pa_nil)))
              (pss_one (ps_set (i := 5) scDigits.nd rfl (.inl rfl) (pe_op op_fdiv (pv 5) pe_int)))) pss_nil))))
          (pss_cons (ps_set (i := 7) scDigits.nd rfl (.inl rfl) (pe_op op_mod (pe_callTy call_int1 (by rfl) T.int (by decide +kernel) (pa_cons (pe_op op_add (pe_op op_add (pe_op op_mul (pv 5) pe_int) (pe_op op_mul (pv 4) pe_int)) pe_int) pa_nil)) pe_int))
          (pss_one (ps_for PassesOwn.never rfl (pi_range1 (by rfl) T.range (pa_cons pe_int pa_nil)) (pg_name (i := 6) scDigits.nd rfl (Or.inl rfl))
            (pss_cons (ps_set (i := 7) scDigits.nd rfl (.inl rfl) (pe_op op_mod (pe_callTy call_int1 (by rfl) T.int (by decide +kernel) (pa_cons (pe_op op_add (pe_op op_add (pe_op op_mul (pv 7) pe_int) (pe_op op_mul pe_int (pv 6))) pe_int) pa_nil)) pe_int))
            (pss_one (ps_expr (pe_bm PySem.F.plainAttrs_list PySem.F.slot_list_append PySem.F.type_list_append mt_append (pv 3) (pa_cons (pe_op op_mod (pe_callTy call_int1 (by rfl) T.int (by decide +kernel) (pa_cons (pe_op op_fdiv (pv 7) pe_int) pa_nil)) pe_int) pa_nil)))))))))))))
      (pss_one (ps_ret (pv 3)))), ?_⟩
    refine ⟨Nat.zero_le _, fun p np => ?_⟩
    have hpow : (2 : Int) ^ 62 = 4611686018427387904 := by decide
    refine ⟨_, rfl, _, rfl, u, v, rfl, ⟨by omega, by omega, by omega, by omega⟩, ?_⟩
    refine for_range (lo := u) (n := (v - u).toNat) (fun i σ H' => ∃ (k' c' t' s' : Option V) (ds : List Int), σ = [some (.ref a), some (.int u), some (.int v), some (.ref p), k', c', t', s'] ∧ Same H H' ∧
      H' p = some (.lst (ds.map V.int)) ∧ ds.length ≤ 60 * i) ⟨none, none, none, none, [], rfl, same_upd np, upd_same, by simp⟩ ?_ ?_
    · rintro i σ H1 hi ⟨k', c', t', s', ds, rfl, s1, hp, hl⟩
      have hi2 : i < 1000 := by omega
      refine ⟨_, rfl, _, rfl, a, ns, _, rfl, s1.seq hS, by omega, fun z0 => ?_⟩
      refine ⟨_, rfl, _, _, rfl, rfl, _, rfl, ite2 (fun e0 => ⟨_, rfl, _, _, rfl, rfl, .inl ⟨by decide, by decide⟩, _, _, rfl, rfl, ?_⟩) (fun e0 => ?_)⟩
      all_goals
        refine ⟨_, rfl, _, _, rfl, rfl, _, rfl, ite2 (fun e1 => ?_) (fun e1 => ?_)⟩
        · refine ⟨60, rfl, by decide, by decide, for_range (lo := 0) (n := 60) (fun j σ H' => ∃ (c' : Int) (t' : Option V) (ds : List Int), σ = [some (.ref a), some (.int u), some (.int v), some (.ref p), some (.int (u + i)), some (.int c'), t', s'] ∧ Same H H' ∧
            H' p = some (.lst (ds.map V.int)) ∧ ds.length ≤ 60 * i + j) ⟨_, _, ds, rfl, s1, hp, by omega⟩ ?_ ?_⟩
          · rintro j σ H2 hj ⟨c2, t2, ds2, rfl, s2, hp2, hl2⟩
            refine ⟨_, rfl, _, _, rfl, rfl, _, rfl, ite2 (fun _ => ?_) (fun _ => ?_)⟩
            · refine ⟨_, rfl, .inl ⟨rfl, _, sqL hp2⟩, _, rfl, .inl ⟨_, rfl, _, _, rfl, rfl, (by show (0 : Int) < 1000; decide), p, _, _, rfl, rfl, hp2, ?_, ?_⟩⟩
              · rw [List.length_map]
                exact Nat.lt_of_le_of_lt (show _ ≤ 100000 by omega) (by decide)
              · refine ⟨_, rfl, _, _, rfl, rfl, ⟨by decide, by decide⟩, ?_⟩
                exact ⟨_, _, ds2 ++ [_], rfl, s2.mut np, by rw [upd_same, List.map_append]; rfl, by rw [List.length_append]; show ds2.length + 1 ≤ _; omega⟩
            · exact ⟨c2, _, ds2, rfl, s2, hp2, by omega⟩
          · rintro σ H2 ⟨c2, t2, ds2, rfl, s2, hp2, hl2⟩
            exact ⟨_, _, _, _, ds2, rfl, s2, hp2, by omega⟩
        · refine ⟨_, rfl, _, _, rfl, rfl, .inr ⟨by decide, by decide⟩, _, rfl, _, _, rfl, rfl, .inr ⟨by decide, by decide⟩, _, _, rfl, rfl, _, _, rfl, rfl, .inl ⟨_, rfl, _, _, rfl, rfl, (by show (0 : Int) < 2147483399; decide), ?_⟩⟩
          refine ⟨12, rfl, by decide, by decide, for_range (lo := 0) (n := 12) (fun j σ H' => ∃ (c' : Int) (t' : Option V) (w : Int) (ds : List Int), σ = [some (.ref a), some (.int u), some (.int v), some (.ref p), some (.int (u + i)), some (.int c'), t', some (.int w)] ∧ Same H H' ∧
            H' p = some (.lst (ds.map V.int)) ∧ ds.length ≤ 60 * i + j) ⟨_, _, _, ds, rfl, s1, hp, by omega⟩ ?_ ?_⟩
          · rintro j σ H2 hj ⟨c2, t2, w2, ds2, rfl, s2, hp2, hl2⟩
            refine ⟨_, rfl, _, _, rfl, rfl, .inr ⟨by decide, by decide⟩, _, rfl, _, _, rfl, rfl, .inl ⟨by decide, by decide⟩, _, _, rfl, rfl, _, _, rfl, rfl, .inl ⟨_, rfl, _, _, rfl, rfl, (by show (0 : Int) < 2147483563; decide), ?_⟩⟩
            refine ⟨_, rfl, .inl ⟨rfl, _, sqL hp2⟩, _, rfl, _, _, rfl, rfl, ⟨by decide, by decide⟩, .inl ⟨_, rfl, _, _, rfl, rfl, (by show (0 : Int) < 1000; decide), p, _, _, rfl, rfl, hp2, ?_, ?_⟩⟩
            · rw [List.length_map]
              exact Nat.lt_of_le_of_lt (show _ ≤ 100000 by omega) (by decide)
            · exact ⟨_, _, _, ds2 ++ [_], rfl, s2.mut np, by rw [upd_same, List.map_append]; rfl, by rw [List.length_append]; show ds2.length + 1 ≤ _; omega⟩
          · rintro σ H2 ⟨c2, t2, w2, ds2, rfl, s2, hp2, hl2⟩
            exact ⟨_, _, _, _, ds2, rfl, s2, hp2, by omega⟩
    · rintro σ H1 ⟨k', c', t', s', ds, rfl, s1, hp, hl⟩
      exact ⟨_, rfl, q p H1 ds s1 np hp⟩
end
def okc (c : Nat) : Bool := decide (32 ≤ c) && (decide (c ≤ 126) && !decide (c = 37))
def okText (n : Nat) (z : Str) : Prop := (tl z).length ≤ n ∧ (tl z).all okc = true
instance (n : Nat) (z : Str) : Decidable (okText n z) := inferInstanceAs (Decidable (_ ∧ _))
theorem okText.mono {m n : Nat} {z : Str} (h : okText m z) (l : m ≤ n) : okText n z := ⟨Nat.le_trans h.1 l, h.2⟩
theorem okText.app {m n : Nat} {x y : Str} (h : okText m x) (g : okText n y) : okText (m + n) (x ++ y) := by
  refine ⟨?_, ?_⟩
  · rw [tl_append, List.length_append]
    exact Nat.add_le_add h.1 g.1
  · rw [tl_append, List.all_append, h.2, g.2]
    rfl
theorem okText.len {n : Nat} {z : Str} (h : okText n z) (l : n ≤ 100000) : z.length ≤ sizeLine := by
  rw [len_tl]
  exact Nat.le_trans (Nat.le_trans h.1 l) (by decide)
/-- all of these values are texts of at most n signs that may be -/
theorem strOk_of {z : Str} (h : ∀ c ∈ tl z, okc c = true) : PyData.strOk z = true := by
  show z.cps.all (· < 0x110000) = true
  rw [← Array.all_toList, List.all_eq_true]
  intro c hc
  have h2 := h c hc
  unfold okc at h2
  rw [Bool.and_eq_true, Bool.and_eq_true, decide_eq_true_eq, decide_eq_true_eq] at h2
  exact decide_eq_true (by omega)
/-- data of truths may be shown -/
def Sh (d : PyData) : Prop := d.showable = true ∧ d.hasDict = false ∧ d.depth ≤ 40 ∧ d.shown.length ≤ sizeLine
section
variable {K : PySem.W.Frag} {H : Hp} {Q : VK} {σ : L2.St} {v : V} {p q : Bool} {te ta tb tc td : TE}
/-- a value, whatever more stands by then; nothing is changed -/
def EvS (te : TE) (σ : L2.St) (H : Hp) (v : V) : Prop := ∀ H1, Same H H1 → ∀ Q : VK, (∀ H2, Same H1 H2 → Q v H2) → te σ H1 Q
theorem evVar {i : Nat} (h : σ[i]? = some (some v)) : EvS (tVar i) σ H v := fun H1 _ Q q => ⟨v, h, q H1 (.refl _)⟩
theorem evAnd (ha : EvS ta σ H (.bl p)) (hb : EvS tb σ H (.bl q)) : EvS (tAndV ta tb) σ H (.bl (p && q)) := fun H1 s Q k => by
  refine ha H1 s _ fun H2 s2 => ⟨p, rfl, ?_⟩
  cases p with
  | true =>
    rw [if_pos rfl]
    exact hb H2 (s.trans s2) _ fun H3 s3 => k H3 (s2.trans s3)
  | false =>
    rw [if_neg Bool.false_ne_true]
    exact k H2 s2
theorem evOr (ha : EvS ta σ H (.bl p)) (hb : EvS tb σ H (.bl q)) : EvS (tOrV ta tb) σ H (.bl (p || q)) := fun H1 s Q k => by
  refine ha H1 s _ fun H2 s2 => ⟨p, rfl, ?_⟩
  cases p with
  | true =>
    rw [if_pos rfl]
    exact k H2 s2
  | false =>
    rw [if_neg Bool.false_ne_true]
    exact hb H2 (s.trans s2) _ fun H3 s3 => k H3 (s2.trans s3)
end
/-- a def of the text that may be called -/
structure Cal (P : Program) (w : World) (K : PySem.W.Frag) (mg : Str → Option Value) (base : Heap) (k : Nat) (x : Str) (ps : List Str) (sp : Sp) : Prop where
  ex : ∃ (f : Addr) (fd : FuncData), FnOk P w K mg base CX0 k f fd ps sp ∧ mg x = some (.ref f) ∧ PySem.W.keepIn K (.ref f) = true ∧ Binds K fd ps []
structure CalG (P : Program) (w : World) (K : PySem.W.Frag) (mg : Str → Option Value) (base : Heap) (k : Nat) (x : Str) (ps : List Str) (sp : Sp) : Prop where
  ex : ∃ (f : Addr) (fd : FuncData), FnG P w K mg base CX0 k f fd ps sp ∧ mg x = some (.ref f) ∧ PySem.W.keepIn K (.ref f) = true ∧ Binds K fd ps []
def spLaw (K : PySem.W.Frag) : Sp := fun vs H Q _ => ∃ (a : Addr) (ns : List Int), vs = [.ref a] ∧ SqL K H a (ns.map V.int) ∧ ns.length ≤ 63 ∧ ∀ H', Q (.bl true) H'
structure CalX (P : Program) (w : World) (K : PySem.W.Frag) (mg : Str → Option Value) (base : Heap) (k : Nat) (x : Str) (ps : List Str) (sp : Sp) : Prop where
  ex : ∃ (f : Addr) (fd : FuncData), FnOk P w K mg base (L2.CX P w) k f fd ps sp ∧ mg x = some (.ref f) ∧ PySem.W.keepIn K (.ref f) = true ∧ Binds K fd ps []
structure MCal (P : Program) (w : World) (K : PySem.W.Frag) (mg : Str → Option Value) (base : Heap) (C : Addr) (k : Nat) (m : Str) (ps : List Str) (sp : Sp) : Prop where
  ex : ∃ (f : Addr) (fd : FuncData), FnOk P w K mg base CX0 k f fd ps sp ∧ Meth K C m f ∧ Binds K fd ps []
section
variable {X : Cx} {k n : Nat} {C : Addr} {x m : Str} {ps : List Str} {sp : Sp} {e o : Expr} {es : List Expr} {t : TA} {ta : TE} {p pos apos cpos : Pos}
theorem pe_cal (S : Cal X.prog X.w X.K X.mg X.base k x ps sp) (hr : Room n X.A) (hx : Passes CX0 X E0) (ha : PA X (e :: es) t) (hk : k ≤ n := by decide) (hg : Gl X x := by rfl) (hdb : (x == ("__debug__" : Str)) = false := by decide)
    (he : starEach (e :: es) X.env = (false, eval e X.env) :: starEach es X.env := by rfl) (hpl : (backTo pos (starEach es X.env)).any (·.1) = false := by rfl) : PE X (.Call (.Name x p) (e :: es) [] pos) (tCall sp [] E0 t) := by
  obtain ⟨f, fd, F, g, kp, b⟩ := S.ex
  exact pe_call F (hr.mono hk) hg g kp b .nil hx ha hdb he hpl
theorem pe_calX {E : XK} (S : CalX X.prog X.w X.K X.mg X.base k x ps sp) (hr : Room n X.A) (hx : Passes (L2.CX X.prog X.w) X E) (ha : PA X (e :: es) t) (hk : k ≤ n := by decide) (hg : Gl X x := by rfl) (hdb : (x == ("__debug__" : Str)) = false := by decide)
    (he : starEach (e :: es) X.env = (false, eval e X.env) :: starEach es X.env := by rfl) (hpl : (backTo pos (starEach es X.env)).any (·.1) = false := by rfl) : PE X (.Call (.Name x p) (e :: es) [] pos) (tCall sp [] E t) := by
  obtain ⟨f, fd, F, g, kp, b⟩ := S.ex
  exact pe_call F (hr.mono hk) hg g kp b .nil hx ha hdb he hpl
theorem Cal.mono (S : Cal X.prog X.w X.K X.mg X.base k x ps sp) : True := trivial
end
section
variable {P : Program} {w : World} {K : PySem.W.Frag} {mg : Str → Option Value} {base : Heap}
theorem ok_digitsC {f : Addr} {fd : FuncData} (F : Fun K "_law_digits" "_law_digits" sDigits f fd) (T : Tx mg) (S : Cal P w K mg base 1 "_law_cell" ["script", "k"] (spCell K)) : FnOk P w K mg base CX0 2 f fd ["script", "first", "last"] (spDigits K) := by
  obtain ⟨f1, fd1, G1, g1, k1, b1⟩ := S.ex
  exact ok_digits F T G1 g1 k1 b1
end
end KX

set_option maxRecDepth 100000
set_option maxHeartbeats 4000000
/-! J3: blocks of 32 numbers, read as pieces. -/
namespace Ga
open PySem PySem.Spec PyProof.Rows L2 TL
abbrev iv (ns : List Int) : List V := ns.map V.int
def IsB (ns : List Int) : Prop := ns.length = 32 ∧ ∀ x ∈ ns, 0 ≤ x ∧ x ≤ 255
def isCode (c : Int) : Bool := decide (c = 10) || (decide (32 ≤ c) && decide (c ≤ 126) && !decide (c = 37))
def signOf (c : Int) : Str := ⟨#[c.toNat]⟩
def textOf (cs : List Int) : Str := ⟨(cs.map Int.toNat).toArray⟩
def codesM (ns : List Int) : List Int := (ns.drop 6).take (ns.getD 5 0).toNat
def restM (ns : List Int) : List Int := (ns.drop (6 + (ns.getD 5 0).toNat)).take (25 - (ns.getD 5 0).toNat)
/-- what the marks and counts say -/
def headM (ns : List Int) : Bool := !(decide (ns.getD 0 0 ≠ 76) || (decide (ns.getD 31 0 ≠ 76) || (decide (ns.getD 1 0 ≥ ns.getD 2 0) || decide (ns.getD 5 0 > 24))))
def okM (ns : List Int) : Bool := headM ns && ((codesM ns).all isCode && (restM ns).all fun b => decide (b = 0))
def decM (ns : List Int) : Option (Int × Int × Int × Str) := if okM ns = true then some (ns.getD 1 0, ns.getD 2 0, 256 * ns.getD 3 0 + ns.getD 4 0, textOf (codesM ns)) else none
def decD (ns : List Int) : PyData := match decM ns with
  | none => .none
  | some (a, b, c, t) => .tuple [.int a, .int b, .int c, .str t]
def dI (ns : List Int) : PyData := .list (ns.map PyData.int)
theorem dp_ints {K : PySem.W.Frag} {H : Hp} : ∀ ns : List Int, DpAll K H (iv ns) (ns.map PyData.int)
  | [] => .nil
  | z :: r => .cons (.int z) (dp_ints r)
theorem can_ints : ∀ l : List Int, PyData.canLayAll0 (l.map PyData.int) = true
  | [] => rfl
  | z :: r => by
    show (true && PyData.canLayAll0 (r.map PyData.int)) = true
    rw [can_ints r]
    rfl
theorem depth_ints : ∀ l : List Int, PyData.depthAll (l.map PyData.int) = 0
  | [] => rfl
  | z :: r => by
    show max 0 (PyData.depthAll (r.map PyData.int)) = 0
    rw [depth_ints r]
    rfl
theorem shaped_ints (l : List Int) : SeqAt.shaped (dI l) = true := by
  unfold SeqAt.shaped dI
  rw [show PyData.canLay0 (.list (l.map PyData.int)) = PyData.canLayAll0 (l.map PyData.int) from rfl, can_ints l,
    show PyData.depth (.list (l.map PyData.int)) = PyData.depthAll (l.map PyData.int) + 1 from rfl, depth_ints]
  rfl
theorem eqv_refl' {d : PyData} (h : SeqAt.shaped d = true) : PyData.eqv d d = true := SeqAt.eqv_refl d (SeqAt.canLay_of_shaped h)
theorem tl_textOf (cs : List Int) : tl (textOf cs) = cs.map Int.toNat := by simp [textOf, tl]
theorem text_strOk {cs : List Int} (h : cs.all isCode = true) : PyData.strOk (textOf cs) = true := by
  show (textOf cs).cps.all (· < 0x110000) = true
  rw [← Array.all_toList, List.all_eq_true]
  intro c hc
  have hc2 : c ∈ cs.map Int.toNat := by rw [← tl_textOf]; exact hc
  obtain ⟨x, hx, rfl⟩ := List.mem_map.mp hc2
  have h2 := List.all_eq_true.mp h x hx
  unfold isCode at h2
  simp only [Bool.or_eq_true, Bool.and_eq_true, decide_eq_true_eq] at h2
  exact decide_eq_true (by omega)
theorem shaped_dec (ns : List Int) : SeqAt.shaped (decD ns) = true := by
  unfold decD decM
  by_cases h : okM ns = true
  · rw [if_pos h]
    unfold okM at h
    rw [Bool.and_eq_true, Bool.and_eq_true] at h
    have hs := text_strOk h.2.1
    show (PyData.canLayAll0 [_, _, _, _] && _) = true
    have e : PyData.canLayAll0 [PyData.int (ns.getD 1 0), .int (ns.getD 2 0), .int (256 * ns.getD 3 0 + ns.getD 4 0), .str (textOf (codesM ns))] = PyData.strOk (textOf (codesM ns)) := by
      show (true && (true && (true && (PyData.strOk (textOf (codesM ns)) && true)))) = _
      simp
    rw [e, hs]
    rfl
  · rw [if_neg h]
    rfl
theorem paired_and {α β : Type} {R : α → β → Prop} {p : α → Prop} : ∀ {l : List α} {m : List β}, Paired R l m → (∀ a ∈ l, p a) → Paired (fun a b => p a ∧ R a b) l m
  | _, _, .nil, _ => .nil
  | _, _, .cons h t, k => .cons ⟨k _ List.mem_cons_self, h⟩ (paired_and t fun a ha => k a (List.mem_cons_of_mem _ ha))
theorem paired_len {α β : Type} {R : α → β → Prop} : ∀ {l : List α} {m : List β}, Paired R l m → l.length = m.length
  | _, _, .nil => rfl
  | _, _, .cons _ t => by rw [List.length_cons, List.length_cons, paired_len t]
theorem flat_one {α : Type} (x : α) : ∀ n : Nat, (List.replicate n [x]).flatten = List.replicate n x
  | 0 => rfl
  | n + 1 => by rw [List.replicate_succ, List.flatten_cons, flat_one x n]; rfl
/-! ### a block's parts -/
theorem IsB.get {ns : List Int} (h : IsB ns) {i : Nat} (hi : i < 32) : ns[i]? = some (ns.getD i 0) ∧ 0 ≤ ns.getD i 0 ∧ ns.getD i 0 ≤ 255 := by
  have hl : i < ns.length := by rw [h.1]; exact hi
  have e : ns.getD i 0 = ns[i] := by rw [List.getD_eq_getElem?_getD, List.getElem?_eq_getElem hl]; rfl
  rw [e]
  exact ⟨List.getElem?_eq_getElem hl, h.2 _ (List.getElem_mem hl)⟩
theorem IsB.at {ns : List Int} (h : IsB ns) {i : Nat} (hi : i < 32) : atI (iv ns) ((i : Nat) : Int) = some (V.int (ns.getD i 0)) :=
  atI_nat (by rw [List.getElem?_map, (h.get hi).1]; rfl)
theorem cut_nat (xs : List V) (a b : Nat) (hb : b ≤ xs.length) : cutV xs (some (a : Int)) (some (b : Int)) = (xs.drop a).take (b - a) := by
  unfold cutV
  rw [show HT.sIx xs.length 0 (some (a : Int)) = min a xs.length from HT.sIx_nat _ _ _, show HT.sIx xs.length xs.length (some (b : Int)) = min b xs.length from HT.sIx_nat _ _ _, Nat.min_eq_left hb]
  rcases Nat.lt_or_ge a xs.length with h | h
  · rw [Nat.min_eq_left (Nat.le_of_lt h)]
  · rw [Nat.min_eq_right h, List.drop_eq_nil_of_le (Nat.le_refl _), List.drop_eq_nil_of_le h, List.take_nil, List.take_nil]
theorem cut_to (xs : List V) (b : Nat) : cutV xs none (some (b : Int)) = xs.take b := by
  unfold cutV
  rw [show HT.sIx xs.length 0 none = 0 from rfl, show HT.sIx xs.length xs.length (some (b : Int)) = min b xs.length from HT.sIx_nat _ _ _, List.drop_zero, Nat.sub_zero]
  exact List.take_eq_take_min.symm
theorem cut_from (xs : List V) (a : Nat) : cutV xs (some (a : Int)) none = xs.drop a := by
  unfold cutV
  rw [show HT.sIx xs.length 0 (some (a : Int)) = min a xs.length from HT.sIx_nat _ _ _, show HT.sIx xs.length xs.length none = xs.length from rfl]
  rcases Nat.lt_or_ge a xs.length with h | h
  · rw [Nat.min_eq_left (Nat.le_of_lt h), List.take_of_length_le (by rw [List.length_drop]; exact Nat.le_refl _)]
  · rw [Nat.min_eq_right h, List.drop_eq_nil_of_le (Nat.le_refl _), List.drop_eq_nil_of_le h, List.take_nil]
/-- rest[count:-1] -/
theorem cut_back (xs : List V) (a : Nat) (hne : xs ≠ []) : cutV xs (some (a : Int)) (some (-1)) = (xs.drop a).take (xs.length - 1 - a) := by
  have h0 : 0 < xs.length := List.length_pos_iff.mpr hne
  have e : (HT.sIx xs.length xs.length (some (-1))) = xs.length - 1 := by
    show (if (-1 : Int) < 0 then ((-1 : Int) + (xs.length : Int)).toNat else min (-1 : Int).toNat xs.length) = _
    rw [if_pos (by decide)]
    omega
  unfold cutV
  rw [show HT.sIx xs.length 0 (some (a : Int)) = min a xs.length from HT.sIx_nat _ _ _, e]
  rcases Nat.lt_or_ge a xs.length with h | h
  · rw [Nat.min_eq_left (Nat.le_of_lt h)]
  · rw [Nat.min_eq_right h, List.drop_eq_nil_of_le h, List.drop_eq_nil_of_le (Nat.le_refl xs.length), List.take_nil, List.take_nil]
theorem take_iv (ns : List Int) (n : Nat) : (iv ns).take n = iv (ns.take n) := (List.map_take ..).symm
theorem drop_iv (ns : List Int) (n : Nat) : (iv ns).drop n = iv (ns.drop n) := (List.map_drop ..).symm
theorem set_iv (ns : List Int) (i : Nat) (v : Int) : (iv ns).set i (.int v) = iv (ns.set i v) := (List.map_set ..).symm
theorem app_iv (ns ms : List Int) : iv ns ++ iv ms = iv (ns ++ ms) := (List.map_append ..).symm
theorem IsB.app {ns ms : List Int} (hn : ∀ x ∈ ns, 0 ≤ x ∧ x ≤ 255) (hm : ∀ x ∈ ms, 0 ≤ x ∧ x ≤ 255) (hl : ns.length + ms.length = 32) : IsB (ns ++ ms) :=
  ⟨by rw [List.length_append]; exact hl, fun x hx => (List.mem_append.mp hx).elim (hn x) (hm x)⟩
theorem IsB.set {ns : List Int} (h : IsB ns) (i : Nat) {v : Int} (hv : 0 ≤ v ∧ v ≤ 255) : IsB (ns.set i v) :=
  ⟨by rw [List.length_set]; exact h.1, fun x hx => (List.mem_or_eq_of_mem_set hx).elim (h.2 x) fun e => e ▸ hv⟩
/-! ### pieces -/
def upI (l : List Nat) : List Int := l.map fun (c : Nat) => (c : Int)
theorem upI_len (l : List Nat) : (upI l).length = l.length := List.length_map ..
def okS (c : Nat) : Bool := isCode (c : Int)
def pieceM (k many number : Int) (part : List Nat) : List Int := ([76, k, many, number / 256, number % 256, (part.length : Int)] ++ upI part) ++ (List.replicate (25 - part.length) 0 ++ [76])
def partM (l : List Nat) (k : Nat) : List Nat := (l.drop (24 * k)).take 24
def manyM (n : Nat) : Nat := max 1 ((n + 23) / 24)
def piecesM (number : Int) (l : List Nat) : List (List Int) := (List.range (manyM l.length)).map fun k => pieceM (k : Nat) (manyM l.length : Nat) number (partM l k)
theorem part_len (l : List Nat) (k : Nat) : (partM l k).length ≤ 24 := by
  unfold partM
  rw [List.length_take]
  exact Nat.min_le_left _ _
theorem piece_len {k many number : Int} {part : List Nat} (h : part.length ≤ 24) : (pieceM k many number part).length = 32 := by
  unfold pieceM
  simp [upI_len]
  omega
theorem getD_app {α : Type} {l m : List α} {i : Nat} {d : α} (h : i < l.length) : (l ++ m).getD i d = l.getD i d := by
  rw [List.getD_eq_getElem?_getD, List.getD_eq_getElem?_getD, List.getElem?_append_left h]
theorem piece_get {k many number : Int} {part : List Nat} (h : part.length ≤ 24) :
    (pieceM k many number part).getD 0 0 = 76 ∧ (pieceM k many number part).getD 1 0 = k ∧ (pieceM k many number part).getD 2 0 = many ∧ (pieceM k many number part).getD 3 0 = number / 256 ∧ (pieceM k many number part).getD 4 0 = number % 256 ∧
      (pieceM k many number part).getD 5 0 = part.length ∧ (pieceM k many number part).getD 31 0 = 76 := by
  have hi : ∀ i, i < 6 → (pieceM k many number part).getD i 0 = ([76, k, many, number / 256, number % 256, (part.length : Int)] : List Int).getD i 0 := by
    intro i hi
    unfold pieceM
    rw [List.append_assoc, getD_app (by exact hi)]
  refine ⟨hi 0 (by decide), hi 1 (by decide), hi 2 (by decide), hi 3 (by decide), hi 4 (by decide), hi 5 (by decide), ?_⟩
  unfold pieceM
  rw [← List.append_assoc, List.getD_eq_getElem?_getD, List.getElem?_append_right (by simp [upI_len]; omega)]
  have : 31 - (([76, k, many, number / 256, number % 256, (part.length : Int)] ++ upI part) ++ List.replicate (25 - part.length) 0).length = 0 := by simp [upI_len]; omega
  rw [this]
  rfl
theorem piece_codes {k many number : Int} {part : List Nat} (h : part.length ≤ 24) : codesM (pieceM k many number part) = upI part := by
  unfold codesM
  rw [(piece_get h).2.2.2.2.2.1, Int.toNat_natCast]
  unfold pieceM
  rw [List.append_assoc, show (6 : Nat) = ([76, k, many, number / 256, number % 256, (part.length : Int)] : List Int).length from rfl, List.drop_left]
  have : part.length = (upI part).length := (upI_len part).symm
  rw [this, List.take_left]
theorem piece_rest {k many number : Int} {part : List Nat} (h : part.length ≤ 24) : restM (pieceM k many number part) = List.replicate (25 - part.length) 0 := by
  unfold restM
  rw [(piece_get h).2.2.2.2.2.1, Int.toNat_natCast]
  unfold pieceM
  have e : 6 + part.length = ([76, k, many, number / 256, number % 256, (part.length : Int)] ++ upI part).length := by simp [upI_len]; omega
  rw [e, List.drop_left]
  generalize 25 - part.length = n
  exact (congrArg (fun m => List.take m (List.replicate n (0 : Int) ++ [76])) (List.length_replicate (n := n) (a := (0 : Int))).symm).trans List.take_left
theorem piece_ok {k many number : Int} {part : List Nat} (h : part.length ≤ 24) (hk : k < many) (hs : ∀ c ∈ part, okS c = true) : okM (pieceM k many number part) = true := by
  unfold okM
  obtain ⟨g0, g1, g2, g3, g4, g5, g31⟩ := piece_get (k := k) (many := many) (number := number) h
  have hh : headM (pieceM k many number part) = true := by
    unfold headM
    rw [g0, g1, g2, g5, g31]
    simp
    omega
  rw [hh, piece_codes h, piece_rest h, Bool.true_and, Bool.and_eq_true]
  refine ⟨List.all_eq_true.mpr fun x hx => ?_, List.all_eq_true.mpr fun x hx => ?_⟩
  · obtain ⟨c, hc, rfl⟩ := List.mem_map.mp hx
    exact hs c hc
  · rw [(List.mem_replicate.mp hx).2]
    rfl
theorem piece_dec {k many number : Int} {part : List Nat} (h : part.length ≤ 24) (hk : k < many) (hs : ∀ c ∈ part, okS c = true) :
    decM (pieceM k many number part) = some (k, many, number, ⟨part.toArray⟩) := by
  unfold decM
  rw [if_pos (piece_ok h hk hs)]
  obtain ⟨g0, g1, g2, g3, g4, g5, g31⟩ := piece_get (k := k) (many := many) (number := number) h
  rw [g1, g2, g3, g4, piece_codes h]
  have e : 256 * (number / 256) + number % 256 = number := Int.mul_ediv_add_emod number 256
  have e2 : textOf (upI part) = ⟨part.toArray⟩ := by
    unfold textOf upI
    rw [List.map_map]
    congr 2
    conv => rhs; rw [← List.map_id part]
    apply List.map_congr_left
    intro c _
    simp
  rw [e, e2]
theorem isCode_le {c : Int} (h : isCode c = true) : 0 ≤ c ∧ c ≤ 255 := by
  unfold isCode at h
  simp only [Bool.or_eq_true, Bool.and_eq_true, decide_eq_true_eq] at h
  omega
theorem piece_isB {k many number : Int} {part : List Nat} (h : part.length ≤ 24) (hk : 0 ≤ k ∧ k ≤ 255) (hm : 0 ≤ many ∧ many ≤ 255) (hn : 0 ≤ number ∧ number < 65536) (hs : ∀ c ∈ part, okS c = true) : IsB (pieceM k many number part) := by
  refine ⟨piece_len h, fun x hx => ?_⟩
  unfold pieceM at hx
  rcases List.mem_append.mp hx with hx | hx
  · rcases List.mem_append.mp hx with hx | hx
    · simp only [List.mem_cons, List.not_mem_nil, or_false] at hx
      have := Int.emod_nonneg number (show (256 : Int) ≠ 0 by decide)
      have := Int.emod_lt_of_pos number (show (0 : Int) < 256 by decide)
      rcases hx with rfl | rfl | rfl | rfl | rfl | rfl <;> omega
    · obtain ⟨c, hc, rfl⟩ := List.mem_map.mp hx
      exact isCode_le (hs c hc)
  · rcases List.mem_append.mp hx with hx | hx
    · rw [(List.mem_replicate.mp hx).2]
      decide
    · rw [List.mem_singleton.mp hx]
      decide
end Ga

set_option maxRecDepth 100000
set_option maxHeartbeats 4000000
/-! B1: values and tests that change nothing. -/
namespace KX
open PySem PySem.Spec PyProof.Rows L2 TL Ga
section
variable {K : PySem.W.Frag} {H : Hp} {σ : L2.St} {p q : Bool} {te : TE} {ta tb : TT}
def EvT (te : TT) (σ : L2.St) (H : Hp) (b : Bool) : Prop := ∀ H1, Same H H1 → ∀ Q : Bool → Hp → Prop, (∀ H2, Same H1 H2 → Q b H2) → te σ H1 Q
theorem etVal (h : EvS te σ H (.bl p)) : EvT (tB te) σ H p := fun H1 s Q k => h H1 s _ fun H2 s2 => ⟨p, rfl, k H2 s2⟩
theorem etNot (h : EvT ta σ H p) : EvT (tNot ta) σ H (!p) := fun H1 s Q k => h H1 s _ fun H2 s2 => k H2 s2
theorem etAnd (ha : EvT ta σ H p) (hb : EvT tb σ H q) : EvT (tAnd ta tb) σ H (p && q) := fun H1 s Q k => by
  refine ha H1 s _ fun H2 s2 => ?_
  cases p with
  | true => exact hb H2 (s.trans s2) _ fun H3 s3 => k H3 (s2.trans s3)
  | false => exact k H2 s2
theorem etOr (ha : EvT ta σ H p) (hb : EvT tb σ H q) : EvT (tOr ta tb) σ H (p || q) := fun H1 s Q k => by
  refine ha H1 s _ fun H2 s2 => ?_
  cases p with
  | true => exact k H2 s2
  | false => exact hb H2 (s.trans s2) _ fun H3 s3 => k H3 (s2.trans s3)
theorem etNe {i j : Nat} {x y : Str} (h : σ[i]? = some (some (.str x))) (g : σ[j]? = some (some (.str y))) : EvT (tTest (tOp rNe (tVar i) (tVar j))) σ H (!decide (x = y)) := fun H1 s Q k =>
  ⟨_, h, _, g, rfl, _, rfl, by
    have : decide (V.str x = V.str y) = decide (x = y) := decide_eq_decide.mpr ⟨V.str.inj, fun z => by rw [z]⟩
    rw [this]
    exact k H1 (.refl _)⟩
theorem EvT.go {b : Bool} (h : EvT ta σ H b) {Q : Bool → Hp → Prop} (k : ∀ H2, Same H H2 → Q b H2) : ta σ H Q := h H (.refl _) Q k
end

section
variable {K : PySem.W.Frag} {H : Hp} {σ : L2.St} {b c : Bool} {te ta tb : TE} {tt : TT} {v x y : V} {i j : Int}
theorem evC : EvS (tC v) σ H v := fun H1 s Q k => k H1 (.refl _)
theorem EvS.go (h : EvS te σ H v) {Q : VK} (k : ∀ H2, Same H H2 → Q v H2) : te σ H Q := h H (.refl _) Q k
theorem EvS.st {H' : Hp} (h : EvS te σ H v) (s : Same H H') : EvS te σ H' v := fun H1 s1 Q k => h H1 (s.trans s1) Q k
theorem EvS.eq (h : EvS te σ H v) (e : v = x) : EvS te σ H x := e ▸ h
theorem evI0 {f : Int → Int → V} (ha : EvS ta σ H (.int i)) (hb : EvS tb σ H (.int j)) : EvS (tOp (rI0 f) ta tb) σ H (f i j) := fun H1 s Q k =>
  ha H1 s _ fun H2 s2 => hb H2 (s.trans s2) _ fun H3 s3 => ⟨_, _, rfl, rfl, k H3 (s2.trans s3)⟩
theorem evMul (ha : EvS ta σ H (.int i)) (hb : EvS tb σ H (.int j)) (hc : CMul i j) : EvS (tOp (rI CMul fun i j => V.int (i * j)) ta tb) σ H (.int (i * j)) := fun H1 s Q k =>
  ha H1 s _ fun H2 s2 => hb H2 (s.trans s2) _ fun H3 s3 => ⟨_, _, rfl, rfl, hc, k H3 (s2.trans s3)⟩
theorem evNeI (ha : EvS ta σ H (.int i)) (hb : EvS tb σ H (.int j)) : EvS (tOp rNe ta tb) σ H (.bl (decide (i ≠ j))) := fun H1 s Q k =>
  ha H1 s _ fun H2 s2 => hb H2 (s.trans s2) _ fun H3 s3 => ⟨rfl, by
    have : (!decide (V.int i = V.int j)) = decide (i ≠ j) := by
      by_cases h : i = j
      · subst h; simp
      · have : V.int i ≠ V.int j := fun e => h (V.int.inj e)
        simp [h]
    rw [this]
    exact k H3 (s2.trans s3)⟩
theorem evEqI (ha : EvS ta σ H (.int i)) (hb : EvS tb σ H (.int j)) : EvS (tOp rEq ta tb) σ H (.bl (decide (i = j))) := fun H1 s Q k =>
  ha H1 s _ fun H2 s2 => hb H2 (s.trans s2) _ fun H3 s3 => ⟨rfl, by
    have : decide (V.int i = V.int j) = decide (i = j) := decide_eq_decide.mpr ⟨V.int.inj, fun z => by rw [z]⟩
    rw [this]
    exact k H3 (s2.trans s3)⟩
theorem evIxL {p : Addr} {xs : List V} (ha : EvS ta σ H (.ref p)) (hb : EvS tb σ H (.int i)) (hs : SqL K H p xs) (he : atI xs i = some v) : EvS (tOp (rIxL K) ta tb) σ H v := fun H1 s Q k =>
  ha H1 s _ fun H2 s2 => hb H2 (s.trans s2) _ fun H3 s3 => ⟨p, xs, i, v, rfl, rfl, ((s.trans s2).trans s3).seq hs, he, k H3 (s2.trans s3)⟩
theorem evNeg (ha : EvS ta σ H (.int i)) : EvS (tUn (rU fun i => V.int (-i)) ta) σ H (.int (-i)) := fun H1 s Q k => ha H1 s _ fun H2 s2 => ⟨_, rfl, k H2 s2⟩
theorem evLenL {p : Addr} {xs : List V} (ha : EvS ta σ H (.ref p)) (hs : SqL K H p xs) : EvS (tCB (rLenQ K) (tCons ta tNil)) σ H (.int (xs.length : Nat)) := fun H1 s Q k =>
  ha H1 s _ fun H2 s2 => ⟨p, xs, rfl, .inl ((s.trans s2).seq hs), k H2 s2⟩
theorem evLenS {z : Str} (ha : EvS ta σ H (.str z)) (hz : z.length ≤ sizeLine) : EvS (tCB (fun xs H Q => ∃ z, xs = [V.str z] ∧ z.length ≤ sizeLine ∧ Q (.int z.length) H) (tCons ta tNil)) σ H (.int (z.length : Nat)) := fun H1 s Q k =>
  ha H1 s _ fun H2 s2 => ⟨z, rfl, hz, k H2 s2⟩
theorem etTest (h : EvS te σ H (.bl b)) : EvT (tTest te) σ H b := fun H1 s Q k => h H1 s _ fun H2 s2 => ⟨b, rfl, k H2 s2⟩
theorem evIf (hb : EvT tt σ H b) (h1 : b = true → EvS ta σ H v) (h2 : b = false → EvS tb σ H v) : EvS (tIf tt ta tb) σ H v := fun H1 s Q k => hb H1 s _ fun H2 s2 => by
  cases b with
  | true => exact h1 rfl H2 (s.trans s2) _ fun H3 s3 => k H3 (s2.trans s3)
  | false => exact h2 rfl H2 (s.trans s2) _ fun H3 s3 => k H3 (s2.trans s3)
end
theorem bnot_t : ∀ {b : Bool}, (!b) = true → b = false
  | false, _ => rfl
theorem bnot_f : ∀ {b : Bool}, (!b) = false → b = true
  | true, _ => rfl
/-! ### relations of what comes out -/
def EvR (te : TE) (σ : L2.St) (H : Hp) (R : Hp → V → Hp → Prop) : Prop := ∀ H1, Same H H1 → ∀ Q : VK, (∀ v H2, Same H1 H2 → R H1 v H2 → Q v H2) → te σ H1 Q
def nL (xs : List V) : Hp → V → Hp → Prop := fun H1 v H2 => ∃ p, v = .ref p ∧ H1 p = none ∧ H2 p = some (.lst xs)
def tL (xs : List V) : Hp → V → Hp → Prop := fun _ v H2 => ∃ p, v = .ref p ∧ H2 p = some (.lst xs)
def sL (K : PySem.W.Frag) (xs : List V) : Hp → V → Hp → Prop := fun _ v H2 => ∃ p, v = .ref p ∧ SqL K H2 p xs
def nT (xs : List V) : Hp → V → Hp → Prop := fun H1 v H2 => ∃ p, v = .ref p ∧ H1 p = none ∧ H2 p = some (.tup xs)
def sT (K : PySem.W.Frag) (xs : List V) : Hp → V → Hp → Prop := fun _ v H2 => ∃ p, v = .ref p ∧ SqT K H2 p xs
def dD (K : PySem.W.Frag) (d : PyData) : Hp → V → Hp → Prop := fun _ v H2 => Dp K H2 v d
section
variable {K : PySem.W.Frag} {H H' : Hp}
mutual
theorem Dp.same {v : V} {d : PyData} (e : Same H H') : Dp K H v d → Dp K H' v d
  | .non => .non
  | .bl b => .bl b
  | .int i => .int i
  | .str z => .str z
  | .lst s l => .lst (e.seq s) (DpAll.same e l)
  | .tup s l => .tup (e.seqT s) (DpAll.same e l)
theorem DpAll.same {vs : List V} {ds : List PyData} (e : Same H H') : DpAll K H vs ds → DpAll K H' vs ds
  | .nil => .nil
  | .cons h t => .cons (Dp.same e h) (DpAll.same e t)
end
end
section
variable {K : PySem.W.Frag} {H : Hp} {σ : L2.St} {b c : Bool} {te ta tb : TE} {tt : TT} {tr : TA} {v x y : V} {i j : Int} {xs ys : List V} {R R' : Hp → V → Hp → Prop} {p : Addr} {D : Ends} {s1 s2 s3 : TS}
theorem EvR.w (h : EvR te σ H R) (w : ∀ H1 v H2, R H1 v H2 → R' H1 v H2) : EvR te σ H R' := fun H1 s Q k => h H1 s Q fun v H2 s2 r => k v H2 s2 (w _ _ _ r)
theorem EvR.st {H' : Hp} (h : EvR te σ H R) (s : Same H H') : EvR te σ H' R := fun H1 s1 Q k => h H1 (s.trans s1) Q k
theorem EvR.go (h : EvR te σ H R) {Q : VK} (k : ∀ v H2, Same H H2 → R H v H2 → Q v H2) : te σ H Q := h H (.refl _) Q k
theorem EvS.r (h : EvS te σ H v) (w : ∀ H1 H2, Same H H1 → Same H1 H2 → R H1 v H2) : EvR te σ H R := fun H1 s Q k => h H1 s Q fun H2 s2 => k v H2 s2 (w _ _ s s2)
theorem EvR.ts (h : EvR te σ H (tL xs)) : EvR te σ H (sL K xs) := h.w fun _ _ _ ⟨p, e, q⟩ => ⟨p, e, sqL q⟩
theorem EvR.nt (h : EvR te σ H (nL xs)) : EvR te σ H (tL xs) := h.w fun _ _ _ ⟨p, e, _, q⟩ => ⟨p, e, q⟩
theorem EvR.ns (h : EvR te σ H (nL xs)) : EvR te σ H (sL K xs) := h.nt.ts
theorem EvR.eq (h : EvR te σ H (sL K xs)) (e : xs = ys) : EvR te σ H (sL K ys) := e ▸ h
theorem evVarL {i : Nat} (h : σ[i]? = some (some (.ref p))) (g : SqL K H p xs) : EvR (tVar i) σ H (sL K xs) := (evVar h).r fun _ _ a b => ⟨p, rfl, (a.trans b).seq g⟩
theorem evVarT {i : Nat} (h : σ[i]? = some (some (.ref p))) (g : H p = some (.lst xs)) : EvR (tVar i) σ H (tL xs) := (evVar h).r fun _ _ a b => ⟨p, rfl, b _ _ (a _ _ g)⟩
theorem evCat (ha : EvR ta σ H (tL xs)) (hb : EvR tb σ H (tL ys)) (hz : xs.length + ys.length ≤ 100000) : EvR (tOp rCat ta tb) σ H (nL (xs ++ ys)) := fun H1 s Q k =>
  ha H1 s _ fun v H2 s2 ⟨l, e, hl⟩ => hb H2 (s.trans s2) _ fun u H3 s3 ⟨m, e2, hm⟩ => ⟨l, m, xs, ys, e, e2, s3 _ _ hl, hm, Nat.le_trans hz (by decide), fun p np =>
    k _ _ ((s2.trans s3).trans (same_upd np)) ⟨p, rfl, same_at (s2.trans s3) np, upd_same⟩⟩
theorem evRep {k : Nat} (ha : EvR ta σ H (tL xs)) (hb : EvS tb σ H (.int (k : Int))) (hz : xs.length * k ≤ 100000) (hk : k ≤ 100000) : EvR (tOp rRep ta tb) σ H (nL (List.replicate k xs).flatten) := fun H1 s Q q =>
  ha H1 s _ fun v H2 s2 ⟨l, e, hl⟩ => hb H2 (s.trans s2) _ fun H3 s3 => by
    have e63 : (2 : Int) ^ 63 = 9223372036854775808 := by decide
    refine ⟨l, _, xs, e, rfl, s3 _ _ hl, by omega, by omega, by rw [Int.toNat_natCast]; exact Nat.le_trans hz (by decide), fun p np => ?_⟩
    rw [Int.toNat_natCast]
    exact q _ _ ((s2.trans s3).trans (same_upd np)) ⟨p, rfl, same_at (s2.trans s3) np, upd_same⟩
/-- arguments, each a value -/
def EvVs (t : TA) (σ : L2.St) (H : Hp) (vs : List V) : Prop := ∀ H1, Same H H1 → ∀ Q : List V → Hp → Prop, (∀ H2, Same H1 H2 → Q vs H2) → t σ H1 Q
theorem evNil : EvVs tNil σ H [] := fun H1 _ Q k => k H1 (.refl _)
theorem evCons {vs : List V} (ha : EvS ta σ H v) (ht : EvVs tr σ H vs) : EvVs (tCons ta tr) σ H (v :: vs) := fun H1 s Q k => ha H1 s _ fun H2 s2 => ht H2 (s.trans s2) _ fun H3 s3 => k H3 (s2.trans s3)
theorem evVals {vs : List V} : EvVs (tVals vs) σ H vs := fun H1 _ Q k => k H1 (.refl _)
theorem evLst {vs : List V} (h : EvVs tr σ H vs) (hz : vs.length ≤ 100000) : EvR (tLst tr) σ H (nL vs) := fun H1 s Q k => h H1 s _ fun H2 s2 => ⟨Nat.le_trans hz (by decide), fun p np => k _ _ (s2.trans (same_upd np)) ⟨p, rfl, same_at s2 np, upd_same⟩⟩
theorem evTup {vs : List V} (h : EvVs tr σ H vs) (hz : vs.length ≤ 100000) : EvR (tTup tr) σ H (nT vs) := fun H1 s Q k => h H1 s _ fun H2 s2 => ⟨Nat.le_trans hz (by decide), fun p np => k _ _ (s2.trans (same_upd np)) ⟨p, rfl, same_at s2 np, upd_same⟩⟩
def EvO (t : TO) (σ : L2.St) (H : Hp) (o : Option Int) : Prop := ∀ H1, Same H H1 → ∀ Q : Option Int → Hp → Prop, (∀ H2, Same H1 H2 → Q o H2) → t σ H1 Q
theorem evNo : EvO tNoPart σ H none := fun H1 _ Q k => k H1 (.refl _)
theorem evPart (h : EvS te σ H (.int i)) : EvO (tPart te) σ H (some i) := fun H1 s Q k => h H1 s _ fun H2 s2 => ⟨i, rfl, k H2 s2⟩
theorem evSlL {tl th : TO} {lo hi : Option Int} (h : EvR te σ H (sL K xs)) (hl : EvO tl σ H lo) (hh : EvO th σ H hi) : EvR (tSl (rSlL K) te tl th) σ H (nL (cutV xs lo hi)) := fun H1 s Q k =>
  h H1 s _ fun v H2 s2 ⟨p, e, hp⟩ => hl H2 (s.trans s2) _ fun H3 s3 => hh H3 ((s.trans s2).trans s3) _ fun H4 s4 => ⟨p, xs, e, (s3.trans s4).seq hp, fun l nl =>
    k _ _ (((s2.trans s3).trans s4).trans (same_upd nl)) ⟨l, rfl, same_at ((s2.trans s3).trans s4) nl, upd_same⟩⟩
theorem evEqD {d e : PyData} (ha : EvR ta σ H (dD K d)) (hb : EvR tb σ H (dD K e)) (hd : SeqAt.shaped d = true) (he : SeqAt.shaped e = true) : EvS (tOp (rEqD K) ta tb) σ H (.bl (PyData.eqv d e)) := fun H1 s Q k =>
  ha H1 s _ fun v H2 s2 r => hb H2 (s.trans s2) _ fun u H3 s3 r2 => ⟨d, e, Dp.same s3 r, r2, hd, he, k H3 (s2.trans s3)⟩
theorem evNeD {d e : PyData} (ha : EvR ta σ H (dD K d)) (hb : EvR tb σ H (dD K e)) (hd : SeqAt.shaped d = true) (he : SeqAt.shaped e = true) : EvS (tOp (rNeD K) ta tb) σ H (.bl (!PyData.eqv d e)) := fun H1 s Q k =>
  ha H1 s _ fun v H2 s2 r => hb H2 (s.trans s2) _ fun u H3 s3 r2 => ⟨d, e, Dp.same s3 r, r2, hd, he, k H3 (s2.trans s3)⟩
/-- [e for c in xs] -/
theorem evLc {α : Type} {as : List α} {f g : α → V} {tl : TE} {i : Nat} (h : EvR tl σ H (sL K (as.map g))) (hz : as.length ≤ 100000) (he : ∀ c ∈ as, ∀ H2, Same H H2 → EvS te ((wipe σ [i]).set i (some (g c))) H2 (f c)) :
    EvR (tLc (iList K tl) (gName i) tYes te [i]) σ H (nL (as.map f)) := fun H1 s Q k => by
  refine h H1 s _ fun v H2 s2 ⟨p, e, hp⟩ => ⟨p, e, ⟨_, hp⟩, fun D nD => ?_⟩
  refine lcF1 (f := f) (as := as) nD (same_walkL hp) (by rw [List.length_map]) (by rw [List.length_map]; exact hz) (fun j c a hc ha H3 Rk s3 kk => ?_) fun H3 s3 hD => k _ _ (s2.trans s3) ⟨D, rfl, same_at s2 nD, hD⟩
  rw [List.getElem?_map, ha] at hc
  obtain rfl : g a = c := Option.some.inj hc
  exact ⟨wipe_set _ _ _, he a (List.mem_of_getElem? ha) H3 ((s.trans s2).trans s3) H3 (.refl _) _ fun H4 s4 => kk H4 s4⟩
theorem evLcF {α : Type} {as : List α} {f g : α → V} {p : α → Bool} {tl : TE} {i : Nat} (h : EvR tl σ H (sL K (as.map g))) (hz : as.length ≤ 100000) (ht : ∀ c ∈ as, ∀ H2, Same H H2 → EvT tt ((wipe σ [i]).set i (some (g c))) H2 (p c))
    (he : ∀ c ∈ as, p c = true → ∀ H2, Same H H2 → EvS te ((wipe σ [i]).set i (some (g c))) H2 (f c)) : EvR (tLc (iList K tl) (gName i) tt te [i]) σ H (nL ((as.filter p).map f)) := fun H1 s Q k => by
  refine h H1 s _ fun v H2 s2 ⟨q, e, hp⟩ => ⟨q, e, ⟨_, hp⟩, fun D nD => ?_⟩
  refine lc_rel (R := fun _ a y => y = f a) (p := p) (as := as) nD (same_walkL hp) (by rw [List.length_map]) (by rw [List.length_map]; exact hz) (fun _ h => h) (fun j c a hc ha H3 Rk Rn s3 kk kn => ?_) fun H3 ys s3 hD pr => ?_
  · rw [List.getElem?_map, ha] at hc
    obtain rfl : g a = c := Option.some.inj hc
    have hm := List.mem_of_getElem? ha
    have s13 := (s.trans s2).trans s3
    refine ⟨wipe_set _ _ _, ht a hm H3 s13 H3 (.refl _) _ fun H4 s4 => ?_⟩
    cases e : p a with
    | true => exact he a hm e H4 (s13.trans s4) H4 (.refl _) _ fun H5 s5 => kk _ H5 e (s4.trans s5) rfl
    | false => exact kn H4 e s4
  · rw [paired_map pr] at hD
    exact k _ _ (s2.trans s3) ⟨D, rfl, same_at s2 nD, hD⟩
/-- [e for c in a tuple] -/
theorem evLcT {α : Type} {as : List α} {f g : α → V} {tl : TE} {i : Nat} (h : EvR tl σ H (sT K (as.map g))) (hz : as.length ≤ 100000) (he : ∀ c ∈ as, ∀ H2, Same H H2 → EvS te ((wipe σ [i]).set i (some (g c))) H2 (f c)) :
    EvR (tLc (iTup K tl) (gName i) tYes te [i]) σ H (nL (as.map f)) := fun H1 s Q k => by
  refine h H1 s _ fun v H2 s2 ⟨p, e, hp⟩ => ⟨p, e, ⟨_, hp⟩, fun D nD => ?_⟩
  refine lcF1 (f := f) (as := as) nD (same_walkT hp) (by rw [List.length_map]) (by rw [List.length_map]; exact hz) (fun j c a hc ha H3 Rk s3 kk => ?_) fun H3 s3 hD => k _ _ (s2.trans s3) ⟨D, rfl, same_at s2 nD, hD⟩
  rw [List.getElem?_map, ha] at hc
  obtain rfl : g a = c := Option.some.inj hc
  exact ⟨wipe_set _ _ _, he a (List.mem_of_getElem? ha) H3 ((s.trans s2).trans s3) H3 (.refl _) _ fun H4 s4 => kk H4 s4⟩
theorem evVarTp {i : Nat} (h : σ[i]? = some (some (.ref p))) (g : SqT K H p xs) : EvR (tVar i) σ H (sT K xs) := (evVar h).r fun _ _ a b => ⟨p, rfl, (a.trans b).seqT g⟩
/-- [e for k in range(n)] -/
theorem evLcRg {n : Nat} {f : Nat → V} {tn : TE} {i : Nat} (h : EvS tn σ H (.int (n : Nat))) (hz : n ≤ 100000) (he : ∀ m, m < n → ∀ H2, Same H H2 → EvS te ((wipe σ [i]).set i (some (.int (0 + (m : Nat))))) H2 (f m)) :
    EvR (tLc (iRng1 (tCons tn tNil)) (gName i) tYes te [i]) σ H (nL ((List.range n).map f)) := fun H1 s Q k => by
  refine h H1 s _ fun H2 s2 => ⟨(n : Nat), rfl, by omega, by omega, fun D nD => ?_⟩
  rw [Int.toNat_natCast]
  refine lc_it (walk_range (lo := 0) (n := n)) (fun m H' => Same H2 H' ∧ H' D = some (.lst ((List.range m).map f))) ⟨same_upd nD, upd_same⟩ (fun _ _ _ _ => trivial) ?_ ?_
  · rintro m x H3 H4 hm ⟨s3, hD⟩ ⟨rfl, rfl⟩
    refine ⟨wipe_set _ _ _, ?_⟩
    dsimp only [tYes]
    rw [if_pos rfl]
    refine he m hm H2 (s.trans s2) _ s3 _ fun H5 s5 => ?_
    refine ⟨_, s5 _ _ hD, ?_, (s3.trans s5).mut nD, ?_⟩
    · rw [List.length_map, List.length_range]
      exact Nat.lt_of_lt_of_le hm (Nat.le_trans hz (by decide))
    · rw [upd_same, List.range_succ, List.map_append]; rfl
  · rintro H3 ⟨s3, hD⟩
    exact k _ _ (s2.trans s3) ⟨D, rfl, same_at s2 nD, hD⟩
/-- ... each element by what it is -/
theorem evLcRgR {n : Nat} {Re : Nat → Hp → V → Prop} {tn : TE} {i : Nat} (hR : ∀ {m : Nat} {H1 H2 : Hp} {v : V}, SameT H1 H2 → Re m H1 v → Re m H2 v) (h : EvS tn σ H (.int (n : Nat))) (hz : n ≤ 100000)
    (he : ∀ m, m < n → ∀ H2, Same H H2 → EvR te ((wipe σ [i]).set i (some (.int (0 + (m : Nat))))) H2 fun _ v H3 => Re m H3 v) :
    EvR (tLc (iRng1 (tCons tn tNil)) (gName i) tYes te [i]) σ H fun H1 v H2 => ∃ D ys, v = .ref D ∧ H1 D = none ∧ H2 D = some (.lst ys) ∧ Paired (fun m v => Re m H2 v) (List.range n) ys := fun H1 s Q k => by
  refine h H1 s _ fun H2 s2 => ⟨(n : Nat), rfl, by omega, by omega, fun D nD => ?_⟩
  rw [Int.toNat_natCast]
  refine lc_it (walk_range (lo := 0) (n := n)) (fun m H' => Same H2 H' ∧ ∃ ys, H' D = some (.lst ys) ∧ Paired (fun m v => Re m H' v) (List.range m) ys) ⟨same_upd nD, [], upd_same, .nil⟩ (fun _ _ _ _ => trivial) ?_ ?_
  · rintro m x H3 H4 hm ⟨s3, ys, hD, pr⟩ ⟨rfl, rfl⟩
    refine ⟨wipe_set _ _ _, ?_⟩
    dsimp only [tYes]
    rw [if_pos rfl]
    refine he m hm H2 (s.trans s2) _ s3 _ fun v H5 s5 r5 => ?_
    have hl := paired_len pr
    rw [List.length_range] at hl
    have st : SameT H5 (upd H5 D (.lst (ys ++ [v]))) := .put (s5 _ _ hD) rfl
    refine ⟨ys, s5 _ _ hD, ?_, (s3.trans s5).mut nD, ys ++ [v], upd_same, ?_⟩
    · exact Nat.lt_of_lt_of_le (show ys.length < n by omega) (Nat.le_trans hz (by decide))
    · rw [List.range_succ]
      exact Paired.snoc (pr.mono fun _ _ q => hR (s5.t.trans st) q) (hR st r5)
  · rintro H3 ⟨s3, ys, hD, pr⟩
    exact k _ _ (s2.trans s3) ⟨D, ys, rfl, same_at s2 nD, hD, pr⟩
/-- ... each element a new list -/
theorem evLcNew {n : Nat} {xs : Nat → List V} {tn : TE} {i : Nat} (h : EvS tn σ H (.int (n : Nat))) (hz : n ≤ 100000) (he : ∀ m, m < n → ∀ H2, Same H H2 → EvR te ((wipe σ [i]).set i (some (.int (0 + (m : Nat))))) H2 (nL (xs m))) :
    EvR (tLc (iRng1 (tCons tn tNil)) (gName i) tYes te [i]) σ H fun H1 v H2 => ∃ (D : Addr) (as : List Addr), v = .ref D ∧ H1 D = none ∧ H2 D = some (.lst (as.map V.ref)) ∧ (∀ a ∈ as, a ≠ D ∧ H1 a = none) ∧ Paired (fun a m => H2 a = some (.lst (xs m))) as (List.range n) := fun H1 s Q k => by
  refine h H1 s _ fun H2 s2 => ⟨(n : Nat), rfl, by omega, by omega, fun D nD => ?_⟩
  rw [Int.toNat_natCast]
  refine lc_it (walk_range (lo := 0) (n := n)) (fun m H' => Same H2 H' ∧ ∃ as : List Addr, H' D = some (.lst (as.map V.ref)) ∧ (∀ a ∈ as, a ≠ D ∧ H1 a = none) ∧ Paired (fun a m => H' a = some (.lst (xs m))) as (List.range m)) ⟨same_upd nD, [], upd_same, (fun _ h => nomatch h), .nil⟩ (fun _ _ _ _ => trivial) ?_ ?_
  · rintro m x H3 H4 hm ⟨s3, as, hD, hne, pr⟩ ⟨rfl, rfl⟩
    refine ⟨wipe_set _ _ _, ?_⟩
    dsimp only [tYes]
    rw [if_pos rfl]
    refine he m hm H2 (s.trans s2) _ s3 _ fun v H5 s5 ⟨r, er, nr, hr⟩ => ?_
    subst er
    have hl := paired_len pr
    rw [List.length_range] at hl
    have rD : r ≠ D := fun e => by rw [e, hD] at nr; cases nr
    refine ⟨_, s5 _ _ hD, by rw [List.length_map]; exact Nat.lt_of_lt_of_le (show as.length < n by omega) (Nat.le_trans hz (by decide)), (s3.trans s5).mut nD, as ++ [r], by rw [upd_same, List.map_append]; rfl, fun c hc => ?_, ?_⟩
    · rcases List.mem_append.mp hc with h | h
      · exact hne c h
      · rw [List.mem_singleton.mp h]; exact ⟨rD, same_at (s2.trans s3) nr⟩
    · rw [List.range_succ]
      refine Paired.snoc ((paired_and pr hne).mono fun c m h => ?_) ?_
      · rw [upd_ne h.1.1]; exact s5 _ _ h.2
      · rw [upd_ne rD]; exact hr
  · rintro H3 ⟨s3, as, hD, hne, pr⟩
    exact k _ _ (s2.trans s3) ⟨D, as, rfl, same_at s2 nD, hD, hne, pr⟩
/-- [e for c in text] -/
theorem evLcStr {z : Str} {f : Nat → V} {tl' : TE} {i : Nat} (h : EvS tl' σ H (.str z)) (hz : (tl z).length ≤ 100000) (he : ∀ c ∈ tl z, ∀ H2, Same H H2 → EvS te ((wipe σ [i]).set i (some (.str ⟨#[c]⟩))) H2 (f c)) :
    EvR (tLc (iStr tl') (gName i) tYes te [i]) σ H (nL ((tl z).map f)) := fun H1 s Q k => by
  refine h H1 s _ fun H2 s2 => ⟨z, rfl, fun D nD => ?_⟩
  refine lc_it (walk_str (z := z)) (fun m H' => Same H2 H' ∧ H' D = some (.lst (((tl z).take m).map f))) ⟨same_upd nD, upd_same⟩ (fun _ _ _ _ => trivial) ?_ ?_
  · rintro m x H3 H4 hm ⟨s3, hD⟩ ⟨rfl, c, hc, rfl⟩
    have hg := get_tl hc
    refine ⟨wipe_set _ _ _, ?_⟩
    dsimp only [tYes]
    rw [if_pos rfl]
    refine he c (List.mem_of_getElem? hg) H2 (s.trans s2) _ s3 _ fun H5 s5 => ?_
    refine ⟨_, s5 _ _ hD, ?_, (s3.trans s5).mut nD, ?_⟩
    · rw [List.length_map, List.length_take]
      exact Nat.lt_of_le_of_lt (Nat.le_trans (Nat.min_le_right _ _) hz) (by decide)
    · rw [upd_same, take_map_succ hg]
  · rintro H3 ⟨s3, hD⟩
    rw [size_tl, List.take_length] at hD
    exact k _ _ (s2.trans s3) ⟨D, rfl, same_at s2 nD, hD⟩
theorem evAll {bs : List Bool} (h : EvR te σ H (sL K (bs.map V.bl))) : EvS (tCB (rAll K) (tCons te tNil)) σ H (.bl (bs.all id)) := fun H1 s Q k => h H1 s _ fun v H2 s2 ⟨p, e, hp⟩ => ⟨p, bs, by rw [e], hp, k H2 s2⟩
theorem evAny {bs : List Bool} (h : EvR te σ H (sL K (bs.map V.bl))) : EvS (tCB (rAny K) (tCons te tNil)) σ H (.bl (bs.any id)) := fun H1 s Q k => h H1 s _ fun v H2 s2 ⟨p, e, hp⟩ => ⟨p, bs, by rw [e], hp, k H2 s2⟩
theorem evChain {f g : Int → Int → Bool} {tc : TE} {k : Int} (ha : EvS ta σ H (.int i)) (hb : EvS tb σ H (.int j)) (hc : EvS tc σ H (.int k)) : EvS (tChain (rI0 fun i j => .bl (f i j)) (rI0 fun i j => .bl (g i j)) ta tb tc) σ H (.bl (f i j && g j k)) := fun H1 s Q q =>
  ha H1 s _ fun H2 s2 => hb H2 (s.trans s2) _ fun H3 s3 => ⟨_, _, rfl, rfl, _, rfl, by
    cases e : f i j with
    | true => exact hc H3 ((s.trans s2).trans s3) _ fun H4 s4 => ⟨_, _, rfl, rfl, by rw [e] at q; exact q H4 ((s2.trans s3).trans s4)⟩
    | false => rw [e] at q; exact q H3 (s2.trans s3)⟩
theorem evFld {C dx : Addr} {fs : List (Str × V)} {f : Str} (h : EvS ta σ H (.ref p)) (hp : H p = some (.ins C dx fs)) (c : Cls K C) (n : NoAttr K C f) (l : fs.lookup f = some v) : EvS (tFld K ta f) σ H v := fun H1 s Q q =>
  h H1 s _ fun H2 s2 => ⟨p, C, dx, fs, v, rfl, s2 _ _ (s _ _ hp), c, n, l, q H2 s2⟩
theorem EvS.sl (h : EvS te σ H (.ref p)) (hp : SqL K H p xs) : EvR te σ H (sL K xs) := h.r fun _ _ a b => ⟨p, rfl, (a.trans b).seq hp⟩
theorem EvS.tl (h : EvS te σ H (.ref p)) (hp : H p = some (.lst xs)) : EvR te σ H (tL xs) := h.r fun _ _ a b => ⟨p, rfl, b _ _ (a _ _ hp)⟩
/-! ### statements -/
theorem sqIf (h : EvT tt σ H b) (h1 : b = true → ∀ H2, Same H H2 → s1 { D with nx := s3 D } σ H2) (h2 : b = false → ∀ H2, Same H H2 → s3 D σ H2) : tSeq (tIfS tt s1 tNext) s3 D σ H := h H (.refl _) _ fun H2 s => by
  cases b with
  | true => exact h1 rfl H2 s
  | false => exact h2 rfl H2 s
theorem oneIf (h : EvT tt σ H b) (h1 : b = true → ∀ H2, Same H H2 → s1 D σ H2) (h2 : b = false → ∀ H2, Same H H2 → s2 D σ H2) : tIfS tt s1 s2 D σ H := h H (.refl _) _ fun H2 s => by
  cases b with
  | true => exact h1 rfl H2 s
  | false => exact h2 rfl H2 s
theorem sqSet {i : Nat} (h : EvS te σ H v) (k : ∀ H2, Same H H2 → s3 D (σ.set i (some v)) H2) : tSeq (tAsg te (gName i)) s3 D σ H := h H (.refl _) _ fun H2 s => k H2 s
theorem sqSetR {i : Nat} (h : EvR te σ H R) (k : ∀ v H2, Same H H2 → R H v H2 → s3 D (σ.set i (some v)) H2) : tSeq (tAsg te (gName i)) s3 D σ H := h H (.refl _) _ fun v H2 s r => k v H2 s r
theorem retS (h : EvS te σ H v) (k : ∀ H2, Same H H2 → D.rt v H2) : tRet te D σ H := h H (.refl _) _ fun H2 s => k H2 s
theorem retR (h : EvR te σ H R) (k : ∀ v H2, Same H H2 → R H v H2 → D.rt v H2) : tRet te D σ H := h H (.refl _) _ fun v H2 s r => k v H2 s r
/-- for k in range(n) -/
theorem sqForRg {n i : Nat} {tn : TE} (hn : EvS tn σ H (.int (n : Nat))) (hz : n ≤ 1000000000) (Pv : Nat → L2.St → Hp → Prop) (h0 : ∀ H1, Same H H1 → Pv 0 σ H1)
    (hs : ∀ j σ H, j < n → Pv j σ H → s1 { D with nx := Pv (j + 1), ct := Pv (j + 1), bk := s3 D } (σ.set i (some (.int (0 + (j : Nat))))) H) (hd : ∀ σ H, Pv n σ H → s3 D σ H) : tSeq (tFor (iRng1 (tCons tn tNil)) (gName i) s1) s3 D σ H := by
  refine hn H (.refl _) _ fun H1 s => ⟨(n : Nat), rfl, by omega, by omega, ?_⟩
  rw [Int.toNat_natCast]
  exact for_range (lo := 0) (n := n) Pv (h0 H1 s) (fun j σ H hj p => hs j σ H hj p) hd
theorem oneForRg {n i : Nat} {tn : TE} (hn : EvS tn σ H (.int (n : Nat))) (hz : n ≤ 1000000000) (Pv : Nat → L2.St → Hp → Prop) (h0 : ∀ H1, Same H H1 → Pv 0 σ H1)
    (hs : ∀ j σ H, j < n → Pv j σ H → s1 { D with nx := Pv (j + 1), ct := Pv (j + 1), bk := D.nx } (σ.set i (some (.int (0 + (j : Nat))))) H) (hd : ∀ σ H, Pv n σ H → D.nx σ H) : tFor (iRng1 (tCons tn tNil)) (gName i) s1 D σ H := by
  refine hn H (.refl _) _ fun H1 s => ⟨(n : Nat), rfl, by omega, by omega, ?_⟩
  rw [Int.toNat_natCast]
  exact for_range (lo := 0) (n := n) Pv (h0 H1 s) (fun j σ H hj p => hs j σ H hj p) hd
/-- for x in a list, a tuple, that stands -/
theorem sqForL {α : Type} {as : List α} {g : α → V} {tl' : TE} {i : Nat} (h : EvS tl' σ H (.ref p)) (hp : SqL K H p (as.map g)) (Pv : Nat → L2.St → Hp → Prop) (h0 : ∀ H1, Same H H1 → Pv 0 σ H1) (hst : ∀ j σ H', j ≤ as.length → Pv j σ H' → SqL K H' p (as.map g))
    (hs : ∀ j (c : α) σ H, as[j]? = some c → Pv j σ H → s1 { D with nx := Pv (j + 1), ct := Pv (j + 1), bk := s3 D } (σ.set i (some (g c))) H) (hd : ∀ σ H, Pv as.length σ H → s3 D σ H) : tSeq (tFor (iList K tl') (gName i) s1) s3 D σ H := by
  refine h H (.refl _) _ fun H1 s => ⟨p, rfl, ⟨_, s.seq hp⟩, ?_⟩
  refine for_list (K := K) (xs := as.map g) Pv (h0 H1 s) (fun j σ H hj q => hst j σ H (by rw [List.length_map] at hj; exact hj) q) (fun j x σ H hx q => ?_) (fun σ H q => hd σ H (by rw [List.length_map] at q; exact q))
  rw [List.getElem?_map] at hx
  cases e : as[j]? with
  | none => rw [e] at hx; cases hx
  | some c =>
    rw [e] at hx
    obtain rfl : g c = x := Option.some.inj hx
    exact hs j c σ H e q
theorem oneForL {α : Type} {as : List α} {g : α → V} {tl' : TE} {i : Nat} (h : EvS tl' σ H (.ref p)) (hp : SqL K H p (as.map g)) (Pv : Nat → L2.St → Hp → Prop) (h0 : ∀ H1, Same H H1 → Pv 0 σ H1) (hst : ∀ j σ H', j ≤ as.length → Pv j σ H' → SqL K H' p (as.map g))
    (hs : ∀ j (c : α) σ H, as[j]? = some c → Pv j σ H → s1 { D with nx := Pv (j + 1), ct := Pv (j + 1), bk := D.nx } (σ.set i (some (g c))) H) (hd : ∀ σ H, Pv as.length σ H → D.nx σ H) : tFor (iList K tl') (gName i) s1 D σ H := by
  refine h H (.refl _) _ fun H1 s => ⟨p, rfl, ⟨_, s.seq hp⟩, ?_⟩
  refine for_list (K := K) (xs := as.map g) Pv (h0 H1 s) (fun j σ H hj q => hst j σ H (by rw [List.length_map] at hj; exact hj) q) (fun j x σ H hx q => ?_) (fun σ H q => hd σ H (by rw [List.length_map] at q; exact q))
  rw [List.getElem?_map] at hx
  cases e : as[j]? with
  | none => rw [e] at hx; cases hx
  | some c =>
    rw [e] at hx
    obtain rfl : g c = x := Option.some.inj hx
    exact hs j c σ H e q
theorem sqFld {C dx : Addr} {fs : List (Str × V)} {f : Str} {i : Nat} (hi : σ[i]? = some (some (.ref p))) (hp : H p = some (.ins C dx fs)) (c : Cls K C) (n : NoAttr K C f) (hl : fs.length < 1000) (hv : EvR te σ H R)
    (k : ∀ v H1, Same H H1 → R H v H1 → s3 D σ (upd H1 p (.ins C dx (putF f v fs)))) : tSeq (sFld K (tVar i) te f) s3 D σ H := hv.go fun v H1 s r => ⟨_, hi, p, C, dx, fs, rfl, s _ _ hp, c, n, hl, k v H1 s r⟩
theorem oneFld {C dx : Addr} {fs : List (Str × V)} {f : Str} {i : Nat} (hi : σ[i]? = some (some (.ref p))) (hp : H p = some (.ins C dx fs)) (c : Cls K C) (n : NoAttr K C f) (hl : fs.length < 1000) (hv : EvR te σ H R)
    (k : ∀ v H1, Same H H1 → R H v H1 → D.nx σ (upd H1 p (.ins C dx (putF f v fs)))) : sFld K (tVar i) te f D σ H := hv.go fun v H1 s r => ⟨_, hi, p, C, dx, fs, rfl, s _ _ hp, c, n, hl, k v H1 s r⟩
theorem nxI {A : L2.St → Hp → Prop} {rt : VK} {bk ct : L2.St → Hp → Prop} (h : A σ H) : (Ends.mk A rt bk ct).nx σ H := h
theorem stTo {τ : L2.St} {t : TS} (e : σ = τ) (h : t D τ H) : t D σ H := e ▸ h
end
end KX

set_option maxRecDepth 100000
set_option maxHeartbeats 4000000
/-! E0: OutOfRange, raised and caught. -/
namespace KX
open PySem PySem.Spec PyProof.Rows L2 TL Ga NdefX
theorem lenle {z : Str} (h : (tl z).length ≤ 1000) : z.length ≤ sizeLine := by rw [len_tl]; exact Nat.le_trans h (by decide)
theorem not_t : ∀ {b : Bool}, (!b) = true → b = false
  | false, _ => rfl
theorem scOor : NScope ["self", "name", "__class__"] ["self", "name"] ["__class__"] (defScope sOorInit) := nscope_by (by decide +kernel)
/-- OutOfRange.__init__, as it is made -/
def fOor (cc c : Addr) : NF := ⟨"__init__", "OutOfRange.__init__", defArgs sOorInit, defBody sOorInit, defScope sOorInit, [(("__class__" : Str), cc)], c⟩
/-- OutOfRange(name), as it is made -/
def spOor (C : Addr) : Sp := fun vs H Q _ => ∃ (a : Addr) (z : Str), vs = [.ref a, .str z] ∧ H a = some (exo a C none) ∧ (tl z).length ≤ 1000 ∧
  ∀ dx, H dx = none → dx ≠ a → Q .non (upd (upd H dx (exd dx [("name", .str z)])) a (exo a C (some dx)))
section
variable {P : Program} {w : World} {K : PySem.W.Frag} {mg : Str → Option Value} {base : Heap}
theorem ok_oor {f C cc c : Addr} {fd : FuncData} (SI : SupIn P K f C (fOor cc c) fd) (SC : SupC K C) (hsuper : mg "super" = none) (htop : (P.main.scope.names.lookup ("super" : Str)).isSome = false)
    (hno : PySem.W.findIn K (.ref C) "name" = some none) : FnOk P w K mg base CX0 1 f fd ["self", "name"] (spOor C) := by
  refine ok_sup (N := ["self", "name", "__class__"]) (ar := (defArgs sOorInit).args.head!) SI SC ⟨scOor, rfl, rfl, rfl, htop⟩ hsuper rfl (fun vs H Q E h => ?_) (by intro _; rfl) (by intro _; rfl) (by intro _; exact ⟨_, rfl⟩) (by intro _; rfl) (by intro _; rfl) ?_
  · obtain ⟨a, z, rfl, _⟩ := h
    rfl
  · intro A outer s H vs Q E hr h
    obtain ⟨a, z, rfl, ha, hz, q⟩ := h
    refine ⟨a, _, _, rfl, ha, pa_cons (pe_joined (PJ.cons (pe_fmt (pv 1)) (PJ.cons pe_str PJ.nil))) pa_nil, pss_one (ps_ost (pv 0) (pv 1)), ?_⟩
    have l1 : z.length ≤ sizeLine := lenle hz
    have l2 : (Str.empty ++ z : Str).length ≤ sizeLine := by
      rw [len_tl, tl_append, List.length_append]
      exact Nat.le_trans (show 0 + (tl z).length ≤ 1000 by omega) (by decide)
    have l3 : ((Str.empty ++ z : Str) ++ (" is out of range" : Str)).length ≤ sizeLine := by
      rw [len_tl, tl_append, tl_append, List.length_append, List.length_append]
      exact Nat.le_trans (show 0 + (tl z).length + 16 ≤ 1016 by omega) (by decide)
    exact ⟨_, rfl, .inl ⟨z, rfl, l1, z, rfl, l2, _, rfl, l3, (by show 1 ≤ 1000; decide), ha, _, rfl, _, rfl, a, C, rfl, SC.toOexC, hno, .inl ⟨ha, fun dx n ne => q dx n ne⟩⟩⟩
end
/-- OutOfRange("files") is let out -/
def Oor (Co : Addr) (z : Str) (H : Hp) (E : XK) : Prop := ∀ (H' : Hp) (e : Addr), Same H H' → H e = none → H' e = some (.xd [("name", .str z)]) → E (.ref Co) (some e) H'
/-- what the top has left of an error class with a name -/
structure OorC (P : Program) (w : World) (K : PySem.W.Frag) (mg : Str → Option Value) (base : Heap) (Co fo : Addr) (fdo : FuncData) : Prop where
  ok : FnOk P w K mg base CX0 1 fo fdo ["self", "name"] (spOor Co)
  ex : OexC K Co
  init : PySem.W.findIn K (.ref Co) "__init__" = some (some (.ref fo))
  fn : PySem.W.typeIn K (.ref fo) = some (.type "function")
  binds : Binds K fdo ["self", "name"] []
  gl : mg "OutOfRange" = some (.ref Co)
theorem raise_oor {σ : L2.St} {H : Hp} {Q : XK} {Co : Addr} {z : Str} (hz : (tl z).length ≤ 1000) (h : Oor Co z H Q) : tMkO Co (spOor Co) [] (tCons (tC (.str z)) tNil) σ H Q := by
  refine ⟨by show 1 ≤ 1000; decide, fun a na => ⟨a, z, rfl, upd_same, hz, fun dx nd ne => ?_⟩⟩
  have nd1 : H dx = none := by rw [upd_ne ne] at nd; exact nd
  refine ⟨rfl, dx, [("name", .str z)], upd_same, by rw [upd_ne ne, upd_same], nd1, h _ dx (fun b o e => ?_) nd1 upd_same⟩
  have n1 := ne_of_none e na
  have n2 := ne_of_none e nd1
  rw [upd_ne n2, del_ne n1, upd_ne n1, upd_ne n2, upd_ne n1]
  exact e
/-- the caught error -/
structure CatC (K : PySem.W.Frag) (mg : Str → Option Value) (Co : Addr) : Prop where
  gl : mg "OutOfRange" = some (.ref Co)
  exm : PySem.W.exmOne K (.ref Co) (.ref Co) = some true
  xf : XfC K Co
  nm : PySem.W.findIn K (.ref Co) "name" = some none
def dRef (z : Str) : PyData := .tuple [.str "refused", .str z]
section
variable {X : Cx} {k n : Nat} {x : Str} {ps : List Str} {sp : Sp} {e : Expr} {es : List Expr} {t : TA} {p pos : Pos} {E : L2.St → XK}
theorem pe_calXS (S : CalX X.prog X.w X.K X.mg X.base k x ps sp) (hr : Room n X.A) (hx : ∀ σ, PassesAt (L2.CX X.prog X.w) X σ (E σ)) (ha : PA X (e :: es) t) (hk : k ≤ n := by decide) (hg : Gl X x := by rfl) (hdb : (x == ("__debug__" : Str)) = false := by decide)
    (he : starEach (e :: es) X.env = (false, eval e X.env) :: starEach es X.env := by rfl) (hpl : (backTo pos (starEach es X.env)).any (·.1) = false := by rfl) : PE X (.Call (.Name x p) (e :: es) [] pos) (tCallS sp E t) := by
  obtain ⟨f, fd, F, g, kp, b⟩ := S.ex
  exact pe_callS F (hr.mono hk) hg g kp b hx ha hdb he hpl
end
structure MCalX (P : Program) (w : World) (K : PySem.W.Frag) (mg : Str → Option Value) (base : Heap) (C : Addr) (k : Nat) (m : Str) (ps : List Str) (sp : Sp) : Prop where
  ex : ∃ (f : Addr) (fd : FuncData), FnOk P w K mg base (L2.CX P w) k f fd ps sp ∧ Meth K C m f ∧ Binds K fd ps []
section
variable {X : Cx} {k n : Nat} {C : Addr} {m : Str} {ps : List Str} {sp : Sp} {e o : Expr} {es : List Expr} {t : TA} {ta : TE} {p pos apos : Pos}
theorem pe_mc {pl : Sem Bool} (c : Cls X.K C) (S : MCal X.prog X.w X.K X.mg X.base C k m ps sp) (hr : Room n X.A) (he : PE X o ta) (ha : PA X (e :: es) t) (hx : Passes CX0 X E0 := by exact pass0) (hk : k ≤ n := by decide)
    (hst : starEach (e :: es) X.env = (false, eval e X.env) :: starEach es X.env := by rfl) (hpl : (backTo pos (starEach es X.env)).any (·.1) = false := by rfl)
    (ht : eval (.Call (.Attribute o m apos) (e :: es) [] pos) X.env = (do
      let ov ← eval o X.env
      standAt apos.atName
      let (f, first) ← holding [ov] (getMethod ov m pl)
      callWith pos f first (backTo pos (starEach (e :: es) X.env)) (backToKw pos (keywordEach [] X.env))) := by rfl) : PE X (.Call (.Attribute o m apos) (e :: es) [] pos) (tMeth C m sp [] E0 ta t) := by
  obtain ⟨f, fd, F, hm, b⟩ := S.ex
  exact pe_meth he c hm F (hr.mono hk) b .nil hx ha hst hpl ht
theorem pe_mc0 {pl : Sem Bool} (c : Cls X.K C) (S : MCal X.prog X.w X.K X.mg X.base C k m ps sp) (hr : Room n X.A) (he : PE X o ta) (hx : Passes CX0 X E0 := by exact pass0) (hk : k ≤ n := by decide)
    (ht : eval (.Call (.Attribute o m apos) [] [] pos) X.env = (do
      let ov ← eval o X.env
      standAt apos.atName
      let (f, first) ← holding [ov] (getMethod ov m pl)
      callWith pos f first (backTo pos (starEach [] X.env)) (backToKw pos (keywordEach [] X.env))) := by rfl) : PE X (.Call (.Attribute o m apos) [] [] pos) (tMeth C m sp [] E0 ta tNil) := by
  obtain ⟨f, fd, F, hm, b⟩ := S.ex
  exact pe_meth0 he c hm F (hr.mono hk) b .nil hx ht
theorem pe_mx {pl : Sem Bool} {E : XK} (c : Cls X.K C) (S : MCalX X.prog X.w X.K X.mg X.base C k m ps sp) (hr : Room n X.A) (hx : Passes (L2.CX X.prog X.w) X E) (he : PE X o ta) (ha : PA X (e :: es) t) (hk : k ≤ n := by decide)
    (hst : starEach (e :: es) X.env = (false, eval e X.env) :: starEach es X.env := by rfl) (hpl : (backTo pos (starEach es X.env)).any (·.1) = false := by rfl)
    (ht : eval (.Call (.Attribute o m apos) (e :: es) [] pos) X.env = (do
      let ov ← eval o X.env
      standAt apos.atName
      let (f, first) ← holding [ov] (getMethod ov m pl)
      callWith pos f first (backTo pos (starEach (e :: es) X.env)) (backToKw pos (keywordEach [] X.env))) := by rfl) : PE X (.Call (.Attribute o m apos) (e :: es) [] pos) (tMeth C m sp [] E ta t) := by
  obtain ⟨f, fd, F, hm, b⟩ := S.ex
  exact pe_meth he c hm F (hr.mono hk) b .nil hx ha hst hpl ht
theorem pe_mx0 {pl : Sem Bool} {E : XK} (c : Cls X.K C) (S : MCalX X.prog X.w X.K X.mg X.base C k m ps sp) (hr : Room n X.A) (hx : Passes (L2.CX X.prog X.w) X E) (he : PE X o ta) (hk : k ≤ n := by decide)
    (ht : eval (.Call (.Attribute o m apos) [] [] pos) X.env = (do
      let ov ← eval o X.env
      standAt apos.atName
      let (f, first) ← holding [ov] (getMethod ov m pl)
      callWith pos f first (backTo pos (starEach [] X.env)) (backToKw pos (keywordEach [] X.env))) := by rfl) : PE X (.Call (.Attribute o m apos) [] [] pos) (tMeth C m sp [] E ta tNil) := by
  obtain ⟨f, fd, F, hm, b⟩ := S.ex
  exact pe_meth0 he c hm F (hr.mono hk) b .nil hx ht
end
end KX

set_option maxRecDepth 100000
set_option maxHeartbeats 4000000
/-! J4: isinstance, enumerate, starred items, long texts. -/
namespace Ga
open PySem PySem.Spec PyProof.Rows L2 TL StX
section
variable {X : Cx} {K : PySem.W.Frag}
theorem kIsi (h : X.K = K) : CallR X (.builtin "isinstance") (rIsi K) := by
  subst h
  exact call_isi
theorem kEnum (h : X.K = K) {e : Expr} {ta : TA} {p pos tpos : Pos} {elts : List Expr} {kk : Nat} (hg : Gl X "enumerate") (hm : X.mg "enumerate" = none) (ha : PA X [e] ta) (hs : starEach [e] X.env = [(false, eval e X.env)] := by rfl) :
    PI X (.Tuple elts kk tpos) (.Call (.Name "enumerate" p) [e] [] pos) (iEnum K ta) := by
  subst h
  exact pi_enum hg hm ha hs
theorem kStar (h : X.K = K) {e : Expr} {es : List Expr} {te : TE} {t : TA} {p : Pos} (he : PE X e te) (hr : PA X es t) (hs : starEach (.Starred e p :: es) X.env = (true, eval e X.env) :: starEach es X.env := by rfl) : PA X (.Starred e p :: es) (tStar K te t) := by
  subst h
  exact pa_star he hr hs
end
theorem tyTup {K : PySem.W.Frag} {H : Hp} {a : Addr} {xs : List V} (h : SqT K H a xs) : TyX K H (.ref a) (.type "tuple") := by
  rcases h with (h | ⟨o, h⟩) | ⟨o, its, n, h, c, _⟩
  · exact .base (.tup h)
  · exact .fTuple h
  · exact .kTuple h c
theorem tyLst {K : PySem.W.Frag} {H : Hp} {a : Addr} {xs : List V} (h : SqL K H a xs) : TyX K H (.ref a) (.type "list") := by
  rcases h with (h | ⟨o, h⟩) | ⟨o, its, n, h, c, _⟩
  · exact .base (.lst h)
  · exact .base (.frz h)
  · exact .kList h c
def dRs (rs : List (List Int)) : PyData := .list (rs.map dI)
theorem can_rs : ∀ rs : List (List Int), PyData.canLayAll0 (rs.map dI) = true
  | [] => rfl
  | z :: r => by
    show (PyData.canLayAll0 (z.map PyData.int) && PyData.canLayAll0 (r.map dI)) = true
    rw [can_ints, can_rs r]
    rfl
theorem depth_rs : ∀ rs : List (List Int), PyData.depthAll (rs.map dI) ≤ 1
  | [] => Nat.zero_le _
  | z :: r => by
    show max (PyData.depthAll (z.map PyData.int) + 1) (PyData.depthAll (r.map dI)) ≤ 1
    rw [depth_ints]
    exact Nat.max_le.mpr ⟨Nat.le_refl _, depth_rs r⟩
theorem shaped_rs (rs : List (List Int)) : SeqAt.shaped (dRs rs) = true := by
  unfold SeqAt.shaped dRs
  rw [show PyData.canLay0 (.list (rs.map dI)) = PyData.canLayAll0 (rs.map dI) from rfl, can_rs rs, show PyData.depth (.list (rs.map dI)) = PyData.depthAll (rs.map dI) + 1 from rfl, Bool.true_and, decide_eq_true_eq]
  have := depth_rs rs
  omega
/-- text * number, long -/
def rMulL : R2 := fun x y H Q => ∃ (z : Str) (n : Int), x = .str z ∧ y = .int n ∧ 0 ≤ n ∧ n ≤ 10000 ∧ (tl z).length ≤ 1000 ∧ ∀ r : Str, tl r = (List.replicate n.toNat (tl z)).flatten → Q (.str r) H
theorem op_mulL {X : Cx} : OpR X (binaryOp .Mult) rMulL := by
  intro pins s σ H x y v u Q I rx ry h
  obtain ⟨z, n, rfl, rfl, h0, h1, hz, q⟩ := h
  obtain ⟨t, rfl⟩ := rx
  obtain ⟨t2, rfl⟩ := ry
  have hl : z.length = (tl z).length := len_tl z
  have e63 : (2 : Int) ^ 63 = 9223372036854775808 := by decide
  refine PySem.P.mul_str ?_ (fun a b => ?_) (fun a b => ?_) ?_
  · rw [decide_eq_false (by omega), decide_eq_false (by omega)]
    rfl
  · have : (2 ^ 63 - 1 : Int) / n ≥ (2 ^ 63 - 1 : Int) / 10000 := by
      rw [e63]
      apply Int.le_ediv_of_mul_le (by omega)
      have : (9223372036854775808 - 1 : Int) / 10000 = 922337203685477 := by decide
      rw [this]
      have := Int.mul_le_mul_of_nonneg_left h1 (show (0 : Int) ≤ 922337203685477 by decide)
      omega
    have e2 : (2 ^ 63 - 1 : Int) / 10000 = 922337203685477 := by decide
    omega
  · have : z.length * n.toNat ≤ 1000 * 10000 := Nat.mul_le_mul (by omega) (by omega)
    have s1 : sizeLine = 16777216 := by decide
    exact decide_eq_false (by omega)
  · split
    · have e0 : n.toNat = 0 := by omega
      refine ⟨by decide, .str Str.empty, H, I.tok _, ⟨_, rfl⟩, q _ ?_⟩
      rw [e0]
      rfl
    · split
      · rename_i g1 g2
        refine ⟨.str z, H, I, ⟨_, rfl⟩, q z ?_⟩
        rw [Bool.or_eq_true, beq_iff_eq, beq_iff_eq] at g2
        rcases g2 with g2 | g2
        · rw [g2]
          show tl z = tl z ++ []
          rw [List.append_nil]
        · have e0 : tl z = [] := List.length_eq_zero_iff.mp (by rw [← hl]; exact g2)
          have := flat_len (tl z) n.toNat
          rw [e0] at this ⊢
          exact (List.length_eq_zero_iff.mp (by simpa using this)).symm
      · have e : tl ⟨(List.replicate n.toNat z.cps).foldl (· ++ ·) #[]⟩ = (List.replicate n.toNat (tl z)).flatten := flat_arr z.cps n.toNat #[]
        have s1 : sizeLine = 16777216 := by decide
        refine ⟨?_, .str _, H, I.tok _, ⟨_, rfl⟩, q _ e⟩
        rw [len_tl, e, flat_len]
        have : n.toNat * (tl z).length ≤ 10000 * 1000 := Nat.mul_le_mul (by omega) (by omega)
        omega
end Ga

set_option maxRecDepth 100000
set_option maxHeartbeats 4000000
/-! J5: a disk's state. -/
namespace Ga
open PySem PySem.Spec PyProof.Rows L2 TL StX
theorem kCatT {X : Cx} {K : PySem.W.Frag} (h : X.K = K) : OpR X (binaryOp .Add) (rCatA K) := by
  subst h
  exact op_catA
theorem kSlT {X : Cx} {K : PySem.W.Frag} (h : X.K = K) : SlR X (rSlA K) := by
  subst h
  exact sl_tupA
theorem kZip {X : Cx} {K : PySem.W.Frag} (h : X.K = K) {e e2 : Expr} {ta : TA} {p pos tpos : Pos} {elts : List Expr} {kk : Nat} (hg : Gl X "zip") (hm : X.mg "zip" = none) (ha : PA X [e, e2] ta)
    (hs : starEach [e, e2] X.env = (false, eval e X.env) :: starEach [e2] X.env := by rfl) (hpl : (backTo pos (starEach [e2] X.env)).any (·.1) = false := by rfl) :
    PI X (.Tuple elts kk tpos) (.Call (.Name "zip" p) [e, e2] [] pos) (iZip K ta) := by
  subst h
  exact pi_zip hg hm ha hs hpl
structure DkS where
  bl : List (List Int)
  wt : List (Nat × List Int)
  cuts : Int
  left : Option Int
  torn : List Int
/-- what stands at `at`, the waiting writes counted -/
def readM (s : DkS) (i : Nat) : List Int := s.wt.foldl (fun acc e => if e.1 = i then e.2 else acc) (s.bl.getD i [])
def flushB (bl : List (List Int)) (wt : List (Nat × List Int)) : List (List Int) := wt.foldl (fun bl e => bl.set e.1 e.2) bl
def tear (bl : List (List Int)) (e : (Nat × List Int) × Int) : List (List Int) := bl.set e.1.1 (e.1.2.take e.2.toNat ++ (bl.getD e.1.1 []).drop e.2.toNat)
def cutB (bl : List (List Int)) (wt : List (Nat × List Int)) (torn : List Int) : List (List Int) := (wt.zip torn).foldl tear bl
def cutM (s : DkS) (torn : List Int) : DkS := { s with bl := cutB s.bl s.wt torn, wt := [], cuts := s.cuts + 1, left := none }
def flushM (s : DkS) : DkS := { s with bl := flushB s.bl s.wt, wt := [] }
def writeM (s : DkS) (i : Nat) (ns : List Int) : DkS := { s with wt := s.wt ++ [(i, ns)] }
/-- 32 numbers from 0 to 255 -/
def isBlkM (ns : List Int) : Bool := decide (ns.length = 32) && ns.all fun b => decide (0 ≤ b) && decide (b ≤ 255)
def tornOk (ts : List Int) : Bool := ts.all fun b => decide (0 ≤ b) && decide (b ≤ 32)
structure WfD (s : DkS) : Prop where
  len : 8 ≤ s.bl.length ∧ s.bl.length ≤ 400
  bl : ∀ b ∈ s.bl, b.length = 32
  wt : ∀ e ∈ s.wt, e.1 < s.bl.length ∧ e.2.length = 32
  few : s.wt.length ≤ 100000
  torn : tornOk s.torn = true ∧ s.torn.length ≤ 100000
  left : ∀ k, s.left = some k → 0 ≤ k
theorem flush_len (bl : List (List Int)) : ∀ wt : List (Nat × List Int), (flushB bl wt).length = bl.length := by
  intro wt
  unfold flushB
  induction wt generalizing bl with
  | nil => rfl
  | cons e r ih => rw [List.foldl_cons, ih, List.length_set]
theorem flush_mem {bl : List (List Int)} {wt : List (Nat × List Int)} (hb : ∀ b ∈ bl, b.length = 32) (hw : ∀ e ∈ wt, e.2.length = 32) : ∀ b ∈ flushB bl wt, b.length = 32 := by
  unfold flushB
  induction wt generalizing bl with
  | nil => exact hb
  | cons e r ih =>
    rw [List.foldl_cons]
    refine ih (fun b h => ?_) fun f hf => hw f (List.mem_cons_of_mem _ hf)
    rcases List.mem_or_eq_of_mem_set h with h | h
    · exact hb b h
    · rw [h]; exact hw e List.mem_cons_self
theorem tear_len (bl : List (List Int)) (e : (Nat × List Int) × Int) : (tear bl e).length = bl.length := List.length_set ..
theorem tears_len (bl : List (List Int)) : ∀ l : List ((Nat × List Int) × Int), (l.foldl tear bl).length = bl.length := by
  intro l
  induction l generalizing bl with
  | nil => rfl
  | cons e r ih => rw [List.foldl_cons, ih, tear_len]
theorem getD_mem {bl : List (List Int)} {i : Nat} (h : i < bl.length) : bl.getD i [] ∈ bl ∧ bl[i]? = some (bl.getD i []) := by
  have e : bl.getD i [] = bl[i] := by rw [List.getD_eq_getElem?_getD, List.getElem?_eq_getElem h]; rfl
  rw [e]
  exact ⟨List.getElem_mem h, List.getElem?_eq_getElem h⟩
theorem tear_mem {bl : List (List Int)} {e : (Nat × List Int) × Int} (hb : ∀ b ∈ bl, b.length = 32) (hw : e.1.1 < bl.length ∧ e.1.2.length = 32) (ht : 0 ≤ e.2 ∧ e.2 ≤ 32) : ∀ b ∈ tear bl e, b.length = 32 := fun b h => by
  rcases List.mem_or_eq_of_mem_set h with h | h
  · exact hb b h
  · rw [h, List.length_append, List.length_take, List.length_drop, hw.2, hb _ (getD_mem hw.1).1]
    omega
theorem tears_mem {l : List ((Nat × List Int) × Int)} : ∀ {bl : List (List Int)}, (∀ b ∈ bl, b.length = 32) → (∀ e ∈ l, (e.1.1 < bl.length ∧ e.1.2.length = 32) ∧ 0 ≤ e.2 ∧ e.2 ≤ 32) → ∀ b ∈ l.foldl tear bl, b.length = 32 := by
  induction l with
  | nil => exact fun hb _ => hb
  | cons e r ih =>
    intro bl hb hl
    rw [List.foldl_cons]
    refine ih (tear_mem hb (hl e List.mem_cons_self).1 (hl e List.mem_cons_self).2) fun f hf => ?_
    rw [tear_len]
    exact hl f (List.mem_cons_of_mem _ hf)
theorem torn_mem {ts : List Int} (h : tornOk ts = true) : ∀ x ∈ ts, 0 ≤ x ∧ x ≤ 32 := fun x hx => by
  have := List.all_eq_true.mp h x hx
  simpa using this
theorem zip_ok {s : DkS} (W : WfD s) {ts : List Int} (h : tornOk ts = true) : ∀ e ∈ s.wt.zip ts, (e.1.1 < s.bl.length ∧ e.1.2.length = 32) ∧ 0 ≤ e.2 ∧ e.2 ≤ 32 := fun e he =>
  ⟨W.wt _ (List.of_mem_zip he).1, torn_mem h _ (List.of_mem_zip he).2⟩
theorem WfD.cut {s : DkS} (W : WfD s) {ts : List Int} (h : tornOk ts = true) : WfD (cutM s ts) :=
  ⟨by show 8 ≤ (cutB s.bl s.wt ts).length ∧ (cutB s.bl s.wt ts).length ≤ 400; unfold cutB; rw [tears_len]; exact W.len, tears_mem W.bl (zip_ok W h), (fun _ h => nomatch h), Nat.zero_le _, W.torn, fun k h => nomatch h⟩
theorem WfD.flush {s : DkS} (W : WfD s) : WfD (flushM s) :=
  ⟨by show 8 ≤ (flushB s.bl s.wt).length ∧ (flushB s.bl s.wt).length ≤ 400; rw [flush_len]; exact W.len, flush_mem W.bl (fun e he => (W.wt e he).2), (fun _ h => nomatch h), Nat.zero_le _, W.torn, W.left⟩
theorem WfD.write {s : DkS} (W : WfD s) {i : Nat} {ns : List Int} (hi : i < s.bl.length) (hn : ns.length = 32) (hw : s.wt.length < 100000) : WfD (writeM s i ns) :=
  ⟨W.len, W.bl, fun e he => (List.mem_append.mp he).elim (W.wt e) fun h => by rw [List.mem_singleton.mp h]; exact ⟨hi, hn⟩, by show (s.wt ++ [(i, ns)]).length ≤ _; rw [List.length_append]; show s.wt.length + 1 ≤ _; omega, W.torn, W.left⟩
theorem WfD.left' {s : DkS} (W : WfD s) {l : Option Int} (h : ∀ k, l = some k → 0 ≤ k) : WfD { s with left := l } := ⟨W.len, W.bl, W.wt, W.few, W.torn, h⟩
/-! ### on the heap -/
theorem same_made {H H' : Hp} {x dx C : Addr} (nx : H x = none) (ndx : H dx = none) (kp : Kp x (upd (upd H dx (.own x)) x (.ins C dx [])) H') : Same H H' := fun b o e => by
  refine kp b o (ne_of_none e nx) ?_
  rw [upd_ne (ne_of_none e nx), upd_ne (ne_of_none e ndx)]
  exact e
theorem same_upd2 {H : Hp} {x dx C : Addr} (nx : H x = none) (ndx : H dx = none) : Same H (upd (upd H dx (.own x)) x (.ins C dx [])) := fun b o e => by
  rw [upd_ne (ne_of_none e nx), upd_ne (ne_of_none e ndx)]
  exact e
theorem Kp.none {B r : Addr} {H H1 : Hp} (k : Kp B H H1) (n : H1 r = none) (hB : H1 B ≠ none) : H r = none := by
  cases e : H r with
  | none => rfl
  | some o => rw [k r o (fun z => hB (z ▸ n)) e] at n; cases n
theorem Box.some {H : Hp} {B D : Addr} (b : Box H B D) : H B ≠ none ∧ H D ≠ none := by
  obtain ⟨ds, i, h1, _, _, h4⟩ := b.ex
  exact ⟨by rw [h1]; exact (fun z => nomatch z), by rw [h4]; exact (fun z => nomatch z)⟩
theorem Kp.upd {B : Addr} {H H1 : Hp} {o : HO} (k : Kp B H H1) : Kp B H (upd H1 B o) := fun b u n e => by rw [upd_ne n]; exact k b u n e
theorem paired_rep {α β : Type} {R : α → β → Prop} {x : β} : ∀ {l : List α} {n : Nat}, l.length = n → (∀ a ∈ l, R a x) → Paired R l (List.replicate n x)
  | [], 0, _, _ => .nil
  | a :: r, n + 1, h, k => .cons (k a List.mem_cons_self) (paired_rep (by simpa using h) fun b hb => k b (List.mem_cons_of_mem _ hb))
theorem paired_set {α β : Type} {R : α → β → Prop} : ∀ {l : List α} {m : List β} {i : Nat} {a : α} {b : β}, Paired R l m → R a b → Paired R (l.set i a) (m.set i b)
  | _, _, _, _, _, .nil, _ => .nil
  | _, _, 0, _, _, .cons _ t, r => .cons r t
  | _, _, i + 1, _, _, .cons h t, r => .cons h (paired_set t r)
theorem paired_memR {α β : Type} {R : α → β → Prop} : ∀ {l : List α} {m : List β}, Paired R l m → ∀ b ∈ m, ∃ a ∈ l, R a b
  | _, _, .nil, _, h => nomatch h
  | _, _, .cons h t, b, hb => (List.mem_cons.mp hb).elim (fun e => ⟨_, List.mem_cons_self, e ▸ h⟩) fun hb => (paired_memR t b hb).imp fun _ q => ⟨List.mem_cons_of_mem _ q.1, q.2⟩
def BlkV (K : PySem.W.Frag) (H : Hp) (v : V) (ns : List Int) : Prop := ∃ t, v = .ref t ∧ SqT K H t (iv ns)
def EntV (K : PySem.W.Frag) (H : Hp) (v : V) (e : Nat × List Int) : Prop := ∃ t b, v = .ref t ∧ SqT K H t [.int (e.1 : Nat), b] ∧ BlkV K H b e.2
def leftV : Option Int → V
  | none => .non
  | some k => .int k
theorem BlkV.st {K : PySem.W.Frag} {H H' : Hp} {v : V} {ns : List Int} (h : BlkV K H v ns) (s : SameT H H') : BlkV K H' v ns := by
  obtain ⟨t, e, h⟩ := h
  exact ⟨t, e, s.sq h⟩
theorem EntV.st {K : PySem.W.Frag} {H H' : Hp} {v : V} {e : Nat × List Int} (h : EntV K H v e) (s : SameT H H') : EntV K H' v e := by
  obtain ⟨t, b, e, h, g⟩ := h
  exact ⟨t, b, e, s.sq h, g.st s⟩
/-- what stands outside F stays -/
def KpF (F : Addr → Prop) (H H' : Hp) : Prop := ∀ b o, ¬ F b → H b = some o → H' b = some o
theorem KpF.refl (F : Addr → Prop) (H : Hp) : KpF F H H := fun _ _ _ h => h
theorem KpF.trans {F : Addr → Prop} {H H1 H2 : Hp} (a : KpF F H H1) (b : KpF F H1 H2) : KpF F H H2 := fun c o n h => b c o n (a c o n h)
theorem KpF.same {F : Addr → Prop} {H H1 : Hp} (a : Same H H1) : KpF F H H1 := fun c o _ h => a c o h
theorem KpF.put {F : Addr → Prop} {H H1 : Hp} {a : Addr} {o : HO} (h : KpF F H H1) (f : F a) : KpF F H (upd H1 a o) := fun c u n e => by
  rw [upd_ne (fun z => n (by rw [z]; exact f))]
  exact h c u n e
theorem KpF.new {F : Addr → Prop} {H H1 : Hp} {a : Addr} {o : HO} (h : KpF F H H1) (f : H a = none) : KpF F H (upd H1 a o) := fun c u n e => by
  rw [upd_ne (ne_of_none e f)]
  exact h c u n e
/-- the disk's own objects, written over by its methods -/
structure DkF (F : Addr → Prop) (p aB aW : Addr) : Prop where
  iff : ∀ b, F b ↔ b = p ∨ b = aB ∨ b = aW
  bw : aB ≠ aW
def DiskAt (K : PySem.W.Frag) (C : Addr) (H : Hp) (p : Addr) (F : Addr → Prop) (s : DkS) : Prop := ∃ (dx aB aW tT : Addr) (vs ws : List V), DkF F p aB aW ∧
  H p = some (.ins C dx [("_blocks", .ref aB), ("_waiting", .ref aW), ("_cuts", .int s.cuts), ("_left", leftV s.left), ("_torn", .ref tT)]) ∧ H aB = some (.lst vs) ∧ Paired (BlkV K H) vs s.bl ∧ H aW = some (.lst ws) ∧ Paired (EntV K H) ws s.wt ∧ SqT K H tT (iv s.torn) ∧ WfD s
theorem DiskAt.kp {K : PySem.W.Frag} {C p : Addr} {H H' : Hp} {F : Addr → Prop} {s : DkS} (d : DiskAt K C H p F s) (k : ∀ b o, F b → H b = some o → H' b = some o) (st : SameT H H') : DiskAt K C H' p F s := by
  obtain ⟨dx, aB, aW, tT, vs, ws, f, h1, h2, h3, h4, h5, h6, h7⟩ := d
  exact ⟨dx, aB, aW, tT, vs, ws, f, k _ _ ((f.iff _).mpr (.inl rfl)) h1, k _ _ ((f.iff _).mpr (.inr (.inl rfl))) h2, h3.mono fun _ _ q => q.st st, k _ _ ((f.iff _).mpr (.inr (.inr rfl))) h4, h5.mono fun _ _ q => q.st st, st.sq h6, h7⟩
theorem DiskAt.same {K : PySem.W.Frag} {C p : Addr} {H H' : Hp} {F : Addr → Prop} {s : DkS} (d : DiskAt K C H p F s) (st : Same H H') : DiskAt K C H' p F s := d.kp (fun b o _ e => st b o e) st.t
theorem DiskAt.has {K : PySem.W.Frag} {C p : Addr} {H : Hp} {F : Addr → Prop} {s : DkS} (d : DiskAt K C H p F s) {b : Addr} (f : F b) : H b ≠ none := by
  obtain ⟨dx, aB, aW, tT, vs, ws, fi, h1, h2, h3, h4, _⟩ := d
  rcases (fi.iff b).mp f with rfl | rfl | rfl
  · rw [h1]; exact (fun z => nomatch z)
  · rw [h2]; exact (fun z => nomatch z)
  · rw [h4]; exact (fun z => nomatch z)
/-- tuples are not among them -/
theorem DiskAt.kt {K : PySem.W.Frag} {C p : Addr} {H H' : Hp} {F : Addr → Prop} {s : DkS} (d : DiskAt K C H p F s) (k : KpF F H H') : SameT H H' := fun b xs => by
  obtain ⟨dx, aB, aW, tT, vs, ws, fi, h1, h2, h3, h4, _⟩ := d
  have no : ∀ o, H b = some o → NoTup o = false → ¬ F b := fun o e n f => by
    rcases (fi.iff b).mp f with rfl | rfl | rfl
    · rw [h1] at e; cases e; cases n
    · rw [h2] at e; cases e; cases n
    · rw [h4] at e; cases e; cases n
  exact ⟨fun e => k b _ (no _ e rfl) e, fun o e => k b _ (no _ e rfl) e⟩
theorem DiskAt.wf {K : PySem.W.Frag} {C p : Addr} {H : Hp} {F : Addr → Prop} {s : DkS} (d : DiskAt K C H p F s) : WfD s := by
  obtain ⟨dx, aB, aW, tT, vs, ws, fi, h1, h2, h3, h4, h5, h6, h7⟩ := d
  exact h7
end Ga

set_option maxRecDepth 100000
set_option maxHeartbeats 4000000
/-! D1: sameanswers.disks, what raises at most OutOfRange. -/
namespace KX
open PySem PySem.Spec PyProof.Rows L2 TL Ga NdefX StX
section
variable {K : PySem.W.Frag} {H : Hp} {σ : L2.St} {te ta tb : TE} {xs ys : List V} {p : Addr} {D : Ends} {s1 s3 : TS}
theorem cutV_whole {xs : List V} {lo hi : Option Int} (h : HT.sIx xs.length 0 lo = 0 ∧ HT.sIx xs.length xs.length hi = xs.length) : cutV xs lo hi = xs := by
  unfold cutV
  rw [h.1, h.2, List.drop_zero, Nat.sub_zero, List.take_length]
theorem evSlT {tl' th : TO} {lo hi : Option Int} (h : EvR te σ H (sT K xs)) (hl : EvO tl' σ H lo) (hh : EvO th σ H hi) : EvR (tSl (rSlA K) te tl' th) σ H (sT K (cutV xs lo hi)) := fun H1 s Q k =>
  h H1 s _ fun v H2 s2 ⟨p, e, hp⟩ => hl H2 (s.trans s2) _ fun H3 s3 => hh H3 ((s.trans s2).trans s3) _ fun H4 s4 => ⟨p, xs, e, (s3.trans s4).seqT hp, fun w => k _ _ ((s2.trans s3).trans s4) ⟨p, rfl, by rw [cutV_whole w]; exact (s3.trans s4).seqT hp⟩,
    fun _ r nr => k _ _ (((s2.trans s3).trans s4).trans (same_upd nr)) ⟨r, rfl, sqT upd_same⟩⟩
theorem evCatT (ha : EvR ta σ H (sT K xs)) (hb : EvR tb σ H (sT K ys)) (hz : xs.length + ys.length ≤ 100000) : EvR (tOp (rCatA K) ta tb) σ H (sT K (xs ++ ys)) := fun H1 s Q k =>
  ha H1 s _ fun v H2 s2 ⟨a, e, h1⟩ => hb H2 (s.trans s2) _ fun u H3 s3 ⟨b, e2, h2⟩ => ⟨a, b, xs, ys, e, e2, s3.seqT h1, h2, Nat.le_trans hz (by decide), fun z => k _ _ (s2.trans s3) ⟨b, rfl, by rw [z]; exact h2⟩,
    fun _ z => k _ _ (s2.trans s3) ⟨a, rfl, by rw [z, List.append_nil]; exact s3.seqT h1⟩, fun _ _ r nr => k _ _ ((s2.trans s3).trans (same_upd nr)) ⟨r, rfl, sqT upd_same⟩⟩
/-- for g in a list that stands -/
theorem sqForG {g : TG} {tl' : TE} (h : EvS tl' σ H (.ref p)) (hp : SqL K H p xs) (Pv : Nat → L2.St → Hp → Prop) (h0 : ∀ H1, Same H H1 → Pv 0 σ H1) (hst : ∀ j σ H', j ≤ xs.length → Pv j σ H' → SqL K H' p xs)
    (hs : ∀ j (c : V) σ H, xs[j]? = some c → Pv j σ H → g c σ H fun σ2 H2 => s1 { D with nx := Pv (j + 1), ct := Pv (j + 1), bk := s3 D } σ2 H2) (hd : ∀ σ H, Pv xs.length σ H → s3 D σ H) : tSeq (tFor (iList K tl') g s1) s3 D σ H := by
  refine h H (.refl _) _ fun H1 s => ⟨p, rfl, ⟨_, s.seq hp⟩, ?_⟩
  exact for_list (K := K) (xs := xs) Pv (h0 H1 s) hst (fun j x σ H hx q => hs j x σ H hx q) hd
end
structure DiskC (K : PySem.W.Frag) (C : Addr) : Prop where
  cl : Cls K C
  n1 : NoAttr K C "_blocks"
  n2 : NoAttr K C "_waiting"
  n3 : NoAttr K C "_cuts"
  n4 : NoAttr K C "_left"
  n5 : NoAttr K C "_torn"
def spIsBlk (K : PySem.W.Frag) : Sp := fun vs H Q _ => ∃ (a : Addr) (ns : List Int), vs = [.ref a] ∧ SqL K H a (iv ns) ∧ ns.length ≤ 100000 ∧ ∀ H', Same H H' → Q (.bl (isBlkM ns)) H'
def spChkT (K : PySem.W.Frag) (Co : Addr) : Sp := fun vs H Q E => ∃ (a : Addr) (ts : List Int), vs = [.ref a] ∧ (SqL K H a (iv ts) ∨ SqT K H a (iv ts)) ∧ ts.length ≤ 100000 ∧ (tornOk ts = true → ∀ H', Same H H' → Q .non H') ∧ (tornOk ts = false → Oor Co "torn" H E)
def zero32 : List Int := List.replicate 32 0
def dk0 (n : Nat) : DkS := ⟨List.replicate n zero32, [], 0, none, []⟩
def spDkInit (K : PySem.W.Frag) (C Co : Addr) : Sp := fun vs H Q E => ∃ (p dx : Addr) (n : Int), vs = [.ref p, .int n] ∧ H p = some (.ins C dx []) ∧
  (8 ≤ n → n ≤ 400 → ∀ H' F, Kp p H H' → DiskAt K C H' p F (dk0 n.toNat) → (∀ b, F b → b = p ∨ H b = none) → Q .non H') ∧ (n < 8 ∨ 400 < n → Oor Co "blocks" H E)
def spDkChk (K : PySem.W.Frag) (C Co : Addr) : Sp := fun vs H Q E => ∃ (p : Addr) (F : Addr → Prop) (s : DkS) (i : Int), vs = [.ref p, .int i] ∧ DiskAt K C H p F s ∧ (0 ≤ i → i < (s.bl.length : Nat) → ∀ H', Same H H' → Q .non H') ∧ (i < 0 ∨ (s.bl.length : Nat) ≤ i → Oor Co "at" H E)
def spDkRead (K : PySem.W.Frag) (C Co : Addr) : Sp := fun vs H Q E => ∃ (p : Addr) (F : Addr → Prop) (s : DkS) (i : Int), vs = [.ref p, .int i] ∧ DiskAt K C H p F s ∧
  (0 ≤ i → i < (s.bl.length : Nat) → ∀ r H', Same H H' → H r = none → H' r = some (.lst (iv (readM s i.toNat))) → Q (.ref r) H') ∧ (i < 0 ∨ (s.bl.length : Nat) ≤ i → Oor Co "at" H E)
def spDkInt (K : PySem.W.Frag) (C : Addr) (f : DkS → Int) : Sp := fun vs H Q _ => ∃ (p : Addr) (F : Addr → Prop) (s : DkS), vs = [.ref p] ∧ DiskAt K C H p F s ∧ ∀ H', Same H H' → Q (.int (f s)) H'
section
variable {P : Program} {w : World} {K : PySem.W.Frag} {mg : Str → Option Value} {base : Heap} {C Co fo : Addr} {fdo : FuncData}
theorem blk_all (ns : List Int) : ((ns.map fun b => (decide ((0 : Int) ≤ b) && decide (b ≤ (255 : Int)))).all id) = ns.all fun b => decide (0 ≤ b) && decide (b ≤ 255) := by rw [List.all_map]; rfl
theorem ok_isblk {f : Addr} {fd : FuncData} (F : Fun K "is_block" "is_block" s_is_block f fd) (T : Tx mg) : FnOk P w K mg base CX0 1 f fd ["block"] (spIsBlk K) := by
  obtain ⟨t_BYTE_MOST, m_BYTE_MOST⟩ := T.c_BYTE_MOST
  obtain ⟨t_BLOCK, m_BLOCK⟩ := T.c_BLOCK
  refine F.ok sc_is_block (fun vs H Q E h => ?_) (fun cdv A outer s H vs Q E hr h => ?_)
  · obtain ⟨a, ns, rfl, _⟩ := h
    rfl
  · obtain ⟨a, ns, rfl, hS, hl, q⟩ := h
    refine ⟨_, pss_one (ps_ret (pe_and (pe_cmpR op_eq (pe_callB (kLen (K := K) rfl) (by rfl) T.len PySem.boot_len (pa_cons (pv 0) pa_nil)) (pe_glob (v := .int 32) rfl m_BLOCK ⟨_, rfl⟩) (nomark _)) (pe_one (pe_callB (kAll (K := K) rfl rfl) (by rfl) T.all (by decide +kernel) (pa_cons (pe_lc (own := [("byte", 1)]) rfl sc_is_block.nd (piL (K := K) rfl (pv 0)) (blkOk_by (N := n_is_block) (sc := defScope s_is_block) (by decide +kernel)) (fun _ _ _ _ _ => pg_name (i := 1) sc_is_block.nd rfl (Or.inl rfl)) (fun _ _ _ _ _ => pts_nil) (fun _ _ _ _ _ => (pe_chain op_le op_le pe_int (pv 1) (pe_glob (v := .int 255) rfl m_BYTE_MOST ⟨_, rfl⟩)))) pa_nil))))), ?_⟩
    have e1 : (decide (((iv ns).length : Int) = 32) && (ns.map fun b => (decide ((0 : Int) ≤ b) && decide (b ≤ (255 : Int)))).all id) = isBlkM ns := by
      unfold isBlkM
      rw [blk_all, List.length_map]
      congr 1
      exact decide_eq_decide.mpr ⟨fun h => by omega, fun h => by omega⟩
    refine retS (evAnd (evEqI (evLenL (K := K) (evVar (i := 0) rfl) hS) (evC (v := .int 32))) (evAll (K := K) (bs := ns.map fun b => (decide ((0 : Int) ≤ b) && decide (b ≤ (255 : Int)))) (by
      rw [List.map_map]
      exact (evLc (g := V.int) (f := V.bl ∘ fun b => (decide ((0 : Int) ≤ b) && decide (b ≤ (255 : Int)))) (evVarL (i := 0) rfl hS) (by omega) fun c hc H2 s2 => evChain (f := fun i j => decide (i ≤ j)) (g := fun i j => decide (i ≤ j)) (evC (v := .int 0)) (evVar (i := 1) rfl) (evC (v := .int 255))).ns))) fun H2 s2 => ?_
    have := q H2 s2
    rw [← e1] at this
    exact this
theorem ok_chkt {f : Addr} {fd : FuncData} (F : Fun K "check_torn" "check_torn" s_check_torn f fd) (T : Tx mg) (O : OorC P w K mg base Co fo fdo) : FnOk P w K mg base (L2.CX P w) 3 f fd ["torn"] (spChkT K Co) := by
  obtain ⟨t_BLOCK, m_BLOCK⟩ := T.c_BLOCK
  refine F.okX sc_check_torn (fun vs H Q E h => ?_) (fun cdv A outer s H vs Q E hr h => ?_)
  · obtain ⟨a, ns, rfl, _⟩ := h
    rfl
  · obtain ⟨a, ts, rfl, hS, hl, q1, q2⟩ := h
    have e1 : (ts.map fun b => (decide ((0 : Int) ≤ b) && decide (b ≤ (32 : Int)))).all id = tornOk ts := by rw [List.all_map]; rfl
    have fin : ∀ (te : TE) (rest : Ends), EvR te (L2.start n_check_torn [V.ref a]) H (sL K ((ts.map fun b => (decide ((0 : Int) ≤ b) && decide (b ≤ (32 : Int)))).map V.bl)) → rest.nx = (fun _ H' => Q .non H') →
        tIfS (tNot (tB (tCB (rAll K) (tCons te tNil)))) (fun D σ H => tMkO Co (spOor Co) [] (tCons (tC (.str "torn")) tNil) σ H E) tNext rest (L2.start n_check_torn [V.ref a]) H := fun te rest h hn => by
      refine oneIf (etNot (etVal (evAll h))) (fun hb H2 s2 => ?_) (fun hb H2 s2 => ?_)
      · rw [e1] at hb
        exact raise_oor (by decide +kernel) fun H3 e3 s3 n3 h3 => q2 (bnot_t hb) H3 e3 (s2.trans s3) (same_at s2 n3) h3
      · rw [e1] at hb
        show rest.nx _ _
        rw [hn]
        exact q1 (bnot_f hb) H2 s2
    rcases hS with hS | hS
    · refine ⟨_, pss_one (ps_if (pt_not (pt_val (pe_callB (kAll (K := K) rfl rfl) (by rfl) T.all (by decide +kernel) (pa_cons (pe_lc (own := [("many", 1)]) rfl sc_check_torn.nd (piL (K := K) rfl (pv 0)) (blkOk_by (N := n_check_torn) (sc := defScope s_check_torn) (by decide +kernel)) (fun _ _ _ _ _ => pg_name (i := 1) sc_check_torn.nd rfl (Or.inl rfl)) (fun _ _ _ _ _ => pts_nil) (fun _ _ _ _ _ => (pe_chain op_le op_le pe_int (pv 1) (pe_glob (v := .int 32) rfl m_BLOCK ⟨_, rfl⟩)))) pa_nil)))) (pss_one (ps_raise (W := fun cls d _ H => E cls d H) rfl (takes_of rfl rfl rfl rfl) (pmk_oex O.ex O.init O.fn O.ok (hr.mono (by decide)) O.binds .nil pass0 (by rfl) O.gl (pa_cons pe_str pa_nil)))) pss_nil), ?_⟩
      refine fin _ _ ?_ rfl
      rw [List.map_map]
      exact (evLc (g := V.int) (f := V.bl ∘ fun b => (decide ((0 : Int) ≤ b) && decide (b ≤ (32 : Int)))) (evVarL (i := 0) rfl hS) (by omega) fun c hc H2 s2 => evChain (f := fun i j => decide (i ≤ j)) (g := fun i j => decide (i ≤ j)) (evC (v := .int 0)) (evVar (i := 1) rfl) (evC (v := .int 32))).ns
    · refine ⟨_, pss_one (ps_if (pt_not (pt_val (pe_callB (kAll (K := K) rfl rfl) (by rfl) T.all (by decide +kernel) (pa_cons (pe_lc (own := [("many", 1)]) rfl sc_check_torn.nd (piT (K := K) rfl (pv 0)) (blkOk_by (N := n_check_torn) (sc := defScope s_check_torn) (by decide +kernel)) (fun _ _ _ _ _ => pg_name (i := 1) sc_check_torn.nd rfl (Or.inl rfl)) (fun _ _ _ _ _ => pts_nil) (fun _ _ _ _ _ => (pe_chain op_le op_le pe_int (pv 1) (pe_glob (v := .int 32) rfl m_BLOCK ⟨_, rfl⟩)))) pa_nil)))) (pss_one (ps_raise (W := fun cls d _ H => E cls d H) rfl (takes_of rfl rfl rfl rfl) (pmk_oex O.ex O.init O.fn O.ok (hr.mono (by decide)) O.binds .nil pass0 (by rfl) O.gl (pa_cons pe_str pa_nil)))) pss_nil), ?_⟩
      refine fin _ _ ?_ rfl
      rw [List.map_map]
      exact (evLcT (g := V.int) (f := V.bl ∘ fun b => (decide ((0 : Int) ≤ b) && decide (b ≤ (32 : Int)))) (evVarTp (i := 0) rfl hS) (by omega) fun c hc H2 s2 => evChain (f := fun i j => decide (i ≤ j)) (g := fun i j => decide (i ≤ j)) (evC (v := .int 0)) (evVar (i := 1) rfl) (evC (v := .int 32))).ns
theorem ok_dksize {f : Addr} {fd : FuncData} (F : Fun K "size" "Disk.size" s_Disk_size f fd) (T : Tx mg) (DC : DiskC K C) : FnOk P w K mg base CX0 1 f fd ["self"] (spDkInt K C fun s => (s.bl.length : Nat)) := by
  refine F.ok sc_Disk_size (fun vs H Q E h => ?_) (fun cdv A outer s H vs Q E hr h => ?_)
  · obtain ⟨p, Fp, s, rfl, _⟩ := h
    rfl
  · obtain ⟨p, Fp, s, rfl, ⟨dx, aB, aW, tT, vs, ws, f, h1, h2, h3, h4, h5, h6, h7⟩, q⟩ := h
    refine ⟨_, pss_one (ps_ret (pe_callB (kLen (K := K) rfl) (by rfl) T.len PySem.boot_len (pa_cons (peF (K := K) rfl (pv 0)) pa_nil))), ?_⟩
    refine retS (evLenL (K := K) (evFld (K := K) (evVar (i := 0) rfl) h1 DC.cl DC.n1 rfl) (sqL h2)) fun H2 s2 => ?_
    rw [paired_len h3]
    exact q H2 s2
theorem ok_dkpend {f : Addr} {fd : FuncData} (F : Fun K "pending_count" "Disk.pending_count" s_Disk_pending_count f fd) (T : Tx mg) (DC : DiskC K C) : FnOk P w K mg base CX0 1 f fd ["self"] (spDkInt K C fun s => (s.wt.length : Nat)) := by
  refine F.ok sc_Disk_pending_count (fun vs H Q E h => ?_) (fun cdv A outer s H vs Q E hr h => ?_)
  · obtain ⟨p, Fp, s, rfl, _⟩ := h
    rfl
  · obtain ⟨p, Fp, s, rfl, ⟨dx, aB, aW, tT, vs, ws, f, h1, h2, h3, h4, h5, h6, h7⟩, q⟩ := h
    refine ⟨_, pss_one (ps_ret (pe_callB (kLen (K := K) rfl) (by rfl) T.len PySem.boot_len (pa_cons (peF (K := K) rfl (pv 0)) pa_nil))), ?_⟩
    refine retS (evLenL (K := K) (evFld (K := K) (evVar (i := 0) rfl) h1 DC.cl DC.n2 rfl) (sqL h4)) fun H2 s2 => ?_
    rw [paired_len h5]
    exact q H2 s2
theorem ok_dkcuts {f : Addr} {fd : FuncData} (F : Fun K "cut_count" "Disk.cut_count" s_Disk_cut_count f fd) (T : Tx mg) (DC : DiskC K C) : FnOk P w K mg base CX0 1 f fd ["self"] (spDkInt K C fun s => s.cuts) := by
  refine F.ok sc_Disk_cut_count (fun vs H Q E h => ?_) (fun cdv A outer s H vs Q E hr h => ?_)
  · obtain ⟨p, Fp, s, rfl, _⟩ := h
    rfl
  · obtain ⟨p, Fp, s, rfl, ⟨dx, aB, aW, tT, vs, ws, f, h1, h2, h3, h4, h5, h6, h7⟩, q⟩ := h
    refine ⟨_, pss_one (ps_ret (peF (K := K) rfl (pv 0))), ?_⟩
    exact retS (evFld (K := K) (evVar (i := 0) rfl) h1 DC.cl DC.n3 rfl) fun H2 s2 => q H2 s2
theorem ok_dkchk {f : Addr} {fd : FuncData} (F : Fun K "_check_at" "Disk._check_at" s_Disk__check_at f fd) (T : Tx mg) (DC : DiskC K C) (O : OorC P w K mg base Co fo fdo) : FnOk P w K mg base (L2.CX P w) 3 f fd ["self", "at"] (spDkChk K C Co) := by
  refine F.okX sc_Disk__check_at (fun vs H Q E h => ?_) (fun cdv A outer s H vs Q E hr h => ?_)
  · obtain ⟨p, Fp, s, i, rfl, _⟩ := h
    rfl
  · obtain ⟨p, Fp, s, i, rfl, ⟨dx, aB, aW, tT, vs, ws, f, h1, h2, h3, h4, h5, h6, h7⟩, q1, q2⟩ := h
    refine ⟨_, pss_one (ps_if (pt_not (pt_chain op_le op_lt pe_int (pv 1) (pe_callB (kLen (K := K) rfl) (by rfl) T.len PySem.boot_len (pa_cons (peF (K := K) rfl (pv 0)) pa_nil)))) (pss_one (ps_raise (W := fun cls d _ H => E cls d H) rfl (takes_of rfl rfl rfl rfl) (pmk_oex O.ex O.init O.fn O.ok (hr.mono (by decide)) O.binds .nil pass0 (by rfl) O.gl (pa_cons pe_str pa_nil)))) pss_nil), ?_⟩
    rw [← paired_len h3] at q1 q2
    refine oneIf (etNot (etTest (evChain (f := fun i j => decide (i ≤ j)) (g := fun i j => decide (i < j)) (evC (v := .int 0)) (evVar (i := 1) rfl) (evLenL (K := K) (evFld (K := K) (evVar (i := 0) rfl) h1 DC.cl DC.n1 rfl) (sqL h2))))) (fun hb H2 s2 => ?_) (fun hb H2 s2 => ?_)
    · have hb := bnot_t hb
      refine raise_oor (by decide +kernel) fun H3 e3 s3 n3 h3 => q2 ?_ H3 e3 (s2.trans s3) (same_at s2 n3) h3
      simp only [Bool.and_eq_false_iff, decide_eq_false_iff_not] at hb
      omega
    · have hb := bnot_f hb
      simp only [Bool.and_eq_true, decide_eq_true_eq] at hb
      exact q1 hb.1 hb.2 H2 s2
end
end KX

set_option maxRecDepth 100000
set_option maxHeartbeats 4000000
/-! D2: a disk made, read. -/
namespace KX
open PySem PySem.Spec PyProof.Rows L2 TL Ga NdefX StX
theorem wf0 {n : Nat} (h1 : 8 ≤ n) (h2 : n ≤ 400) : WfD (dk0 n) :=
  ⟨by show 8 ≤ (List.replicate n zero32).length ∧ _ ≤ 400; rw [List.length_replicate]; exact ⟨h1, by rw [show (dk0 n).bl = List.replicate n zero32 from rfl, List.length_replicate]; exact h2⟩, fun b h => by rw [(List.mem_replicate.mp h).2]; rfl, (fun _ h => nomatch h), Nat.zero_le _, ⟨rfl, Nat.zero_le _⟩, fun k h => nomatch h⟩
section
variable {P : Program} {w : World} {K : PySem.W.Frag} {mg : Str → Option Value} {base : Heap} {C Co fo : Addr} {fdo : FuncData}
theorem ok_dkinit {f : Addr} {fd : FuncData} (F : Fun K "__init__" "Disk.__init__" s_Disk___init f fd) (T : Tx mg) (DC : DiskC K C) (O : OorC P w K mg base Co fo fdo) : FnOk P w K mg base (L2.CX P w) 3 f fd ["self", "blocks"] (spDkInit K C Co) := by
  obtain ⟨t_BLOCK, m_BLOCK⟩ := T.c_BLOCK
  obtain ⟨t_BLOCKS_LEAST, m_BLOCKS_LEAST⟩ := T.c_BLOCKS_LEAST
  obtain ⟨t_BLOCKS_MOST, m_BLOCKS_MOST⟩ := T.c_BLOCKS_MOST
  refine F.okX sc_Disk___init (fun vs H Q E h => ?_) (fun cdv A outer s H vs Q E hr h => ?_)
  · obtain ⟨p, dx, n, rfl, _⟩ := h
    rfl
  · obtain ⟨p, dx, n, rfl, hp, q1, q2⟩ := h
    refine ⟨_, pss_cons (ps_if (pt_not (pt_chain op_le op_le (pe_glob (v := .int 8) rfl m_BLOCKS_LEAST ⟨_, rfl⟩) (pv 1) (pe_glob (v := .int 400) rfl m_BLOCKS_MOST ⟨_, rfl⟩))) (pss_one (ps_raise (W := fun cls d _ H => E cls d H) rfl (takes_of rfl rfl rfl rfl) (pmk_oex O.ex O.init O.fn O.ok (hr.mono (by decide)) O.binds .nil pass0 (by rfl) O.gl (pa_cons pe_str pa_nil)))) pss_nil)
      (pss_cons (ps_fld (pv 0) (pe_lc (own := [("_", 2)]) rfl sc_Disk___init.nd (pi_range1 (by rfl) T.range (pa_cons (pv 1) pa_nil)) (blkOk_by (N := n_Disk___init) (sc := defScope s_Disk___init) (by decide +kernel)) (fun _ _ _ _ _ => pg_name (i := 2) sc_Disk___init.nd rfl (Or.inl rfl)) (fun _ _ _ _ _ => pts_nil) (fun _ _ _ _ _ => (pe_op (op_repS (K := K) rfl) (pe_tup (pa_cons pe_int pa_nil)) (pe_glob (v := .int 32) rfl m_BLOCK ⟨_, rfl⟩)))) rfl)
      (pss_cons (ps_fld (pv 0) (pe_lst pa_nil) rfl)
      (pss_cons (ps_fld (pv 0) pe_int rfl)
      (pss_cons (ps_fld (pv 0) pe_non rfl)
      (pss_one (ps_fld (pv 0) (pe_tup pa_nil) rfl)))))), ?_⟩
    refine sqIf (etNot (etTest (evChain (f := fun i j => decide (i ≤ j)) (g := fun i j => decide (i ≤ j)) (evC (v := .int 8)) (evVar (i := 1) rfl) (evC (v := .int 400))))) (fun hb H1 s1 => ?_) (fun hb H1 s1 => ?_)
    · have hb := bnot_t hb
      refine raise_oor (by decide +kernel) fun H3 e3 s3 n3 h3 => q2 ?_ H3 e3 (s1.trans s3) (same_at s1 n3) h3
      simp only [Bool.and_eq_false_iff, decide_eq_false_iff_not] at hb
      omega
    have hb := bnot_f hb
    simp only [Bool.and_eq_true, decide_eq_true_eq] at hb
    obtain ⟨m, rfl⟩ : ∃ m : Nat, n = (m : Nat) := ⟨n.toNat, by omega⟩
    refine sqFld rfl (s1 _ _ hp) DC.cl DC.n1 (by decide) (evLcRgR (n := m) (Re := fun _ H v => BlkV K H v zero32) (fun s h => h.st s) (evVar (i := 1) rfl) (by omega) fun k hk H2 s2 H3 s3 Q3 k3 => ?_) fun v H2 s2 ⟨aB, ys, ev, nB, hB, pr⟩ => ?_
    · refine ⟨by show 1 ≤ sizeLine; decide, fun t nt => ⟨t, 32, _, rfl, rfl, sqT upd_same, by simp, by decide, by decide, by decide, fun p' H4 s4 hs => k3 _ H4 ((same_upd nt).trans s4) ⟨p', rfl, ?_⟩⟩⟩
      have e : (List.replicate (32 : Int).toNat [V.int 0]).flatten = iv zero32 := by rw [flat_one]; rfl
      rw [e] at hs
      exact hs
    subst ev
    have hp2 := (s1.trans s2) _ _ hp
    have pB : p ≠ aB := fun e => by rw [← e, s1 _ _ hp] at nB; cases nB
    generalize hHa : upd H2 p (.ins C dx (putF "_blocks" (.ref aB) [])) = Ha
    have ka : Kp p H Ha := hHa ▸ (Kp.same (s1.trans s2)).upd
    have hpa : Ha p = some (.ins C dx [("_blocks", .ref aB)]) := by rw [← hHa, upd_same]; rfl
    have hBa : Ha aB = some (.lst ys) := by rw [← hHa, upd_ne pB.symm]; exact hB
    have sta : SameT H2 Ha := hHa ▸ .put hp2 rfl
    refine sqFld rfl hpa DC.cl DC.n2 (by simp) (evLst evNil (by simp)) fun v H3 s3 ⟨aW, ev, nW, hW⟩ => ?_
    subst ev
    have pW : p ≠ aW := fun e => by rw [← e, hpa] at nW; cases nW
    have BW : aB ≠ aW := fun e => by rw [← e, hBa] at nW; cases nW
    generalize hHb : upd H3 p (.ins C dx (putF "_waiting" (.ref aW) [("_blocks", .ref aB)])) = Hb
    have kb : Kp p Ha Hb := hHb ▸ (Kp.same s3).upd
    have hpb : Hb p = some (.ins C dx [("_blocks", .ref aB), ("_waiting", .ref aW)]) := by rw [← hHb, upd_same]; rfl
    have hWb : Hb aW = some (.lst []) := by rw [← hHb, upd_ne pW.symm]; exact hW
    have stb : SameT H3 Hb := hHb ▸ .put (s3 _ _ hpa) rfl
    refine sqFld rfl hpb DC.cl DC.n3 (by simp) ((evC (v := .int 0)).r (R := fun _ v _ => v = .int 0) fun _ _ _ _ => rfl) fun v H4 s4 ev => ?_
    subst ev
    generalize hHc : upd H4 p (.ins C dx (putF "_cuts" (.int 0) [("_blocks", .ref aB), ("_waiting", .ref aW)])) = Hc
    have kc : Kp p Hb Hc := hHc ▸ (Kp.same s4).upd
    have hpc : Hc p = some (.ins C dx [("_blocks", .ref aB), ("_waiting", .ref aW), ("_cuts", .int 0)]) := by rw [← hHc, upd_same]; rfl
    have stc : SameT H4 Hc := hHc ▸ .put (s4 _ _ hpb) rfl
    refine sqFld rfl hpc DC.cl DC.n4 (by simp) ((evC (v := .non)).r (R := fun _ v _ => v = .non) fun _ _ _ _ => rfl) fun v H5 s5 ev => ?_
    subst ev
    generalize hHd : upd H5 p (.ins C dx (putF "_left" .non [("_blocks", .ref aB), ("_waiting", .ref aW), ("_cuts", .int 0)])) = Hd
    have kd : Kp p Hc Hd := hHd ▸ (Kp.same s5).upd
    have hpd : Hd p = some (.ins C dx [("_blocks", .ref aB), ("_waiting", .ref aW), ("_cuts", .int 0), ("_left", .non)]) := by rw [← hHd, upd_same]; rfl
    have std : SameT H5 Hd := hHd ▸ .put (s5 _ _ hpc) rfl
    refine oneFld rfl hpd DC.cl DC.n5 (by simp) (evTup evNil (by simp)) fun v H6 s6 ⟨tT, ev, nT, hT⟩ => ?_
    subst ev
    have ke : Kp p Hd (upd H6 p (.ins C dx (putF "_torn" (.ref tT) [("_blocks", .ref aB), ("_waiting", .ref aW), ("_cuts", .int 0), ("_left", .non)]))) := (Kp.same s6).upd
    have pT : p ≠ tT := fun e => by rw [← e, hpd] at nT; cases nT
    have ste : SameT H6 (upd H6 p (.ins C dx (putF "_torn" (.ref tT) [("_blocks", .ref aB), ("_waiting", .ref aW), ("_cuts", .int 0), ("_left", .non)]))) := .put (s6 _ _ hpd) rfl
    have kB := (kb.trans kc).trans (kd.trans ke)
    refine q1 (by omega) (by omega) _ (fun b => b = p ∨ b = aB ∨ b = aW) ((ka.trans kB)) ⟨dx, aB, aW, tT, ys, [], ⟨fun _ => Iff.rfl, BW⟩, ?_, kB _ _ pB.symm hBa, ?_, (kc.trans (kd.trans ke)) _ _ pW.symm hWb, .nil, sqT (by rw [upd_ne pT.symm]; exact hT), wf0 (by omega) (by omega)⟩ ?_
    · rw [upd_same]; rfl
    · have stall := (((((sta.trans s3.t).trans stb).trans s4.t).trans stc).trans s5.t).trans ((std.trans s6.t).trans ste)
      rw [Int.toNat_natCast]
      show Paired _ ys (List.replicate m zero32)
      have hl : ys.length = m := by have := paired_len pr; rw [List.length_range] at this; exact this.symm
      refine paired_rep hl fun v hv => ?_
      obtain ⟨_, _, h⟩ := paired_memR pr v hv
      exact h.st stall
    · rintro b (rfl | rfl | rfl)
      · exact .inl rfl
      · exact .inr (same_at s1 nB)
      · refine .inr ?_
        cases e : H b with
        | none => rfl
        | some o => rw [ka b o pW.symm e] at nW; cases nW
end
end KX

set_option maxRecDepth 100000
set_option maxHeartbeats 4000000
/-! D3: a disk read, flushed, cut, written. -/
namespace KX
open PySem PySem.Spec PyProof.Rows L2 TL Ga NdefX StX
/-- what a counted step of the disk may do: go on, or cut -/
def Step (K : PySem.W.Frag) (C Cp : Addr) (H : Hp) (p : Addr) (F : Addr → Prop) (s : DkS) (s' : DkS) (Q : VK) (E : XK) : Prop :=
  (s.left = none → ∀ H' F', KpF F H H' → DiskAt K C H' p F' s' → (∀ b, F' b → F b ∨ H b = none) → Q .non H') ∧
  (∀ k, s.left = some k → 0 < k → ∀ H' F', KpF F H H' → DiskAt K C H' p F' { s' with left := some (k - 1) } → (∀ b, F' b → F b ∨ H b = none) → Q .non H') ∧
  (s.left = some 0 → ∀ H' F', KpF F H H' → DiskAt K C H' p F' (cutM s s.torn) → (∀ b, F' b → F b ∨ H b = none) → E (.ref Cp) none H')
def spDkCount (K : PySem.W.Frag) (C Cp : Addr) (ok : Option Int → Prop) : Sp := fun vs H Q E => ∃ (p : Addr) (F : Addr → Prop) (s : DkS), vs = [.ref p] ∧ DiskAt K C H p F s ∧ ok s.left ∧ Step K C Cp H p F s s Q E
def spDkFlush (K : PySem.W.Frag) (C Cp : Addr) (ok : Option Int → Prop) : Sp := fun vs H Q E => ∃ (p : Addr) (F : Addr → Prop) (s : DkS), vs = [.ref p] ∧ DiskAt K C H p F s ∧ ok s.left ∧ Step K C Cp H p F s (flushM s) Q E
def spDkWrite (K : PySem.W.Frag) (C Co Cp : Addr) (ok : Option Int → Prop) : Sp := fun vs H Q E => ∃ (p : Addr) (F : Addr → Prop) (s : DkS) (i : Int) (a : Addr) (ns : List Int), vs = [.ref p, .int i, .ref a] ∧ DiskAt K C H p F s ∧ SqL K H a (iv ns) ∧ ¬ F a ∧ ns.length ≤ 100000 ∧ ok s.left ∧ s.wt.length < 100000 ∧
  (i < 0 ∨ (s.bl.length : Nat) ≤ i → Oor Co "at" H E) ∧ (0 ≤ i → i < (s.bl.length : Nat) → isBlkM ns = false → Oor Co "block" H E) ∧
  (0 ≤ i → i < (s.bl.length : Nat) → isBlkM ns = true → Step K C Cp H p F s (writeM s i.toNat ns) Q E)
def spDkCut (K : PySem.W.Frag) (C Co : Addr) (okT : Hp → Addr → List Int → Prop) : Sp := fun vs H Q E => ∃ (p a : Addr) (F : Addr → Prop) (s : DkS) (ts : List Int), vs = [.ref p, .ref a] ∧ DiskAt K C H p F s ∧ okT H a ts ∧ ¬ F a ∧ ts.length ≤ 100000 ∧
  (tornOk ts = false → Oor Co "torn" H E) ∧ (tornOk ts = true → ∀ H' F', KpF F H H' → DiskAt K C H' p F' (cutM s ts) → (∀ b, F' b → F b ∨ H b = none) → Q .non H')
theorem evIsBlk {K : PySem.W.Frag} {H : Hp} {σ : L2.St} {i : Nat} {a : Addr} {ns : List Int} (h : σ[i]? = some (some (.ref a))) (hs : SqL K H a (iv ns)) (hz : ns.length ≤ 100000) : EvS (tCall (spIsBlk K) [] E0 (tCons (tVar i) tNil)) σ H (.bl (isBlkM ns)) :=
  fun H1 s Q q => ⟨_, h, a, ns, rfl, s.seq hs, hz, q⟩
theorem fold_take {α β : Type} (f : β → α → β) (b : β) (l : List α) {i : Nat} {x : α} (h : l[i]? = some x) : (l.take (i + 1)).foldl f b = f ((l.take i).foldl f b) x := by
  rw [List.take_add_one, h, List.foldl_append]; rfl
section
variable {P : Program} {w : World} {K : PySem.W.Frag} {mg : Str → Option Value} {base : Heap} {C Co Cp fo : Addr} {fdo : FuncData} {ok : Option Int → Prop}
theorem ok_dkread {f : Addr} {fd : FuncData} (F : Fun K "read" "Disk.read" s_Disk_read f fd) (T : Tx mg) (DC : DiskC K C) (M_Disk_check_at : MCalX P w K mg base C 3 "_check_at" ["self", "at"] (spDkChk K C Co)) : FnOk P w K mg base (L2.CX P w) 4 f fd ["self", "at"] (spDkRead K C Co) := by
  refine F.okX sc_Disk_read (fun vs H Q E h => ?_) (fun cdv A outer s H vs Q E hr h => ?_)
  · obtain ⟨p, Fp, s, i, rfl, _⟩ := h
    rfl
  · obtain ⟨p, Fp, s, i, rfl, dk, q1, q2⟩ := h
    refine ⟨_, pss_cons (ps_expr (pe_mx DC.cl M_Disk_check_at hr (passes_call (takes_of rfl rfl rfl rfl) fun _ _ _ _ h => h) (pv 0) (pa_cons (pv 1) pa_nil)))
      (pss_cons (ps_set (i := 2) sc_Disk_read.nd rfl (.inl rfl) (pe_ix (ixL (K := K) rfl) (peF (K := K) rfl (pv 0)) (pv 1) (fun _ _ => rfl)))
      (pss_cons (ps_for (passes_of rfl) rfl (piL (K := K) rfl (peF (K := K) rfl (pv 0))) (pgT (K := K) (n := 2) rfl rfl (pgs_cons (pg_name (i := 3) sc_Disk_read.nd rfl (Or.inl rfl)) (pgs_cons (pg_name (i := 4) sc_Disk_read.nd rfl (Or.inl rfl)) pgs_nil)))
      (pss_one (ps_if (pt_cmpR op_eq (pv 3) (pv 1) (nomark _)) (pss_one (ps_set (i := 2) sc_Disk_read.nd rfl (.inl rfl) (pv 4))) pss_nil)))
      (pss_one (ps_ret (pe_callTy (kList (K := K) rfl) (by rfl) T.list (by decide +kernel) (pa_cons (pv 2) pa_nil)))))), ?_⟩
    have dk0 := dk
    obtain ⟨dx, aB, aW, tT, vs, ws, f, h1, h2, h3, h4, h5, h6, h7⟩ := dk
    refine ⟨_, rfl, p, dx, _, rfl, h1, rfl, _, rfl, p, Fp, s, i, rfl, dk0, fun i0 i1 H1 s1 => ?_, q2⟩
    obtain ⟨m, rfl⟩ : ∃ m : Nat, i = (m : Nat) := ⟨i.toNat, by omega⟩
    have hm : m < vs.length := by rw [paired_len h3]; omega
    obtain ⟨v0, hv0⟩ : ∃ v0, vs[m]? = some v0 := ⟨_, List.getElem?_eq_getElem hm⟩
    obtain ⟨b0, hb0, hB0⟩ := paired_get h3 _ _ hv0
    have eb0 : b0 = s.bl.getD m [] := by rw [List.getD_eq_getElem?_getD, hb0]; rfl
    refine sqSet (evIxL (K := K) (evFld (K := K) (evVar (i := 0) rfl) (s1 _ _ h1) DC.cl DC.n1 rfl) (evVar (i := 1) rfl) (sqL (s1 _ _ h2)) (atI_nat hv0)) fun H2 s2 => ?_
    have s12 := s1.trans s2
    refine sqForG (K := K) (evFld (K := K) (evVar (i := 0) rfl) (s12 _ _ h1) DC.cl DC.n2 rfl) (sqL (s12 _ _ h4)) (fun j σ H' => ∃ (fv : V) (o3 o4 : Option V), σ = [some (.ref p), some (.int (m : Nat)), some fv, o3, o4] ∧ Same H2 H' ∧ BlkV K H2 fv ((s.wt.take j).foldl (fun acc e => if e.1 = m then e.2 else acc) b0))
      (fun H3 s3 => ⟨v0, none, none, rfl, s3, hB0.st s12.t⟩) (fun j σ H' _ ⟨_, _, _, _, h, _⟩ => sqL ((s12.trans h) _ _ h4)) ?_ ?_
    · rintro j c σ H3 hc ⟨fv, o3, o4, rfl, s3, hf⟩
      obtain ⟨e, he, t, bv, rfl, ht, hb⟩ := paired_get h5 _ _ hc
      have s123 := s12.trans s3
      refine ⟨t, _, rfl, s123.seqT ht, rfl, _, _, rfl, _, _, rfl, rfl, ?_⟩
      refine oneIf (etTest (evEqI (evVar (i := 3) rfl) (evVar (i := 1) rfl))) (fun hb1 H4 s4 => ?_) (fun hb1 H4 s4 => ?_)
      · have e1 : e.1 = m := by have := of_decide_eq_true hb1; omega
        refine ⟨_, rfl, bv, _, _, rfl, s3.trans s4, ?_⟩
        rw [fold_take _ _ _ he, if_pos e1]
        exact hb.st s12.t
      · have e1 : ¬ e.1 = m := by have := of_decide_eq_false hb1; omega
        refine ⟨fv, _, _, rfl, s3.trans s4, ?_⟩
        rw [fold_take _ _ _ he, if_neg e1]
        exact hf
    · rintro σ H3 ⟨fv, o3, o4, rfl, s3, hf⟩
      rw [paired_len h5, List.take_length] at hf
      obtain ⟨t, rfl, ht⟩ := hf
      refine ⟨_, rfl, t, _, rfl, .inr (s3.seqT ht), fun l nl => ?_⟩
      have s13 := s12.trans s3
      refine q1 i0 i1 l _ (s13.trans (same_upd nl)) (same_at s13 nl) ?_
      rw [upd_same]
      unfold readM
      rw [Int.toNat_natCast, ← eb0]
theorem ok_dkflush {f : Addr} {fd : FuncData} (F : Fun K "flush" "Disk.flush" s_Disk_flush f fd) (T : Tx mg) (DC : DiskC K C) (M_Disk_count : MCalX P w K mg base C 5 "_count" ["self"] (spDkCount K C Cp ok)) : FnOk P w K mg base (L2.CX P w) 6 f fd ["self"] (spDkFlush K C Cp ok) := by
  refine F.okX sc_Disk_flush (fun vs H Q E h => ?_) (fun cdv A outer s H vs Q E hr h => ?_)
  · obtain ⟨p, Fp, s, rfl, _⟩ := h
    rfl
  · obtain ⟨p, Fp, s, rfl, dk, hok, q1, q2, q3⟩ := h
    refine ⟨_, pss_cons (ps_expr (pe_mx0 DC.cl M_Disk_count hr (passes_call (takes_of rfl rfl rfl rfl) fun _ _ _ _ h => h) (pv 0)))
      (pss_cons (ps_for (passes_of rfl) rfl (piL (K := K) rfl (peF (K := K) rfl (pv 0))) (pgT (K := K) (n := 2) rfl rfl (pgs_cons (pg_name (i := 1) sc_Disk_flush.nd rfl (Or.inl rfl)) (pgs_cons (pg_name (i := 2) sc_Disk_flush.nd rfl (Or.inl rfl)) pgs_nil)))
      (pss_one (ps_asg (pv 2) (pg_sub (peF (K := K) rfl (pv 0)) (pv 1) set_list))))
      (pss_one (ps_fld (pv 0) (pe_lst pa_nil) rfl))), ?_⟩
    have dk0 := dk
    obtain ⟨dx, aB, aW, tT, vs, ws, f, h1, h2, h3, h4, h5, h6, h7⟩ := dk
    refine ⟨_, rfl, p, dx, _, rfl, h1, rfl, p, Fp, s, rfl, dk0, hok, ?_⟩
    -- what follows the count, whatever is left
    have go : ∀ (l : Option Int) (H1 : Hp) (F1 : Addr → Prop), KpF Fp H H1 → DiskAt K C H1 p F1 { s with left := l } → (∀ b, F1 b → Fp b ∨ H b = none) → (∀ H' F', KpF Fp H H' → DiskAt K C H' p F' { flushM s with left := l } → (∀ b, F' b → Fp b ∨ H b = none) → Q .non H') →
        tSeq (tFor (iList K (tFld K (tVar 0) "_waiting")) (gTup K 2 (gCons (gName 1) (gCons (gName 2) gNil))) (tAsg (tVar 2) (gSub (tFld K (tVar 0) "_blocks") (tVar 1) rSetL))) (sFld K (tVar 0) (tLst tNil) "_waiting") { nx := fun _ H' => Q .non H', rt := Q } (L2.start n_Disk_flush [V.ref p]) H1 := by
      rintro l H1 F1 kf1 ⟨dx, aB, aW, tT, vs, ws, f, h1, h2, h3, h4, h5, h6, h7⟩ fr1 q
      have fB := (f.iff aB).mpr (.inr (.inl rfl))
      have fp := (f.iff p).mpr (.inl rfl)
      have pB : p ≠ aB := fun e => by rw [e, h2] at h1; cases h1
      have pW : p ≠ aW := fun e => by rw [e, h4] at h1; cases h1
      refine sqForG (K := K) (evFld (K := K) (evVar (i := 0) rfl) h1 DC.cl DC.n2 rfl) (sqL h4) (fun j σ H' => ∃ (o1 o2 : Option V) (vs' : List V), σ = [some (.ref p), o1, o2] ∧ Kp aB H1 H' ∧ SameT H1 H' ∧ H' aB = some (.lst vs') ∧ Paired (BlkV K H1) vs' (flushB s.bl (s.wt.take j)))
        (fun H2 s2 => ⟨none, none, vs, rfl, .same s2, s2.t, s2 _ _ h2, h3⟩) (fun j σ H' _ ⟨_, _, _, _, k, _⟩ => sqL (k _ _ f.bw.symm h4)) ?_ ?_
      · rintro j c σ H3 hc ⟨o1, o2, vs', rfl, k3, t3, hB3, pr3⟩
        obtain ⟨e, he, t, bv, rfl, ht, hb⟩ := paired_get h5 _ _ hc
        refine ⟨t, _, rfl, t3.sq ht, rfl, _, _, rfl, _, _, rfl, rfl, ?_⟩
        have hl : vs'.length = s.bl.length := by rw [paired_len pr3, flush_len]
        have hi := (h7.wt e (List.mem_of_getElem? he)).1
        refine ⟨_, rfl, _, rfl, p, C, dx, _, _, rfl, k3 _ _ pB h1, DC.cl, DC.n1, rfl, _, rfl, aB, vs', (e.1 : Nat), e.1, rfl, rfl, hB3, ?_, ?_⟩
        · unfold ixN
          rw [if_pos (by omega), if_pos (by rw [hl]; show ((e.1 : Nat) : Int) < _; exact Int.ofNat_lt.mpr hi)]
          rfl
        · refine ⟨_, _, vs'.set e.1 bv, rfl, k3.upd, t3.trans (.put hB3 rfl), upd_same, ?_⟩
          unfold flushB
          rw [fold_take _ _ _ he]
          exact paired_set pr3 hb
      · rintro σ H3 ⟨o1, o2, vs', rfl, k3, t3, hB3, pr3⟩
        rw [paired_len h5, List.take_length] at pr3
        refine oneFld rfl (k3 _ _ pB h1) DC.cl DC.n2 (by simp) (evLst evNil (by simp)) fun v H4 s4 ⟨aN, ev, nN, hN⟩ => ?_
        subst ev
        have pN : p ≠ aN := fun e => by rw [← e, k3 _ _ pB h1] at nN; cases nN
        have BN : aB ≠ aN := fun e => by rw [← e, hB3] at nN; cases nN
        have kfB : KpF F1 H1 H3 := fun b o n e => k3 b o (fun z => n (by rw [z]; exact fB)) e
        refine q _ (fun b => b = p ∨ b = aB ∨ b = aN) (fun b o n e => ?_) ⟨dx, aB, aN, tT, vs', [], ⟨fun _ => Iff.rfl, BN⟩, ?_, ?_, ?_, ?_, .nil, ?_, ?_⟩ ?_
        · have e1 := kf1 b o n e
          have n1 : ¬ F1 b := fun z => (fr1 b z).elim n fun z2 => by rw [z2] at e; cases e
          rw [upd_ne (fun z => n1 (by rw [z]; exact fp))]
          exact s4 _ _ (kfB b o n1 e1)
        · rw [upd_same]; rfl
        · rw [upd_ne pB.symm]; exact s4 _ _ hB3
        · have st4 : SameT H1 (upd H4 p (.ins C dx (putF "_waiting" (.ref aN) [("_blocks", .ref aB), ("_waiting", .ref aW), ("_cuts", .int s.cuts), ("_left", leftV l), ("_torn", .ref tT)]))) := (t3.trans s4.t).trans (.put (s4 _ _ (k3 _ _ pB h1)) rfl)
          exact pr3.mono fun _ _ h => h.st st4
        · rw [upd_ne pN.symm]; exact hN
        · exact ((t3.trans s4.t).trans (.put (s4 _ _ (k3 _ _ pB h1)) rfl)).sq h6
        · exact (WfD.flush h7)
        · rintro b (rfl | rfl | rfl)
          · exact fr1 _ fp
          · exact fr1 _ fB
          · by_cases hf : Fp b
            · exact .inl hf
            · refine .inr ?_
              cases e : H b with
              | none => rfl
              | some o => rw [k3 b o BN.symm (kf1 b o hf e)] at nN; cases nN
    refine ⟨fun e0 H1 F1 k1 d1 f1 => ?_, fun k e0 hk H1 F1 k1 d1 f1 => ?_, q3⟩
    · refine go s.left H1 F1 k1 d1 f1 fun H' F' k' d' f' => ?_
      exact q1 e0 H' F' k' d' f'
    · refine go (some (k - 1)) H1 F1 k1 d1 f1 fun H' F' k' d' f' => ?_
      exact q2 k e0 hk H' F' k' d' f'
theorem ok_dkwrite {f : Addr} {fd : FuncData} (F : Fun K "write" "Disk.write" s_Disk_write f fd) (T : Tx mg) (DC : DiskC K C) (O : OorC P w K mg base Co fo fdo) (M_Disk_check_at : MCalX P w K mg base C 3 "_check_at" ["self", "at"] (spDkChk K C Co)) (M_Disk_count : MCalX P w K mg base C 5 "_count" ["self"] (spDkCount K C Cp ok))
    (H_is_block : Cal P w K mg base 1 "is_block" ["block"] (spIsBlk K)) : FnOk P w K mg base (L2.CX P w) 6 f fd ["self", "at", "block"] (spDkWrite K C Co Cp ok) := by
  refine F.okX sc_Disk_write (fun vs H Q E h => ?_) (fun cdv A outer s H vs Q E hr h => ?_)
  · obtain ⟨p, Fp, s, i, a, ns, rfl, _⟩ := h
    rfl
  · obtain ⟨p, Fp, s, i, a, ns, rfl, dk, hS, ha, hz, hok, hw, q1, q2, q3⟩ := h
    refine ⟨_, pss_cons (ps_expr (pe_mx DC.cl M_Disk_check_at hr (passes_call (takes_of rfl rfl rfl rfl) fun _ _ _ _ h => h) (pv 0) (pa_cons (pv 1) pa_nil)))
      (pss_cons (ps_if (pt_not (pt_val (pe_cal H_is_block hr pass0 (pa_cons (pv 2) pa_nil)))) (pss_one (ps_raise (W := fun cls d _ H => E cls d H) rfl (takes_of rfl rfl rfl rfl) (pmk_oex O.ex O.init O.fn O.ok (hr.mono (by decide)) O.binds .nil pass0 (by rfl) O.gl (pa_cons pe_str pa_nil)))) pss_nil)
      (pss_cons (ps_expr (pe_mx0 DC.cl M_Disk_count hr (passes_call (takes_of rfl rfl rfl rfl) fun _ _ _ _ h => h) (pv 0)))
      (pss_one (ps_expr (pe_bm PySem.F.plainAttrs_list PySem.F.slot_list_append PySem.F.type_list_append mt_append (peF (K := K) rfl (pv 0)) (pa_cons (pe_tup (pa_cons (pv 1) (pa_cons (pe_callTy (callTup (K := K) rfl) (by rfl) T.tuple (by decide +kernel) (pa_cons (pv 2) pa_nil)) pa_nil))) pa_nil)))))), ?_⟩
    obtain ⟨dx, aB, aW, tT, vs, ws, f, h1, h2, h3, h4, h5, h6, h7⟩ := id dk
    refine ⟨_, rfl, p, dx, _, rfl, h1, rfl, _, rfl, p, Fp, s, i, rfl, dk, fun i0 i1 H1 s1 => ?_, q1⟩
    obtain ⟨m, rfl⟩ : ∃ m : Nat, i = (m : Nat) := ⟨i.toNat, by omega⟩
    have eb := evIsBlk (K := K) (σ := L2.start n_Disk_write [V.ref p, .int (m : Nat), .ref a]) (i := 2) rfl (s1.seq hS) hz
    refine nxI ?_
    refine sqIf (etNot (etVal eb)) (fun hb H2 s2 => ?_) (fun hb H2 s2 => ?_)
    · exact raise_oor (by decide +kernel) fun H3 e3 s3 n3 h3 => q2 i0 i1 (bnot_t hb) H3 e3 ((s1.trans s2).trans s3) (same_at (s1.trans s2) n3) h3
    have s12 := s1.trans s2
    obtain ⟨c1, c2, c3⟩ := q3 i0 i1 (bnot_f hb)
    rw [Int.toNat_natCast] at c1 c2
    have dk2 := dk.same s12
    have n32 : ns.length = 32 := by
      have := bnot_f hb
      unfold isBlkM at this
      exact of_decide_eq_true (Bool.and_eq_true_iff.mp this).1
    have kp2 : ∀ {H' : Hp}, KpF Fp H2 H' → KpF Fp H H' := fun k b o n e => k b o n (s12 _ _ e)
    have fr2 : ∀ {F' : Addr → Prop}, (∀ b, F' b → Fp b ∨ H2 b = none) → ∀ b, F' b → Fp b ∨ H b = none := fun h b z => (h b z).imp id (same_at s12)
    refine ⟨_, rfl, p, dx, _, rfl, s12 _ _ h1, rfl, p, Fp, s, rfl, dk2, hok, ?_⟩
    have go : ∀ (l : Option Int) (H1 : Hp) (F1 : Addr → Prop), KpF Fp H2 H1 → DiskAt K C H1 p F1 { s with left := l } → (∀ b, F1 b → Fp b ∨ H2 b = none) → (∀ H' F', KpF Fp H H' → DiskAt K C H' p F' { writeM s m ns with left := l } → (∀ b, F' b → Fp b ∨ H b = none) → Q .non H') →
        tDrop (tBM K "list" rAppend (tFld K (tVar 0) "_waiting") (tCons (tTup (tCons (tVar 1) (tCons (tCB (rTupOf K) (tCons (tVar 2) tNil)) tNil))) tNil)) { nx := fun _ H' => Q .non H', rt := Q } (L2.start n_Disk_write [V.ref p, .int (m : Nat), .ref a]) H1 := by
      rintro l H1 F1 kf1 ⟨dx, aB, aW, tT, vs, ws, f, h1, h2, h3, h4, h5, h6, h7⟩ fr1 q
      have fW := (f.iff aW).mpr (.inr (.inr rfl))
      have pW : p ≠ aW := fun e => by rw [e, h4] at h1; cases h1
      have hS1 : SqL K H1 a (iv ns) := by
        rcases s12.seq hS with (h | ⟨o, h⟩) | h
        · exact .inl (.inl (kf1 _ _ ha h))
        · exact .inl (.inr ⟨o, kf1 _ _ ha h⟩)
        · exact .inr h
      refine ⟨_, rfl, p, C, dx, _, _, rfl, h1, DC.cl, DC.n2, rfl, .inl ⟨rfl, _, sqL h4⟩, ?_⟩
      refine ⟨_, rfl, _, rfl, a, iv ns, rfl, .inl ⟨hS1, fun t nt => ?_⟩⟩
      have s3 := same_upd (o := HO.tup (iv ns)) nt
      have ht : SqT K (upd H1 t (.tup (iv ns))) t (iv ns) := sqT upd_same
      generalize upd H1 t (.tup (iv ns)) = H3 at s3 ht ⊢
      refine ⟨by show 2 ≤ sizeLine; decide, fun u nu => ?_⟩
      have s4 := same_upd (o := HO.tup [.int (m : Nat), .ref t]) nu
      have hu : SqT K (upd H3 u (.tup [.int (m : Nat), .ref t])) u [.int (m : Nat), .ref t] := sqT upd_same
      generalize upd H3 u (.tup [.int (m : Nat), .ref t]) = H4 at s4 hu ⊢
      have s14 := s3.trans s4
      refine ⟨aW, ws, _, rfl, rfl, s14 _ _ h4, ?_, ?_⟩
      · rw [paired_len h5]
        exact Nat.lt_of_lt_of_le hw (by decide)
      have st : SameT H4 (upd H4 aW (.lst (ws ++ [.ref u]))) := .put (s14 _ _ h4) rfl
      have st1 := s14.t.trans st
      refine q _ F1 (fun b o n e => ?_) ⟨dx, aB, aW, tT, vs, ws ++ [.ref u], f, ?_, ?_, h3.mono fun _ _ r => r.st st1, upd_same, ?_, st1.sq h6, ?_⟩ fun b z => fr2 fr1 b z
      · have e1 := kf1 b o n (s12 _ _ e)
        have n1 : ¬ F1 b := fun z => (fr1 b z).elim n fun z2 => by rw [s12 _ _ e] at z2; cases z2
        rw [upd_ne (fun z => n1 (by rw [z]; exact fW))]
        exact s14 _ _ e1
      · rw [upd_ne pW]; exact s14 _ _ h1
      · rw [upd_ne f.bw]; exact s14 _ _ h2
      · exact Paired.snoc (h5.mono fun _ _ r => r.st st1) ⟨u, .ref t, rfl, st.sq hu, t, rfl, (s4.t.trans st).sq ht⟩
      · exact WfD.write (s := { s with left := l }) h7 (by show m < s.bl.length; omega) n32 hw
    refine ⟨fun e0 H1 F1 k1 d1 f1 => ?_, fun k e0 hk H1 F1 k1 d1 f1 => ?_, fun e0 H' F' k' d' f' => c3 e0 H' F' (kp2 k') d' (fr2 f')⟩
    · refine go s.left H1 F1 k1 d1 f1 fun H' F' k' d' f' => ?_
      exact c1 e0 H' F' k' d' f'
    · refine go (some (k - 1)) H1 F1 k1 d1 f1 fun H' F' k' d' f' => ?_
      exact c2 k e0 hk H' F' k' d' f'
end
end KX

set_option maxRecDepth 100000
set_option maxHeartbeats 4000000
/-! D4: the power cut, the torn a list. -/
namespace KX
open PySem PySem.Spec PyProof.Rows L2 TL Ga NdefX StX
theorem zip_at {α β : Type} : ∀ {l : List α} {m : List β} {i : Nat} {a : α} {b : β}, l[i]? = some a → m[i]? = some b → (l.zip m)[i]? = some (a, b)
  | [], _, _, _, _, h, _ => by simp at h
  | _ :: _, [], _, _, _, _, h => by simp at h
  | x :: l, y :: m, 0, a, b, h, g => by simp at h g ⊢; exact ⟨h, g⟩
  | x :: l, y :: m, i + 1, a, b, h, g => by simp at h g ⊢; simpa using zip_at (l := l) (m := m) (by simpa using h) (by simpa using g)
section
variable {P : Program} {w : World} {K : PySem.W.Frag} {mg : Str → Option Value} {base : Heap} {C Co Cp fo : Addr} {fdo : FuncData}
/-- one torn write -/
theorem tear_step {D : Ends} {p aB aW dx tT a : Addr} {H4 : Hp} {vs' : List V} {s : DkS} {e : Nat × List Int} {y : Int} {bv : V} {bl' : List (List Int)} (DC : DiskC K C)
    (h1 : H4 p = some (.ins C dx [("_blocks", .ref aB), ("_waiting", .ref aW), ("_cuts", .int s.cuts), ("_left", leftV s.left), ("_torn", .ref tT)])) (hB : H4 aB = some (.lst vs')) (pr : Paired (BlkV K H4) vs' bl') (hb : BlkV K H4 bv e.2) (hi : e.1 < bl'.length) (h32 : e.2.length = 32) (hb32 : (bl'.getD e.1 []).length = 32) (hy : 0 ≤ y ∧ y ≤ 32)
    (k : ∀ (v : V) (H5 : Hp), Same H4 H5 → H5 aB = some (.lst vs') → BlkV K H5 v (e.2.take y.toNat ++ (bl'.getD e.1 []).drop y.toNat) → D.nx [some (.ref p), some (.ref a), some (.int (e.1 : Nat)), some bv, some (.int y)] (upd H5 aB (.lst (vs'.set e.1 v)))) :
    tAsg (tOp (rCatA K) (tSl (rSlA K) (tVar 3) tNoPart (tPart (tVar 4))) (tSl (rSlA K) (tOp (rIxL K) (tFld K (tVar 0) "_blocks") (tVar 2)) (tPart (tVar 4)) tNoPart)) (gSub (tFld K (tVar 0) "_blocks") (tVar 2) rSetL) D
      [some (.ref p), some (.ref a), some (.int (e.1 : Nat)), some bv, some (.int y)] H4 := by
  have hl : vs'.length = bl'.length := paired_len pr
  obtain ⟨v0, hv0⟩ : ∃ v0, vs'[e.1]? = some v0 := ⟨_, List.getElem?_eq_getElem (by omega)⟩
  obtain ⟨b0, hb0, hB0⟩ := paired_get pr _ _ hv0
  have eb0 : bl'.getD e.1 [] = b0 := by rw [List.getD_eq_getElem?_getD, hb0]; rfl
  rw [eb0] at k hb32
  obtain ⟨tb, rfl, htb⟩ := hb
  obtain ⟨t0, rfl, ht0⟩ := hB0
  obtain ⟨m, rfl⟩ : ∃ m : Nat, y = (m : Nat) := ⟨y.toNat, by omega⟩
  rw [Int.toNat_natCast] at k
  refine (evCatT (evSlT (evVarTp (i := 3) rfl htb) evNo (evPart (evVar (i := 4) rfl))) (evSlT (((evIxL (K := K) (evFld (K := K) (evVar (i := 0) rfl) h1 DC.cl DC.n1 rfl) (evVar (i := 2) rfl) (sqL hB) (atI_nat hv0)).r fun _ _ a b => ⟨t0, rfl, (a.trans b).seqT ht0⟩)) (evPart (evVar (i := 4) rfl)) evNo) ?_).go fun v H5 s5 ⟨q, ev, hq⟩ => ?_
  · rw [cut_to, cut_from, List.length_take, List.length_drop, List.length_map, List.length_map]; omega
  subst ev
  rw [cut_to, cut_from, take_iv, drop_iv, app_iv] at hq
  refine ⟨_, rfl, p, C, dx, _, _, rfl, s5 _ _ h1, DC.cl, DC.n1, rfl, _, rfl, aB, vs', (e.1 : Nat), e.1, rfl, rfl, s5 _ _ hB, ?_, k _ _ s5 (s5 _ _ hB) ⟨q, rfl, hq⟩⟩
  unfold ixN
  rw [if_pos (by omega), if_pos (by rw [hl]; exact Int.ofNat_lt.mpr hi)]
  rfl
/-- what follows the torn writes -/
theorem cut_end {p aB aW dx tT : Addr} {a : Addr} {o2 o3 o4 : Option V} {H H1 H3 : Hp} {vs' : List V} {Fp : Addr → Prop} {s : DkS} {ts : List Int} {Q : VK} (DC : DiskC K C) (f : DkF Fp p aB aW) (dk0 : ∀ b, Fp b → H b ≠ none) (s1 : Same H H1)
    (h1 : H1 p = some (.ins C dx [("_blocks", .ref aB), ("_waiting", .ref aW), ("_cuts", .int s.cuts), ("_left", leftV s.left), ("_torn", .ref tT)])) (h6 : SqT K H1 tT (iv s.torn)) (h7 : WfD s) (ht : tornOk ts = true) (pB : p ≠ aB) (k3 : Kp aB H1 H3) (t3 : SameT H1 H3) (hB3 : H3 aB = some (.lst vs')) (pr3 : Paired (BlkV K H3) vs' (cutB s.bl s.wt ts))
    (q : ∀ H' F', KpF Fp H H' → DiskAt K C H' p F' (cutM s ts) → (∀ b, F' b → Fp b ∨ H b = none) → Q .non H') :
    tSeq (sFld K (tVar 0) (tLst tNil) "_waiting") (tSeq (sFld K (tVar 0) (tC .non) "_left") (sFldAug K (tVar 0) (tC (.int 1)) rAdd "_cuts")) { nx := fun _ H' => Q .non H', rt := Q } [some (.ref p), some (.ref a), o2, o3, o4] H3 := by
  have fB := (f.iff aB).mpr (.inr (.inl rfl))
  have fp := (f.iff p).mpr (.inl rfl)
  refine sqFld rfl (k3 _ _ pB h1) DC.cl DC.n2 (by simp) (evLst evNil (by simp)) fun v H4 s4 ⟨aN, ev, nN, hN⟩ => ?_
  subst ev
  have pN : p ≠ aN := fun e => by rw [← e, k3 _ _ pB h1] at nN; cases nN
  have BN : aB ≠ aN := fun e => by rw [← e, hB3] at nN; cases nN
  generalize hHa : upd H4 p (.ins C dx (putF "_waiting" (.ref aN) [("_blocks", .ref aB), ("_waiting", .ref aW), ("_cuts", .int s.cuts), ("_left", leftV s.left), ("_torn", .ref tT)])) = Ha
  have hpa : Ha p = some (.ins C dx [("_blocks", .ref aB), ("_waiting", .ref aN), ("_cuts", .int s.cuts), ("_left", leftV s.left), ("_torn", .ref tT)]) := by rw [← hHa, upd_same]; rfl
  have ka : Kp p H3 Ha := hHa ▸ (Kp.same s4).upd
  have hNa : Ha aN = some (.lst []) := by rw [← hHa, upd_ne pN.symm]; exact hN
  have sta : SameT H3 Ha := s4.t.trans (hHa ▸ .put (s4 _ _ (k3 _ _ pB h1)) rfl)
  refine sqFld rfl hpa DC.cl DC.n4 (by simp) ((evC (v := .non)).r (R := fun _ v _ => v = .non) fun _ _ _ _ => rfl) fun v H5 s5 ev => ?_
  subst ev
  generalize hHb : upd H5 p (.ins C dx (putF "_left" .non [("_blocks", .ref aB), ("_waiting", .ref aN), ("_cuts", .int s.cuts), ("_left", leftV s.left), ("_torn", .ref tT)])) = Hb
  have hpb : Hb p = some (.ins C dx [("_blocks", .ref aB), ("_waiting", .ref aN), ("_cuts", .int s.cuts), ("_left", .non), ("_torn", .ref tT)]) := by rw [← hHb, upd_same]; rfl
  have kb : Kp p Ha Hb := hHb ▸ (Kp.same s5).upd
  have stb : SameT Ha Hb := s5.t.trans (hHb ▸ .put (s5 _ _ hpa) rfl)
  refine ⟨_, rfl, p, C, dx, _, _, rfl, hpb, DC.cl, DC.n3, rfl, _, _, rfl, rfl, dx, _, hpb, by simp, ?_⟩
  have kc : Kp p Hb (upd Hb p (.ins C dx (putF "_cuts" (.int (s.cuts + 1)) [("_blocks", .ref aB), ("_waiting", .ref aN), ("_cuts", .int s.cuts), ("_left", .non), ("_torn", .ref tT)]))) := (Kp.refl _ _).upd
  have stc : SameT Hb (upd Hb p (.ins C dx (putF "_cuts" (.int (s.cuts + 1)) [("_blocks", .ref aB), ("_waiting", .ref aN), ("_cuts", .int s.cuts), ("_left", .non), ("_torn", .ref tT)]))) := .put hpb rfl
  have k4 := (ka.trans kb).trans kc
  have st3 := sta.trans (stb.trans stc)
  have st4 := t3.trans st3
  refine q _ (fun b => b = p ∨ b = aB ∨ b = aN) (fun b o n e => ?_) ⟨dx, aB, aN, tT, vs', [], ⟨fun _ => Iff.rfl, BN⟩, ?_, k4 _ _ pB.symm hB3, pr3.mono fun _ _ h => h.st st3, (kb.trans kc) _ _ pN.symm hNa, .nil, st4.sq h6, h7.cut ht⟩ ?_
  · exact k4 _ _ (fun z => n (by rw [z]; exact fp)) (k3 b o (fun z => n (by rw [z]; exact fB)) (s1 _ _ e))
  · rw [upd_same]; rfl
  · rintro b (rfl | rfl | rfl)
    · exact .inl fp
    · exact .inl fB
    · by_cases hf : Fp b
      · exact .inl hf
      · refine .inr ?_
        cases e : H b with
        | none => rfl
        | some o => rw [k3 b o BN.symm (s1 _ _ e)] at nN; cases nN
theorem ok_dkcut {f : Addr} {fd : FuncData} (F : Fun K "cut_power" "Disk.cut_power" s_Disk_cut_power f fd) (T : Tx mg) (DC : DiskC K C) (H_check_torn : CalX P w K mg base 3 "check_torn" ["torn"] (spChkT K Co)) : FnOk P w K mg base (L2.CX P w) 4 f fd ["self", "torn"] (spDkCut K C Co fun H a ts => SqL K H a (iv ts)) := by
  refine F.okX sc_Disk_cut_power (fun vs H Q E h => ?_) (fun cdv A outer s H vs Q E hr h => ?_)
  · obtain ⟨p, a, Fp, s, ts, rfl, _⟩ := h
    rfl
  · obtain ⟨p, a, Fp, s, ts, rfl, dk, hS, ha, hz, q1, q2⟩ := h
    refine ⟨_, pss_cons (ps_expr (pe_calX H_check_torn hr (passes_call (takes_of rfl rfl rfl rfl) fun _ _ _ _ h => h) (pa_cons (pv 1) pa_nil)))
      (pss_cons (ps_for (passes_of rfl) rfl (kZip (K := K) rfl (by rfl) T.zip (pa_cons (peF (K := K) rfl (pv 0)) (pa_cons (pv 1) pa_nil))) (pgT (K := K) (n := 2) rfl rfl (pgs_cons (pgT (K := K) (n := 2) rfl rfl (pgs_cons (pg_name (i := 2) sc_Disk_cut_power.nd rfl (Or.inl rfl)) (pgs_cons (pg_name (i := 3) sc_Disk_cut_power.nd rfl (Or.inl rfl)) pgs_nil))) (pgs_cons (pg_name (i := 4) sc_Disk_cut_power.nd rfl (Or.inl rfl)) pgs_nil)))
      (pss_one (ps_asg (pe_op (kCatT (K := K) rfl) (pe_slice (kSlT (K := K) rfl) (pv 3) po_none (po_some (pv 4))) (pe_slice (kSlT (K := K) rfl) (pe_ix (ixL (K := K) rfl) (peF (K := K) rfl (pv 0)) (pv 2) (fun _ _ => rfl)) (po_some (pv 4)) po_none)) (pg_sub (peF (K := K) rfl (pv 0)) (pv 2) set_list))))
      (pss_cons (ps_fld (pv 0) (pe_lst pa_nil) rfl)
      (pss_cons (ps_fld (pv 0) pe_non rfl)
      (pss_one (ps_fldaug (pv 0) pe_int in_add))))), ?_⟩
    have has := fun b => DiskAt.has (b := b) dk
    obtain ⟨dx, aB, aW, tT, vs, ws, f, h1, h2, h3, h4, h5, h6, h7⟩ := id dk
    refine ⟨_, rfl, a, ts, rfl, .inl hS, hz, fun ht H1 s1 => ?_, q1⟩
    refine nxI ?_
    have pB : p ≠ aB := fun e => by rw [e, h2] at h1; cases h1
    have aaB : a ≠ aB := fun e => ha (by rw [e]; exact (f.iff aB).mpr (.inr (.inl rfl)))
    have hp1 := s1 _ _ h1
    refine ⟨_, rfl, p, C, dx, _, _, rfl, hp1, DC.cl, DC.n2, rfl, _, rfl, aW, a, ws, iv ts, rfl, sqL (s1 _ _ h4), s1.seq hS, ?_⟩
    refine for_it (walk_zip (K := K) (a := aW) (b := a) (xs := ws) (ys := iv ts) (n := min ws.length (iv ts).length) rfl) (fun j σ H' => ∃ (o2 o3 o4 : Option V) (vs' : List V), σ = [some (.ref p), some (.ref a), o2, o3, o4] ∧ Kp aB H1 H' ∧ SameT H1 H' ∧ H' aB = some (.lst vs') ∧ Paired (BlkV K H') vs' (((s.wt.zip ts).take j).foldl tear s.bl))
      ⟨none, none, none, vs, rfl, .refl _ _, .refl _, s1 _ _ h2, h3.mono fun _ _ h => h.st s1.t⟩ (fun j σ H' _ ⟨_, _, _, _, _, k, _⟩ => ⟨sqL (k _ _ f.bw.symm (s1 _ _ h4)), k.seqL aaB (s1.seq hS)⟩) ?_ ?_
    · rintro j x σ H3 H4 hj ⟨o2, o3, o4, vs', rfl, k3, t3, hB3, pr3⟩ ⟨U, c, yv, rfl, nU, rfl, ec, ey⟩
      obtain ⟨e, he, t, bv, rfl, htt, hbv⟩ := paired_get h5 _ _ ec
      obtain ⟨y, hy, rfl⟩ : ∃ y, ts[j]? = some y ∧ V.int y = yv := by
        have ey : (iv ts)[j]? = some yv := ey
        rw [List.getElem?_map] at ey
        cases h : ts[j]? with
        | none => rw [h] at ey; cases ey
        | some y => rw [h] at ey; exact ⟨y, rfl, Option.some.inj ey⟩
      have hz2 := zip_at he hy
      have sU := same_upd (o := HO.tup [.ref t, .int y]) nU
      have hyr := torn_mem ht y (List.mem_of_getElem? hy)
      have hwe := h7.wt e (List.mem_of_getElem? he)
      have hbl : (((s.wt.zip ts).take j).foldl tear s.bl).length = s.bl.length := tears_len _ _
      have t14 : SameT H1 (upd H3 U (.tup [.ref t, .int y])) := t3.trans sU.t
      refine ⟨U, _, rfl, sqT upd_same, rfl, _, _, rfl, ⟨t, _, rfl, (s1.t.trans t14).sq htt, rfl, _, _, rfl, _, _, rfl, rfl, ⟨_, _, rfl, rfl, ?_⟩⟩⟩
      refine tear_step (s := s) (aW := aW) (tT := tT) (dx := dx) (vs' := vs') (bl' := ((s.wt.zip ts).take j).foldl tear s.bl) DC ((k3.trans (.same sU)) _ _ pB hp1) (sU _ _ hB3) (pr3.mono fun _ _ h => h.st sU.t) (hbv.st (s1.t.trans t14)) (by rw [hbl]; exact hwe.1) hwe.2 ?_ hyr fun v H5 s5 hB5 hv5 => ?_
      · exact tears_mem h7.bl (fun e' he' => zip_ok h7 ht e' (List.mem_of_mem_take he')) _ (getD_mem (by rw [hbl]; exact hwe.1)).1
      · refine ⟨_, _, _, vs'.set e.1 v, rfl, ((k3.trans (.same sU)).trans (.same s5)).upd, (t14.trans s5.t).trans (.put hB5 rfl), upd_same, ?_⟩
        rw [fold_take _ _ _ hz2]
        have st5 : SameT H5 (upd H5 aB (.lst (vs'.set e.1 v))) := .put hB5 rfl
        exact paired_set (pr3.mono fun _ _ h => h.st ((sU.t.trans s5.t).trans st5)) (hv5.st st5)
    · rintro σ H3 ⟨o2, o3, o4, vs', rfl, k3, t3, hB3, pr3⟩
      have e1 : (s.wt.zip ts).take (min ws.length (iv ts).length) = s.wt.zip ts := List.take_of_length_le (by rw [List.length_zip, paired_len h5, List.length_map]; exact Nat.le_refl _)
      rw [e1] at pr3
      exact cut_end DC f (fun b => has b) s1 hp1 (s1.t.sq h6) h7 ht pB k3 t3 hB3 pr3 (fun H' F' a b c => q2 ht H' F' a b c)
end
end KX

set_option maxRecDepth 100000
set_option maxHeartbeats 4000000
/-! G6: several except clauses, some with a name. -/
namespace Ga
open PySem PySem.Spec PyProof.Rows L2 TL
/-- the ends of a suite behind which slot i is empty -/
def offD (o : Option Nat) (D : Ends) : Ends := match o with
  | none => D
  | some i => { nx := fun σ H => D.nx (σ.set i none) H, rt := D.rt, bk := fun σ H => D.bk (σ.set i none) H, ct := fun σ H => D.ct (σ.set i none) H }
def onS (o : Option Nat) (a : Addr) (σ : L2.St) : L2.St := match o with
  | none => σ
  | some i => σ.set i (some (.ref a))
abbrev Clause := Value × Option Nat × (Addr → Value → Option Addr → TS)
/-- what such clauses wish of an exception -/
def wCl (K : PySem.W.Frag) (Wo : WX) (D : Ends) : List Clause → WX
  | [] => Wo
  | (c, o, ts) :: r => fun k d σ H => ∃ b, PySem.W.exmOne K k c = some b ∧ (b = true → ∀ a, H a = none → ts a k d (offD o D) (onS o a σ) H) ∧ (b = false → wCl K Wo D r k d σ H)
inductive ClOk (X : Cx) : List ExceptHandler → List Clause → Prop
  | nil : ClOk X [] []
  | bare {x : Str} {c : Value} {ts : Addr → Value → Option Addr → TS} {b0 : Stmt} {bs : List Stmt} {np hp : Pos} {hs : List ExceptHandler} {l : List Clause} (nm : Names X x c)
      (su : ∀ (a : Addr) (oe : Obj) (k : Value) (d : Option Addr) (pn : List (Addr × Obj)), Zc k d oe → (∃ vs, oe.data = .fields vs) → PSs (X.suite a ((a, oe) :: pn)) (b0 :: bs) (ts a k d)) (r : ClOk X hs l) : ClOk X (.ExceptHandler (some (.Name x np)) none (b0 :: bs) hp :: hs) ((c, none, ts) :: l)
  | named {x n : Str} {i : Nat} {c : Value} {ts : Addr → Value → Option Addr → TS} {b0 : Stmt} {bs : List Stmt} {np hp : Pos} {hs : List ExceptHandler} {l : List Clause} (nm : Names X x c) (hi : X.N[i]? = some n) (hk : X.env.kindOf n = some .local)
      (su : ∀ (a : Addr) (oe : Obj) (k : Value) (d : Option Addr) (pn : List (Addr × Obj)), Zc k d oe → (∃ vs, oe.data = .fields vs) → PSs (X.suite a ((a, oe) :: pn)) (b0 :: bs) (ts a k d)) (r : ClOk X hs l) : ClOk X (.ExceptHandler (some (.Name x np)) (some n) (b0 :: bs) hp :: hs) ((c, some i, ts) :: l)
section
variable {X : Cx} {body : List Stmt} {h0 : ExceptHandler} {hs : List ExceptHandler} {l : List Clause} {pos : Pos} {tb : WX → TS} {Wo : WX}
theorem ps_try_cl (est : X.stack = X.env :: X.outer) (efr : X.env.frame = some X.env.locals) (nd : X.N.Nodup) (tko : Takes X Wo)
    (runs : ∀ (W : WX) (pn : List (Addr × Obj)) (xe : Value → Shared → Prop), Takes (X.tr pn xe) W → PassesOwn (model X.prog X.w) X.A X.env xe → PSs (X.tr pn xe) body (tb W)) (cl : ClOk X (h0 :: hs) l) :
    PS X (.Try body (h0 :: hs) [] [] pos) (fun D σ H => tb (wCl X.K Wo D l) D σ H) := by
  refine ⟨fun pins s σ H D I hw => ?_⟩
  have iok := I.ok
  have frames : X.A.frames = some (X.env :: X.outer) := by rw [iok.frames, est]
  refine wpAny_Try_except (wpAny_mono ((runs (wCl X.K Wo D l) (X.pn ++ pins) (fun e t1 => wpAny (model X.prog X.w) X.A (noteFrame e X.env) (fun _ t2 => wpAny (model X.prog X.w) X.A (setFlight e none) (fun _ t3 =>
    wpAny (model X.prog X.w) X.A (handleBy e X.env (h0 :: hs)) (SP X pins D) X.xe t3) X.xe t2) X.xe t1) (fun u su caught => ?_) PassesOwn.looking).run [] s σ H D (I.toTry _) hw) (fun f t1 good => ?_) (fun e t1 z => z))
  · obtain ⟨ea, bb, si, pins2, τ, G, k, d, rfl, Jt, notb, upw, skw, fresh, eos, egs, wish⟩ := caught
    have J : Inv X pins τ G si := Jt.ofTry iok
    have skw2 : Sky bb (X.env :: X.outer) ea (Zc k d) X.env.locals su.heap := by rw [← est]; exact skw
    show wpAny (model X.prog X.w) X.A (noteFrame (.ref ea) X.env) _ _ _
    refine Sky.land Zc.steady frames efr skw2 fun g3 fl up3 => ?_
    have J3 : Inv X pins τ G { su with heap := g3 } := J.landed notb fl.1 (upw.trans up3) eos egs
    obtain ⟨o3, vs3, at3, zc3, dat3⟩ := fl.there
    have apart : ea ∉ frs (X.env :: X.outer) := fun hm => by
      obtain ⟨_, o', e', hnf⟩ := fl.2.2.1.mem hm
      rw [at3] at e'
      cases e'
      exact hnf _ dat3
    have n1 : ea ≠ X.env.locals := fun z => apart (List.mem_filterMap.mpr ⟨X.env, List.mem_cons_self, by rw [efr, z]⟩)
    have n2 : ea ∉ X.fs := fun hm => by
      obtain ⟨e, he, q⟩ := List.mem_filterMap.mp hm
      exact apart (List.mem_filterMap.mpr ⟨e, List.mem_cons_of_mem _ he, q⟩)
    have S3 := J3.suite at3 dat3 fresh n1 n2
    have looks : PySem.W.Looks (model X.prog X.w) g3 (typeOf (.ref ea)) k := fun A Q E t kp q => wpAny_typeOf_ref (kp _ _ at3) (by rw [zc3.1]; exact q)
    have go : ∀ {hs' : List ExceptHandler} {l' : List Clause}, ClOk X hs' l' → wCl X.K Wo D l' k d τ G → wpAny (model X.prog X.w) X.A (handleBy (.ref ea) X.env hs') (SP X pins D) X.xe { su with heap := g3 } := by
      intro hs' l' ok
      induction ok with
      | nil =>
        intro wo
        refine wpAny_handleBy_nil ?_
        obtain ⟨_, _, _, oe, vs, T, oT, ts', p1, p2, p3, p4, p5⟩ := id fl
        unfold PySem.passOn
        refine wpAny_bind (wpAny_field p1 p3 p4 ?_)
        rw [if_neg (show ¬ ((Value.ref T == Value.none) = true) from Bool.false_ne_true)]
        have out : wpAny (model X.prog X.w) X.A (setFlight (.ref ea) X.env.frame) (fun _ t4 => wpAny (model X.prog X.w) X.A (throw (.ref ea) : Sem Flow) (SP X pins D) X.xe t4) X.xe { su with heap := g3 } := by
          rw [efr]
          exact HandSPX.setFlight_upZ fl fun g4 hh up4 => wpAny_throw (tko _ _ ⟨ea, bb, si, pins, τ, G, k, d, rfl, J, notb, (upw.trans up3).trans up4, .inr (.inr (by rw [est]; exact hh)), fresh, eos, egs, wo⟩)
        first
          | exact wpAny_bind (wpAny_pure (wpAny_bind out))
          | exact wpAny_bind out
      | @bare x c ts b0 bs np hp hs2 l2 nm sb r ih =>
        rintro ⟨b, hb, yes, no⟩
        refine wpAny_handleBy_cons (codeAny_handlers_test ?_) (by intro q; cases q)
        have one := PySem.W.exm_one (M := model X.prog X.w) J3.kIn looks hb
        have named : ∀ {Q E : Value → Shared → Prop}, Q c { su with heap := g3 } → wpAny (model X.prog X.w) (X.A.mark (some (.ref ea))) (eval (.Name x np) X.env) Q E { su with heap := g3 } := fun {Q E} q => by
          obtain ⟨gl, dbg, m | ⟨m, v, nn⟩⟩ := nm
          · exact ld_glob (X := X.suite ea ((ea, o3) :: (X.pn ++ pins))) S3 gl m q dbg
          · exact ld_blt (X := X.suite ea ((ea, o3) :: (X.pn ++ pins))) S3 gl m v q nn dbg
        refine named (one.here ?_)
        cases b with
        | false => exact ih (no rfl)
        | true =>
          refine codeAny_handlers_suite (HandSPX.lands_againZ fl fun g4 fl4 up4 => ?_)
          obtain ⟨o4, vs4, at4, zc4, dat4⟩ := fl4.there
          have S4 := (J.landed (s' := { su with heap := g4 }) notb fl4.1 ((upw.trans up3).trans up4) eos egs).suite at4 dat4 fresh n1 n2
          refine wpAny_mono ((sb ea o4 k d (X.pn ++ pins) zc4 ⟨_, dat4⟩).run [] _ _ G _ S4 (yes rfl ea fresh)) (fun f t6 z => ?_) (fun _ _ z => False.elim z)
          cases f with
          | ret u => exact let ⟨_, _, _, S6, r6, q6⟩ := z; ⟨_, _, _, S6.unsuite iok, r6, q6⟩
          | next => exact let ⟨_, _, S6, q6⟩ := z; ⟨_, _, S6.unsuite iok, q6⟩
          | brk => exact let ⟨_, _, S6, q6⟩ := z; ⟨_, _, S6.unsuite iok, q6⟩
          | cont => exact let ⟨_, _, S6, q6⟩ := z; ⟨_, _, S6.unsuite iok, q6⟩
      | @named x n i c ts b0 bs np hp hs2 l2 nm hi hk sb r ih =>
        rintro ⟨b, hb, yes, no⟩
        refine wpAny_handleBy_cons (codeAny_handlers_test ?_) (by intro q; cases q)
        have one := PySem.W.exm_one (M := model X.prog X.w) J3.kIn looks hb
        have named : ∀ {Q E : Value → Shared → Prop}, Q c { su with heap := g3 } → wpAny (model X.prog X.w) (X.A.mark (some (.ref ea))) (eval (.Name x np) X.env) Q E { su with heap := g3 } := fun {Q E} q => by
          obtain ⟨gl, dbg, m | ⟨m, v, nn⟩⟩ := nm
          · exact ld_glob (X := X.suite ea ((ea, o3) :: (X.pn ++ pins))) S3 gl m q dbg
          · exact ld_blt (X := X.suite ea ((ea, o3) :: (X.pn ++ pins))) S3 gl m v q nn dbg
        refine named (one.here ?_)
        cases b with
        | false => exact ih (no rfl)
        | true =>
          refine codeAny_handlers_suite_as (HandSPX.lands_againZ fl fun g4 fl4 up4 => ?_)
          obtain ⟨o4, vs4, at4, zc4, dat4⟩ := fl4.there
          have S4 := (J.landed (s' := { su with heap := g4 }) notb fl4.1 ((upw.trans up3).trans up4) eos egs).suite at4 dat4 fresh n1 n2
          refine store_ok (X := X.suite ea ((ea, o4) :: (X.pn ++ pins))) (v := .ref ea) S4 nd hi (.inl hk) rfl (fun t5 S5 => ?_) (.inr hk)
          refine wpAny_mono ((sb ea o4 k d (X.pn ++ pins) zc4 ⟨_, dat4⟩).run [] t5 _ G _ S5 (yes rfl ea fresh)) (fun f t6 z => ?_) (fun _ _ z => False.elim z)
          cases f with
          | ret u => exact let ⟨_, _, _, S6, r6, q6⟩ := z; gone_ok (S6.unsuite iok) nd hi hk fun t7 J7 => ⟨_, _, _, J7, r6, q6⟩
          | next => exact let ⟨_, _, S6, q6⟩ := z; gone_ok (S6.unsuite iok) nd hi hk fun t7 J7 => ⟨_, _, J7, q6⟩
          | brk => exact let ⟨_, _, S6, q6⟩ := z; gone_ok (S6.unsuite iok) nd hi hk fun t7 J7 => ⟨_, _, J7, q6⟩
          | cont => exact let ⟨_, _, S6, q6⟩ := z; gone_ok (S6.unsuite iok) nd hi hk fun t7 J7 => ⟨_, _, J7, q6⟩
    exact go cl wish
  · cases f with
    | ret u => exact let ⟨v, _, _, J, r, q⟩ := good; ⟨v, _, _, J.ofTry iok, r, q⟩
    | next => exact let ⟨_, _, J, q⟩ := good; wpAny_execs_nil ⟨_, _, J.ofTry iok, q⟩
    | brk => exact let ⟨_, _, J, q⟩ := good; ⟨_, _, J.ofTry iok, q⟩
    | cont => exact let ⟨_, _, J, q⟩ := good; ⟨_, _, J.ofTry iok, q⟩
end
end Ga

set_option maxRecDepth 100000
set_option maxHeartbeats 4000000
/-! J6: the law's own blocks and pending writes. -/
namespace Ga
open PySem PySem.Spec PyProof.Rows L2 TL StX
/-- what the law writes over -/
def Mut (F : Addr → Prop) (lb lp B : Addr) : Addr → Prop := fun b => F b ∨ b = lb ∨ b = lp ∨ b = B
def LBl (H : Hp) (M : Addr → Prop) (lb : Addr) (bl : List (List Int)) : Prop := ∃ as : List Addr, H lb = some (.lst (as.map V.ref)) ∧ Paired (fun a ns => H a = some (.lst (iv ns)) ∧ ¬ M a) as bl
def LPd (H : Hp) (M : Addr → Prop) (lp : Addr) (wt : List (Nat × List Int)) : Prop := ∃ es : List Addr, H lp = some (.lst (es.map V.ref)) ∧
  Paired (fun e x => ∃ b, H e = some (.lst [.int (x.1 : Nat), .ref b]) ∧ ¬ M e ∧ H b = some (.lst (iv x.2)) ∧ ¬ M b) es wt
theorem LBl.mv {H H' : Hp} {M M' : Addr → Prop} {lb : Addr} {bl : List (List Int)} (h : LBl H M lb bl) (hb : ∀ o, H lb = some o → H' lb = some o) (k : ∀ b o, ¬ M b → H b = some o → H' b = some o) (m : ∀ b o, H b = some o → ¬ M b → ¬ M' b) : LBl H' M' lb bl := by
  obtain ⟨as, h1, h2⟩ := h
  exact ⟨as, hb _ h1, h2.mono fun a ns q => ⟨k _ _ q.2 q.1, m _ _ q.1 q.2⟩⟩
theorem LPd.mv {H H' : Hp} {M M' : Addr → Prop} {lp : Addr} {wt : List (Nat × List Int)} (h : LPd H M lp wt) (hb : ∀ o, H lp = some o → H' lp = some o) (k : ∀ b o, ¬ M b → H b = some o → H' b = some o) (m : ∀ b o, H b = some o → ¬ M b → ¬ M' b) : LPd H' M' lp wt := by
  obtain ⟨es, h1, h2⟩ := h
  exact ⟨es, hb _ h1, h2.mono fun e x ⟨b, q1, q2, q3, q4⟩ => ⟨b, k _ _ q2 q1, m _ _ q1 q2, k _ _ q4 q3, m _ _ q3 q4⟩⟩
theorem refs_inj : ∀ {as bs : List Addr}, as.map V.ref = bs.map V.ref → as = bs
  | [], [], _ => rfl
  | a :: r, b :: q, h => by
    injection h with h1 h2
    injection h1 with h1
    rw [h1, refs_inj h2]
  | [], b :: q, h => nomatch h
  | a :: r, [], h => nomatch h
structure LW (H : Hp) (F : Addr → Prop) (lb lp B D : Addr) (bl : List (List Int)) (wt : List (Nat × List Int)) : Prop where
  lbl : LBl H (Mut F lb lp B) lb bl
  lpd : LPd H (Mut F lb lp B) lp wt
  bx : Box H B D
  nF : ¬ F lb ∧ ¬ F lp ∧ ¬ F B ∧ ¬ F D
  ne : lb ≠ lp ∧ lb ≠ B ∧ lp ≠ B ∧ D ≠ lb ∧ D ≠ lp
section
variable {K : PySem.W.Frag} {C p lb lp B D : Addr} {H H' : Hp} {F F' : Addr → Prop} {bl : List (List Int)} {wt : List (Nat × List Int)} {s : DkS}
theorem LW.hb (w : LW H F lb lp B D bl wt) : H lb ≠ none ∧ H lp ≠ none := by
  obtain ⟨as, h1, _⟩ := w.lbl
  obtain ⟨es, h2, _⟩ := w.lpd
  exact ⟨by rw [h1]; exact (fun z => nomatch z), by rw [h2]; exact (fun z => nomatch z)⟩
theorem LW.same (w : LW H F lb lp B D bl wt) (s : Same H H') : LW H' F lb lp B D bl wt :=
  ⟨w.lbl.mv (fun o h => s _ _ h) (fun b o _ h => s _ _ h) fun _ _ _ n => n, w.lpd.mv (fun o h => s _ _ h) (fun b o _ h => s _ _ h) fun _ _ _ n => n, w.bx.same s, w.nF, w.ne⟩
theorem LW.kpB (w : LW H F lb lp B D bl wt) (k : Kp B H H') (b : Box H' B D) : LW H' F lb lp B D bl wt :=
  ⟨w.lbl.mv (fun o h => k _ _ w.ne.2.1 h) (fun c o n h => k c o (fun z => n (.inr (.inr (.inr z)))) h) fun _ _ _ n => n, w.lpd.mv (fun o h => k _ _ w.ne.2.2.1 h) (fun c o n h => k c o (fun z => n (.inr (.inr (.inr z)))) h) fun _ _ _ n => n, b, w.nF, w.ne⟩
/-- behind a method of the disk -/
theorem LW.op (w : LW H F lb lp B D bl wt) (k : KpF F H H') (fr : ∀ b, F' b → F b ∨ H b = none) : LW H' F' lb lp B D bl wt := by
  have out : ∀ {b}, ¬ F b → H b ≠ none → ¬ F' b := fun n h z => (fr _ z).elim n h
  have hs := w.hb
  have hB := w.bx.some
  have mm : ∀ b o, H b = some o → ¬ Mut F lb lp B b → ¬ Mut F' lb lp B b := fun b o e n z => by
    rcases z with z | z
    · exact out (fun f => n (.inl f)) (by rw [e]; exact (fun z => nomatch z)) z
    · exact n (.inr z)
  refine ⟨w.lbl.mv (fun o h => k _ _ w.nF.1 h) (fun c o n h => k c o (fun z => n (.inl z)) h) mm, w.lpd.mv (fun o h => k _ _ w.nF.2.1 h) (fun c o n h => k c o (fun z => n (.inl z)) h) mm, ?_, ⟨out w.nF.1 hs.1, out w.nF.2.1 hs.2, out w.nF.2.2.1 hB.1, out w.nF.2.2.2 hB.2⟩, w.ne⟩
  obtain ⟨ds, i, h1, h2, h3, h4⟩ := w.bx.ex
  exact ⟨ds, i, k _ _ w.nF.2.2.1 h1, h2, h3, k _ _ w.nF.2.2.2 h4⟩
theorem Mut.no {b : Addr} (h : ¬ Mut F lb lp B b) : ¬ F b ∧ b ≠ lb ∧ b ≠ lp ∧ b ≠ B := ⟨fun z => h (.inl z), fun z => h (.inr (.inl z)), fun z => h (.inr (.inr (.inl z))), fun z => h (.inr (.inr (.inr z)))⟩
theorem Mut.mk {b : Addr} (h1 : ¬ F b) (h2 : b ≠ lb) (h3 : b ≠ lp) (h4 : b ≠ B) : ¬ Mut F lb lp B b := fun z => by
  rcases z with z | z | z | z
  · exact h1 z
  · exact h2 z
  · exact h3 z
  · exact h4 z
/-- a row of the blocks is put in -/
theorem LW.setB (w : LW H F lb lp B D bl wt) {as : List Addr} (h : H lb = some (.lst (as.map V.ref))) {i : Nat} {a : Addr} {ns : List Int} (ha : H a = some (.lst (iv ns))) (na : ¬ Mut F lb lp B a) : LW (upd H lb (.lst ((as.map V.ref).set i (.ref a)))) F lb lp B D (bl.set i ns) wt := by
  have kp : ∀ b o, ¬ Mut F lb lp B b → H b = some o → upd H lb (.lst ((as.map V.ref).set i (.ref a))) b = some o := fun b o n e => by rw [upd_ne (Mut.no n).2.1]; exact e
  refine ⟨?_, w.lpd.mv (fun o h => by rw [upd_ne w.ne.1.symm]; exact h) kp fun _ _ _ n => n, w.bx.put w.ne.2.1 w.ne.2.2.2.1.symm, w.nF, w.ne⟩
  obtain ⟨as', h1, h2⟩ := w.lbl
  rw [h] at h1
  have e : as = as' := by
    injection h1 with h1
    injection h1 with h1
    exact refs_inj h1
  subst e
  refine ⟨as.set i a, by rw [upd_same, List.map_set], paired_set (h2.mono fun x y q => ⟨kp _ _ q.2 q.1, q.2⟩) ⟨kp _ _ na ha, na⟩⟩
/-- another list of pending writes, an empty one -/
theorem LW.clear (w : LW H F lb lp B D bl wt) (s : Same H H') {l : Addr} (nl : H l = none) (hl : H' l = some (.lst [])) (nF : ¬ F l) : LW H' F lb l B D bl [] := by
  have hs := w.hb
  have hB := w.bx.some
  have nl' : ∀ {b}, H b ≠ none → b ≠ l := fun h z => h (z ▸ nl)
  refine ⟨w.lbl.mv (fun o h => s _ _ h) (fun b o _ h => s _ _ h) fun b o e n => Mut.mk (Mut.no n).1 (Mut.no n).2.1 (nl' (by rw [e]; exact (fun z => nomatch z))) (Mut.no n).2.2.2, ⟨[], hl, .nil⟩, w.bx.same s, ⟨w.nF.1, nF, w.nF.2.2.1, w.nF.2.2.2⟩, nl' hs.1, w.ne.2.1, (nl' hB.1).symm, w.ne.2.2.2.1, nl' hB.2⟩
/-- one more pending write -/
theorem LW.push (w : LW H F lb lp B D bl wt) {es : List V} (h : H lp = some (.lst es)) {e b : Addr} {i : Nat} {ns : List Int} (he : H e = some (.lst [.int (i : Nat), .ref b])) (ne : ¬ Mut F lb lp B e) (hb : H b = some (.lst (iv ns))) (nb : ¬ Mut F lb lp B b) :
    LW (upd H lp (.lst (es ++ [.ref e]))) F lb lp B D bl (wt ++ [(i, ns)]) := by
  have kp : ∀ b o, ¬ Mut F lb lp B b → H b = some o → upd H lp (.lst (es ++ [.ref e])) b = some o := fun b o n e => by rw [upd_ne (Mut.no n).2.2.1]; exact e
  refine ⟨w.lbl.mv (fun o h => by rw [upd_ne w.ne.1]; exact h) kp fun _ _ _ n => n, ?_, w.bx.put w.ne.2.2.1 w.ne.2.2.2.2.symm, w.nF, w.ne⟩
  obtain ⟨es', h1, h2⟩ := w.lpd
  rw [h] at h1
  have ee : es = es'.map V.ref := by
    injection h1 with h1
    injection h1 with h1
  subst ee
  exact ⟨es' ++ [e], by rw [upd_same, List.map_append]; rfl, Paired.snoc (h2.mono fun x y ⟨b', q1, q2, q3, q4⟩ => ⟨b', kp _ _ q2 q1, q2, kp _ _ q4 q3, q4⟩) ⟨b, kp _ _ ne he, ne, kp _ _ nb hb, nb⟩⟩
/-- the disk stands behind what the law does -/
theorem DiskAt.kpB (d : DiskAt K C H p F s) (k : Kp B H H') (b : Box H B D) (n : ¬ F B) : DiskAt K C H' p F s := d.kp (fun c o f e => k c o (fun z => n (z ▸ f)) e) (.box k b)
theorem DiskAt.put (d : DiskAt K C H p F s) {l : Addr} {o v : HO} (n : ¬ F l) (h : H l = some o) (t : NoTup o = true) : DiskAt K C (upd H l v) p F s := d.kp (fun c u f e => by rw [upd_ne (fun (z : c = l) => n (by rw [← z]; exact f))]; exact e) (.put h t)
end
end Ga

set_option maxRecDepth 100000
set_option maxHeartbeats 4000000
/-! D5: a class made; refused. -/
namespace KX
open PySem PySem.Spec PyProof.Rows L2 TL Ga NdefX StX
/-- a class that the text may make -/
structure MkC (P : Program) (w : World) (K : PySem.W.Frag) (mg : Str → Option Value) (base : Heap) (C : Addr) (k : Nat) (x : Str) (ps : List Str) (sp : Sp) : Prop where
  ex : ∃ (f : Addr) (fd : FuncData), Mk K C f ∧ FnOk P w K mg base (L2.CX P w) k f fd ps sp ∧ mg x = some (.ref C) ∧ Binds K fd ps []
section
variable {X : Cx} {k n : Nat} {C : Addr} {x : Str} {ps : List Str} {sp : Sp} {e : Expr} {es : List Expr} {t : TA} {p pos : Pos} {E : L2.St → XK}
theorem pe_mk (S : MkC X.prog X.w X.K X.mg X.base C k x ps sp) (hr : Room n X.A) (hx : ∀ σ, PassesAt (L2.CX X.prog X.w) X σ (E σ)) (ha : PA X (e :: es) t) (hk : k + 1 ≤ n := by decide) (hg : Gl X x := by rfl) (hdb : (x == ("__debug__" : Str)) = false := by decide)
    (he : starEach (e :: es) X.env = (false, eval e X.env) :: starEach es X.env := by rfl) (hpl : (backTo pos (starEach es X.env)).any (·.1) = false := by rfl) : PE X (.Call (.Name x p) (e :: es) [] pos) (tMakeS C sp [] E t) := by
  obtain ⟨f, fd, M, F, g, b⟩ := S.ex
  exact pe_makeS M F (hr.mono hk) hg g b .nil hx ha hdb he hpl
end
/-- told as refused -/
def Rf (K : PySem.W.Frag) (z : Str) (H : Hp) (Q : VK) : Prop := ∀ v H', Same H H' → Dp K H' v (dRef z) → Q v H'
end KX

set_option maxRecDepth 100000
set_option maxHeartbeats 4000000
/-! D6: what the law draws for a disk. -/
namespace KX
open PySem PySem.Spec PyProof.Rows L2 TL Ga NdefX StX
/-- [e for k in range(n)], each element drawn -/
theorem lc_box {σ : L2.St} {H : Hp} {Q : VK} {B Dx : Addr} {n i : Nat} {tn te : TE} {ok : Int → Prop} (hn : EvS tn σ H (.int (n : Nat))) (hz : n ≤ 100000) (bx : Box H B Dx)
    (he : ∀ (m : Nat) (H2 : Hp) (Q2 : VK), Box H2 B Dx → (∀ y H3, ok y → Kp B H2 H3 → Box H3 B Dx → Q2 (.int y) H3) → te ((wipe σ [i]).set i (some (.int (0 + (m : Nat))))) H2 Q2)
    (k : ∀ (D : Addr) (ys : List Int) (H2 : Hp), H D = none → ys.length = n → (∀ y ∈ ys, ok y) → Kp B H H2 → Box H2 B Dx → H2 D = some (.lst (iv ys)) → Q (.ref D) H2) : tLc (iRng1 (tCons tn tNil)) (gName i) tYes te [i] σ H Q := by
  refine hn H (.refl _) _ fun H1 s1 => ⟨(n : Nat), rfl, by omega, by omega, fun D nD => ?_⟩
  rw [Int.toNat_natCast]
  have DB : D ≠ B := fun e => (bx.same s1).some.1 (by rw [← e]; exact nD)
  have DD : D ≠ Dx := fun e => (bx.same s1).some.2 (by rw [← e]; exact nD)
  refine lc_it (walk_range (lo := 0) (n := n)) (fun m H' => Kp B H H' ∧ Box H' B Dx ∧ ∃ ys : List Int, ys.length = m ∧ (∀ y ∈ ys, ok y) ∧ H' D = some (.lst (iv ys))) ⟨.same (s1.trans (same_upd nD)), (bx.same s1).put DB DD, [], rfl, (fun _ h => nomatch h), upd_same⟩ (fun _ _ _ _ => trivial) ?_ ?_
  · rintro m x H3 H4 hm ⟨k3, b3, ys, hl, ho, hD⟩ ⟨rfl, rfl⟩
    refine ⟨wipe_set _ _ _, ?_⟩
    dsimp only [tYes]
    rw [if_pos rfl]
    refine he m _ _ b3 fun y H5 oy k5 b5 => ?_
    have nDH := same_at s1 nD
    refine ⟨_, k5 _ _ DB hD, ?_, fun b o nb e => ?_, b5.put DB DD, ys ++ [y], by rw [List.length_append, hl]; rfl, fun z hz => ?_, ?_⟩
    · rw [List.length_map, hl]
      exact Nat.lt_of_lt_of_le hm (Nat.le_trans hz (by decide))
    · rw [upd_ne (ne_of_none e nDH)]
      exact k5 _ _ nb (k3 _ _ nb e)
    · rcases List.mem_append.mp hz with h | h
      · exact ho z h
      · rw [List.mem_singleton.mp h]; exact oy
    · rw [upd_same]; unfold iv; rw [List.map_append]; rfl
  · rintro H3 ⟨k3, b3, ys, hl, ho, hD⟩
    exact k D ys H3 (same_at s1 nD) hl ho k3 b3 hD
def spLTorn : Sp := fun vs H Q _ => ∃ (B Dx : Addr) (n : Nat), vs = [.ref B, .int (n : Nat)] ∧ n ≤ 100000 ∧ Box H B Dx ∧ ∀ p ts H', tornOk ts = true → ts.length ≤ n → H p = none → Kp B H H' → Box H' B Dx → H' p = some (.lst (iv ts)) → Q (.ref p) H'
theorem torn_of {ts : List Int} (h : ∀ y ∈ ts, 0 ≤ y ∧ y ≤ 32) : tornOk ts = true := List.all_eq_true.mpr fun x hx => by simpa using h x hx
theorem blk_of {ns : List Int} (hl : ns.length = 32) (h : ∀ y ∈ ns, 0 ≤ y ∧ y ≤ 255) : isBlkM ns = true := by
  unfold isBlkM
  rw [Bool.and_eq_true, decide_eq_true_eq]
  exact ⟨hl, List.all_eq_true.mpr fun x hx => by simpa using h x hx⟩
/-- what was refused is not told otherwise -/
theorem ref_ne {K : PySem.W.Frag} {σ : L2.St} {H : Hp} {Q : VK} {v : V} {z : Str} (hz : SeqAt.shaped (dRef z) = true) (d : Dp K H v (dRef z)) (k : ∀ H2, Same H H2 → Q (.bl false) H2) : tTup (tCons (tC (.str "refused")) (tCons (tC (.str z)) tNil)) σ H fun y H2 => rNeD K v y H2 Q := by
  refine ⟨by show 2 ≤ sizeLine; decide, fun t nt => ?_⟩
  refine ⟨dRef z, dRef z, Dp.same (same_upd nt) d, .tup (sqT upd_same) (.cons (.str _) (.cons (.str _) .nil)), hz, hz, ?_⟩
  rw [eqv_refl' hz]
  exact k _ (same_upd nt)
theorem ref_eq {K : PySem.W.Frag} {σ : L2.St} {H : Hp} {Q : VK} {v : V} {z : Str} (hz : SeqAt.shaped (dRef z) = true) (d : Dp K H v (dRef z)) (k : ∀ H2, Same H H2 → Q (.bl true) H2) : tTup (tCons (tC (.str "refused")) (tCons (tC (.str z)) tNil)) σ H fun y H2 => rEqD K v y H2 Q := by
  refine ⟨by show 2 ≤ sizeLine; decide, fun t nt => ?_⟩
  refine ⟨dRef z, dRef z, Dp.same (same_upd nt) d, .tup (sqT upd_same) (.cons (.str _) (.cons (.str _) .nil)), hz, hz, ?_⟩
  rw [eqv_refl' hz]
  exact k _ (same_upd nt)
section
variable {P : Program} {w : World} {K : PySem.W.Frag} {mg : Str → Option Value} {base : Heap} {C Co Cp fo : Addr} {fdo : FuncData} {ok : Option Int → Prop}
theorem ok_ltorn {f : Addr} {fd : FuncData} (F : Fun K "_law_torn" "_law_torn" s_L_torn f fd) (T : Tx mg) (H_law_draw : Cal P w K mg base 1 "_law_draw" ["box", "many"] spDraw) : FnOk P w K mg base CX0 2 f fd ["box", "many"] spLTorn := by
  refine F.ok sc_L_torn (fun vs H Q E h => ?_) (fun cdv A outer s H vs Q E hr h => ?_)
  · obtain ⟨B, D, m, rfl, _⟩ := h
    rfl
  · obtain ⟨B, D, n, rfl, hn, bx, q⟩ := h
    refine ⟨_, pss_cons (ps_set (i := 2) sc_L_torn.nd rfl (.inl rfl) (pe_cal H_law_draw hr pass0 (pa_cons (pv 0) (pa_cons pe_int pa_nil))))
      (pss_cons (ps_if (pt_cmpR op_eq (pv 2) pe_int (nomark _)) (pss_one (ps_ret (pe_lst pa_nil))) pss_nil)
      (pss_cons (ps_if (pt_cmpR op_eq (pv 2) pe_int (nomark _)) (pss_one (ps_ret (pe_op op_rep (pe_lst (pa_cons pe_int pa_nil)) (pv 1)))) pss_nil)
      (pss_cons (ps_if (pt_cmpR op_eq (pv 2) pe_int (nomark _)) (pss_one (ps_ret (pe_lc (own := [("k", 3)]) rfl sc_L_torn.nd (pi_range1 (by rfl) T.range (pa_cons (pv 1) pa_nil)) (blkOk_by (N := n_L_torn) (sc := defScope s_L_torn) (by decide +kernel)) (fun _ _ _ _ _ => pg_name (i := 3) sc_L_torn.nd rfl (Or.inl rfl)) (fun _ _ _ _ _ => pts_nil) (fun _ _ _ _ _ => (pe_op op_mul pe_int (pe_cal H_law_draw hr pass0 (pa_cons (pv 0) (pa_cons pe_int pa_nil)))))))) pss_nil)
      (pss_one (ps_ret (pe_lc (own := [("k", 3)]) rfl sc_L_torn.nd (pi_range1 (by rfl) T.range (pa_cons (pv 1) pa_nil)) (blkOk_by (N := n_L_torn) (sc := defScope s_L_torn) (by decide +kernel)) (fun _ _ _ _ _ => pg_name (i := 3) sc_L_torn.nd rfl (Or.inl rfl)) (fun _ _ _ _ _ => pts_nil) (fun _ _ _ _ _ => (pe_cal H_law_draw hr pass0 (pa_cons (pv 0) (pa_cons pe_int pa_nil)))))))))), ?_⟩
    refine ⟨_, rfl, B, D, 4, rfl, by decide, bx, fun r H1 r0 r1 k1 b1 => ?_⟩
    dsimp only [gName]
    have hB1 := bx.some
    refine sqIf (etTest (evEqI (evVar (i := 2) rfl) (evC (v := .int 0)))) (fun hb H2 s2 => ?_) (fun hb H2 s2 => ?_)
    · refine retR (evLst evNil (by simp)) fun v H3 s3 ⟨p, ev, np, hp⟩ => ?_
      subst ev
      exact q p [] H3 rfl (Nat.zero_le _) (k1.none (same_at s2 np) b1.some.1) (k1.trans (.same (s2.trans s3))) (b1.same (s2.trans s3)) hp
    refine sqIf (etTest (evEqI (evVar (i := 2) rfl) (evC (v := .int 1)))) (fun hb H3 s3 => ?_) (fun hb H3 s3 => ?_)
    · refine retR (evRep (k := n) (evLst (evCons (evC (v := .int 32)) evNil) (by simp)).nt (evVar (i := 1) rfl) (by simp; omega) hn) fun v H4 s4 ⟨p, ev, np, hp⟩ => ?_
      subst ev
      refine q p (List.replicate n 32) H4 (torn_of fun y hy => ?_) (by rw [List.length_replicate]; exact Nat.le_refl _) (k1.none (same_at (s2.trans s3) np) b1.some.1) (k1.trans (.same ((s2.trans s3).trans s4))) (b1.same ((s2.trans s3).trans s4)) ?_
      · rw [(List.mem_replicate.mp hy).2]; decide
      · rw [hp]; simp [flat_one]
    have b3 := b1.same (s2.trans s3)
    have k3 := k1.trans (.same (s2.trans s3))
    refine sqIf (etTest (evEqI (evVar (i := 2) rfl) (evC (v := .int 2)))) (fun hb H4 s4 => ?_) (fun hb H4 s4 => ?_)
    · refine lc_box (n := n) (ok := fun y => 0 ≤ y ∧ y ≤ 32) (evVar (i := 1) rfl) hn (b3.same s4) (fun m H2 Q2 b2 k2 => ?_) fun D2 ys H5 nD hl ho k5 b5 hD => ?_
      · refine ⟨_, rfl, B, D, 2, rfl, by decide, b2, fun y H5 y0 y1 k5 b5 => ⟨_, _, rfl, rfl, .inl ⟨by decide, by decide⟩, k2 _ H5 (by omega) k5 b5⟩⟩
      · exact q D2 ys H5 (torn_of ho) (by rw [hl]; exact Nat.le_refl _) (k3.none (same_at s4 nD) b3.some.1) ((k3.trans (.same s4)).trans k5) b5 hD
    · refine lc_box (n := n) (ok := fun y => 0 ≤ y ∧ y ≤ 32) (evVar (i := 1) rfl) hn (b3.same s4) (fun m H2 Q2 b2 k2 => ?_) fun D2 ys H5 nD hl ho k5 b5 hD => ?_
      · refine ⟨_, rfl, B, D, 33, rfl, by decide, b2, fun y H5 y0 y1 k5 b5 => k2 _ H5 (by omega) k5 b5⟩
      · exact q D2 ys H5 (torn_of ho) (by rw [hl]; exact Nat.le_refl _) (k3.none (same_at s4 nD) b3.some.1) ((k3.trans (.same s4)).trans k5) b5 hD
/-- [0 - 1, size][a draw] -/
theorem bad_at {K : PySem.W.Frag} {σ : L2.St} {H : Hp} {Q : VK} {B Dx : Addr} {n : Int} {i j : Nat} (hi : σ[i]? = some (some (.ref B))) (hj : σ[j]? = some (some (.int n))) (bx : Box H B Dx) (k : ∀ x H', (x = -1 ∨ x = n) → Kp B H H' → Box H' B Dx → Q (.int x) H') :
    tOp (rIxL K) (tLst (tCons (tOp (rI0 fun i j => V.int (i - j)) (tC (.int 0)) (tC (.int 1))) (tCons (tVar j) tNil))) (tCall spDraw [] E0 (tCons (tVar i) (tCons (tC (.int 2)) tNil))) σ H Q := by
  refine (evLst (evCons (evI0 (evC (v := .int 0)) (evC (v := .int 1))) (evCons (evVar hj) evNil)) (by simp)).go fun v H1 s1 ⟨l, ev, nl, hl⟩ => ?_
  subst ev
  refine draw_is (by decide) hi (bx.same s1) fun r H2 r0 r1 k2 b2 => ?_
  have lB : l ≠ B := fun e => bx.some.1 (by rw [← e]; exact nl)
  have hl2 := k2 _ _ lB hl
  have : r = 0 ∨ r = 1 := by omega
  rcases this with rfl | rfl
  · exact ⟨l, _, 0, .int (0 - 1), rfl, rfl, sqL hl2, rfl, k _ H2 (.inl rfl) ((Kp.same s1).trans k2) b2⟩
  · exact ⟨l, _, 1, .int n, rfl, rfl, sqL hl2, rfl, k _ H2 (.inr rfl) ((Kp.same s1).trans k2) b2⟩
end
end KX

set_option maxRecDepth 100000
set_option maxHeartbeats 4000000
/-! D7: what the law of a disk reads. -/
namespace KX
open PySem PySem.Spec PyProof.Rows L2 TL Ga NdefX StX
section
variable {X : Cx} {k n : Nat} {C : Addr} {x : Str} {ps : List Str} {sp : Sp} {e : Expr} {es : List Expr} {t : TA} {p pos : Pos} {E : XK}
theorem pe_mkP (S : MkC X.prog X.w X.K X.mg X.base C k x ps sp) (hr : Room n X.A) (hx : Passes (L2.CX X.prog X.w) X E) (ha : PA X (e :: es) t) (hk : k + 1 ≤ n := by decide) (hg : Gl X x := by rfl) (hdb : (x == ("__debug__" : Str)) = false := by decide)
    (he : starEach (e :: es) X.env = (false, eval e X.env) :: starEach es X.env := by rfl) (hpl : (backTo pos (starEach es X.env)).any (·.1) = false := by rfl) : PE X (.Call (.Name x p) (e :: es) [] pos) (tMake C sp [] E t) := by
  obtain ⟨f, fd, M, F, g, b⟩ := S.ex
  exact pe_make M F (hr.mono hk) hg g b .nil hx ha hdb he hpl
end
section
variable {K : PySem.W.Frag} {H : Hp} {σ : L2.St} {te ta tb : TE} {xs : List V} {D : Ends} {s1 s3 t u : TS} {i j : Int}
theorem sqCut (J : L2.St → Hp → Prop) (h : ∀ σ' H', J σ' H' → u D σ' H') (k : (∀ σ' H', J σ' H' → u D σ' H') → t { D with nx := u D } σ H) : tSeq t u D σ H := k h
/-- for g in a list just written -/
theorem sqForN {g : TG} {tl' : TE} (h : EvR tl' σ H (nL xs)) (Pv : Addr → Nat → L2.St → Hp → Prop) (h0 : ∀ p H1, Same H H1 → H p = none → H1 p = some (.lst xs) → Pv p 0 σ H1) (hst : ∀ p j σ H', j ≤ xs.length → Pv p j σ H' → SqL K H' p xs)
    (hs : ∀ p j (c : V) σ H, xs[j]? = some c → Pv p j σ H → g c σ H fun σ2 H2 => s1 { D with nx := Pv p (j + 1), ct := Pv p (j + 1), bk := s3 D } σ2 H2) (hd : ∀ p σ H, Pv p xs.length σ H → s3 D σ H) : tSeq (tFor (iList K tl') g s1) s3 D σ H := by
  refine h H (.refl _) _ fun v H1 s ⟨p, e, np, hp⟩ => ⟨p, e, ⟨_, sqL hp⟩, ?_⟩
  exact for_list (K := K) (xs := xs) (Pv p) (h0 p H1 s np hp) (hst p) (fun j x σ H hx q => hs p j x σ H hx q) (hd p)
theorem evMin2 (ha : EvS ta σ H (.int i)) (hb : EvS tb σ H (.int j)) : EvS (tCB (fun xs H Q => ∃ i j, xs = [V.int i, V.int j] ∧ Q (.int (if j < i then j else i)) H) (tCons ta (tCons tb tNil))) σ H (.int (if j < i then j else i)) := fun H1 s Q k =>
  ha H1 s _ fun H2 s2 => hb H2 (s.trans s2) _ fun H3 s3 => ⟨i, j, rfl, k H3 (s2.trans s3)⟩
theorem evMax2 (ha : EvS ta σ H (.int i)) (hb : EvS tb σ H (.int j)) : EvS (tCB (fun xs H Q => ∃ i j, xs = [V.int i, V.int j] ∧ Q (.int (if j > i then j else i)) H) (tCons ta (tCons tb tNil))) σ H (.int (if j > i then j else i)) := fun H1 s Q k =>
  ha H1 s _ fun H2 s2 => hb H2 (s.trans s2) _ fun H3 s3 => ⟨i, j, rfl, k H3 (s2.trans s3)⟩
theorem evEqZ {x y : Str} (ha : EvS ta σ H (.str x)) (hb : EvS tb σ H (.str y)) : EvS (tOp rEq ta tb) σ H (.bl (decide (x = y))) := fun H1 s Q k =>
  ha H1 s _ fun H2 s2 => hb H2 (s.trans s2) _ fun H3 s3 => ⟨rfl, by
    have : decide (V.str x = V.str y) = decide (x = y) := decide_eq_decide.mpr ⟨V.str.inj, fun z => by rw [z]⟩
    rw [this]
    exact k H3 (s2.trans s3)⟩
theorem evDk {C p : Addr} {F : Addr → Prop} {s : DkS} {m : Str} {f : DkS → Int} {i : Nat} (hi : σ[i]? = some (some (.ref p))) (dk : DiskAt K C H p F s) (hm : ∀ a b c d e : V, ([("_blocks", a), ("_waiting", b), ("_cuts", c), ("_left", d), ("_torn", e)] : List (Str × V)).lookup m = none) : EvS (tMeth C m (spDkInt K C f) [] E0 (tVar i) tNil) σ H (.int (f s)) := fun H1 s1 Q k => by
  obtain ⟨dx, aB, aW, tT, vs, ws, fi, h1, _⟩ := id dk
  exact ⟨_, hi, p, dx, _, rfl, s1 _ _ h1, hm _ _ _ _ _, p, F, s, rfl, dk.same s1, k⟩
theorem readM_len {s : DkS} (W : WfD s) {i : Nat} (h : i < s.bl.length) : (readM s i).length = 32 := by
  unfold readM
  have h0 : (s.bl.getD i []).length = 32 := W.bl _ (getD_mem h).1
  have hw : ∀ e ∈ s.wt, e.2.length = 32 := fun e he => (W.wt e he).2
  revert h0 hw
  generalize s.bl.getD i [] = b
  generalize s.wt = wt
  intro h0 hw
  induction wt generalizing b with
  | nil => exact h0
  | cons e r ih =>
    rw [List.foldl_cons]
    refine ih _ ?_ fun f hf => hw f (List.mem_cons_of_mem _ hf)
    split
    · exact hw e List.mem_cons_self
    · exact h0
theorem seqL_box {a B Dx : Addr} {H' : Hp} {ns : List Int} (hS : SqL K H a (iv ns)) (bx : Box H B Dx) (k : Kp B H H') : SqL K H' a (iv ns) := by
  obtain ⟨ds, i, h1, _⟩ := bx.ex
  rcases hS with (h | ⟨o, h⟩) | h
  · refine .inl (.inl (k _ _ (fun e => ?_) h))
    rw [e, h1] at h
    cases ns with
    | nil => cases h
    | cons x r => unfold iv at h; cases h
  · refine .inl (.inr ⟨o, k _ _ (fun e => ?_) h⟩)
    rw [e, h1] at h
    cases h
  · exact .inr h
theorem LW.fresh {C p lb lp B Dx : Addr} {F : Addr → Prop} {bl : List (List Int)} {wt : List (Nat × List Int)} {s : DkS} (w : LW H F lb lp B Dx bl wt) (d : DiskAt K C H p F s) {a : Addr} (n : H a = none) : ¬ Mut F lb lp B a :=
  Mut.mk (fun z => d.has z n) (fun z => w.hb.1 (by rw [← z]; exact n)) (fun z => w.hb.2 (by rw [← z]; exact n)) (fun z => w.bx.some.1 (by rw [← z]; exact n))
theorem LPd.at {F : Addr → Prop} {lb lp B Dx : Addr} {bl : List (List Int)} {wt : List (Nat × List Int)} {es : List Addr} (w : LW H F lb lp B Dx bl wt) (h : H lp = some (.lst (es.map V.ref))) : Paired (fun e x => ∃ b, H e = some (.lst [.int (x.1 : Nat), .ref b]) ∧ ¬ Mut F lb lp B e ∧ H b = some (.lst (iv x.2)) ∧ ¬ Mut F lb lp B b) es wt := by
  obtain ⟨es', h1, h2⟩ := w.lpd
  rw [h] at h1
  obtain rfl : es = es' := by
    injection h1 with h1
    injection h1 with h1
    exact refs_inj h1
  exact h2
end
end KX

set_option maxRecDepth 100000
set_option maxHeartbeats 1000000
/-! J7: zip of a list and a tuple. -/
namespace Ga
open PySem PySem.Spec PyProof.Rows L2 TL StX
/-- the list at a and the tuple at b, their items in new pairs -/
def ItM (K : PySem.W.Frag) (a b : Addr) (xs ys : List V) : It :=
  ⟨fun i H => i < min xs.length ys.length ∧ SqL K H a xs ∧ SqT K H b ys, YPair (fun i => xs[i]?) (fun i => ys[i]?), fun i H => i = min xs.length ys.length ∧ SqL K H a xs ∧ SqT K H b ys⟩
theorem walk_zipM {K : PySem.W.Frag} {a b : Addr} {xs ys : List V} : Walk (ItM K a b xs ys) (min xs.length ys.length) (fun H => SqL K H a xs ∧ SqT K H b ys) (YPair (fun i => xs[i]?) (fun i => ys[i]?)) :=
  ⟨fun i _ hi q => ⟨hi, q⟩, fun _ q => ⟨rfl, q⟩, fun i H v H' _ q y => y⟩
theorem turn_zipM {P : Program} {w : World} {K : PySem.W.Frag} {elts : List Expr} {kk : Nat} {tpos : Pos} {a b N : Addr} {xs ys : List V} (ha : a < N) (hb : b < N) :
    Turn P w K (.Tuple elts kk tpos) (ItM K a b xs ys) [N + 4, N + 2, N + 3, N, N + 1] (N + 4) (fun i h => IsZip h (N + 4) (N + 2) (N + 3) .none ∧ IsTupOf2 h (N + 2) (.ref N) (.ref (N + 1)) ∧ (∃ x y, IsTupOf2 h (N + 3) x y) ∧ h.IsListIter N a i ∧ h.IsTupleIter (N + 1) b i) := by
  have S : ZipSep2 (N + 4) (N + 2) (N + 3) N (N + 1) [N, a] [N + 1, b] := zip_sep2 (fun c h => by rw [List.mem_singleton.mp h]; exact ha) (fun c h => by rw [List.mem_singleton.mp h]; exact hb)
  have wr : ∀ c, c ∈ [N + 4, N + 3, N, N + 1] → c ∈ [N + 4, N + 2, N + 3, N, N + 1] := fun c h => by
    simp only [List.mem_cons, List.not_mem_nil, or_false] at h ⊢
    rcases h with h | h | h | h <;> simp [h]
  refine ⟨by simp, fun i h st c hc => ?_, fun i h h' st k => ?_, ?_, ?_, fun A i s Q E st h => wpAny_pyIter_zip st.1 h⟩
  · obtain ⟨hz, hTI, ⟨x, y, hTO⟩, ⟨o1, e1, _, d1⟩, o2, e2, _, d2⟩ := st
    have : c = N + 4 ∨ c = N + 2 ∨ c = N + 3 ∨ c = N ∨ c = N + 1 := by simpa using hc
    rcases this with rfl | rfl | rfl | rfl | rfl
    · exact ⟨_, hz, fun _ z => (by cases z)⟩
    · exact ⟨_, hTI, fun _ z => (by cases z)⟩
    · exact ⟨_, hTO, fun _ z => (by cases z)⟩
    · exact ⟨o1, e1, fun _ z => by rw [d1] at z; cases z⟩
    · exact ⟨o2, e2, fun _ z => by rw [d2] at z; cases z⟩
  · obtain ⟨hz, hTI, ⟨x, y, hTO⟩, h1, h2⟩ := st
    exact ⟨k _ (by simp) _ hz, k _ (by simp) _ hTI, ⟨x, y, k _ (by simp) _ hTO⟩, h1.at fun o => k _ (by simp) o, h2.at fun o => k _ (by simp) o⟩
  · rintro X rfl rfl rfl hc i pins s σ H E I hf st ⟨hi, hqx, hqy⟩
    obtain ⟨its, rv, p, _⟩ := I.list hqx
    obtain ⟨its2, rv2, p2, _⟩ := I.tuple hqy
    have W := WalksT.zipD2 (prog := X.prog) (w := X.w) (A := X.A) S (Draws.list (show X.A.in1.handled = none from I.ok.hd hc) N a (Nat.ne_of_lt ha) its.toArray) (Draws.tuple (show X.A.in1.handled = none from I.ok.hd hc) (N + 1) b (Nat.ne_of_lt (Nat.lt_succ_of_lt hb)) its2.toArray)
    have l1 := rv.length
    have l2 := rv2.length
    obtain ⟨x, hx⟩ : ∃ x, xs[i]? = some x := ⟨_, List.getElem?_eq_getElem (by omega)⟩
    obtain ⟨y, hy⟩ : ∃ y, ys[i]? = some y := ⟨_, List.getElem?_eq_getElem (by omega)⟩
    obtain ⟨u, hu, ru⟩ := rv.get hx
    obtain ⟨u2, hu2, ru2⟩ := rv2.get hy
    refine W.item i s _ _ (by simp; omega) ⟨st.1, st.2.1, st.2.2.1, ⟨st.2.2.2.1, p.isList⟩, ⟨st.2.2.2.2, p2⟩⟩ fun T vals h' tk ⟨v1, v2, e1, e2, ev⟩ hT hTt mid keep => ⟨_, rfl, ?_⟩
    refine W.go elts kk tpos i T _ _ _ mid fun h'' st'' keep2 => ?_
    subst ev
    obtain rfl : u = v1 := by simpa [hu] using e1
    obtain rfl : u2 = v2 := by simpa [hu2] using e2
    have hT2 : h''.IsTuple T #[u, u2] := hTt.at fun o e => keep2 T o (W.apart _ _ _ mid) e
    have new : ObjOk X.prog X.w (upd H T (.tup [x, y])) h'' T (.tup [x, y]) := ⟨by show 2 ≤ sizeLine; decide, [u, u2], .cons ru (.cons ru2 .nil), hT2⟩
    have I1 : Inv X pins σ (upd H T (.tup [x, y])) { s with heap := h'', toks := tk } :=
      I.turnedNew (t' := tk) (ch := [N + 4, N + 2, N + 3, N, N + 1]) (fun c o hb e => keep2 c o (fun z => hb (wr c z)) (keep c o (fun z => hb (wr c z)) e)) hf hT new
    refine ⟨.ref T, _, I1, rfl, ⟨T, x, y, rfl, I.hok.fresh hT, rfl, hx, hy⟩, ⟨st''.1, st''.2.1, st''.2.2.1, st''.2.2.2.1.1, st''.2.2.2.2.1⟩, fun c hcm => ?_⟩
    have hlt : c < s.heap.objs.size := by
      obtain ⟨hz, hTI, ⟨x, y, hTO⟩, ⟨o1, e1, _, d1⟩, o2, e2, _, d2⟩ := st
      have e5 : c = N + 4 ∨ c = N + 2 ∨ c = N + 3 ∨ c = N ∨ c = N + 1 := by simpa using hcm
      rcases e5 with e | e | e | e | e
      · rw [e]; exact Heap.lt_size hz
      · rw [e]; exact Heap.lt_size hTI
      · rw [e]; exact Heap.lt_size hTO
      · rw [e]; exact Heap.lt_size e1
      · rw [e]; exact Heap.lt_size e2
    rw [upd_ne (Nat.ne_of_lt (Nat.lt_of_lt_of_le hlt hT))]
    exact (hf c hcm).1
  · rintro X rfl rfl rfl hc i pins s σ H E I hf st ⟨hi, hqx, hqy⟩
    obtain ⟨its, rv, p, _⟩ := I.list hqx
    obtain ⟨its2, rv2, p2, _⟩ := I.tuple hqy
    have W := WalksT.zipD2 (prog := X.prog) (w := X.w) (A := X.A) S (Draws.list (show X.A.in1.handled = none from I.ok.hd hc) N a (Nat.ne_of_lt ha) its.toArray) (Draws.tuple (show X.A.in1.handled = none from I.ok.hd hc) (N + 1) b (Nat.ne_of_lt (Nat.lt_succ_of_lt hb)) its2.toArray)
    have l1 := rv.length
    have l2 := rv2.length
    have en : i = min its.toArray.size its2.toArray.size := by simp; omega
    subst en
    exact W.done s _ _ ⟨st.1, st.2.1, st.2.2.1, ⟨st.2.2.2.1, p.isList⟩, ⟨st.2.2.2.2, p2⟩⟩ fun h' tk keep => ⟨rfl, I.turnedL (t' := tk) (ch := [N + 4, N + 2, N + 3, N, N + 1]) (fun c o hb e => keep c o (fun z => hb (wr c z)) e) hf⟩
/-- zip(a list, a tuple) -/
def iZipM (K : PySem.W.Frag) (ta : TA) : TI := fun σ H R => ta σ H fun vs H1 => ∃ a b xs ys, vs = [.ref a, .ref b] ∧ SqL K H1 a xs ∧ SqT K H1 b ys ∧ R (ItM K a b xs ys) H1
theorem kZipM {X : Cx} {K : PySem.W.Frag} (h : X.K = K) {e e2 : Expr} {ta : TA} {p pos tpos : Pos} {elts : List Expr} {kk : Nat} (hg : Gl X "zip") (hm : X.mg "zip" = none) (ha : PA X [e, e2] ta)
    (hs : starEach [e, e2] X.env = (false, eval e X.env) :: starEach [e2] X.env := by rfl) (hpl : (backTo pos (starEach [e2] X.env)).any (·.1) = false := by rfl) :
    PI X (.Tuple elts kk tpos) (.Call (.Name "zip" p) [e, e2] [] pos) (iZipM K ta) := by
  subst h
  refine ⟨fun pins s σ H R I h => ?_⟩
  refine Call_ (ld_blt I hg hm PyProof.Rows.boot_zip (PyProof.Rows.callWith_type1 (thn (ha.run pos pins s σ H _ I h) fun us s1 ⟨vs, H1, I1, r1, q1⟩ => ?_) hs hpl))
  obtain ⟨a, b, xs, ys, ev, hqx, hqy, q⟩ := q1
  subst ev
  cases r1 with
  | cons r rr => cases rr with
  | cons r' rr =>
    cases rr
    cases r
    cases r'
    obtain ⟨its, rv, p1, _⟩ := I1.list hqx
    obtain ⟨its2, rv2, p2, _⟩ := I1.tuple hqy
    have hb : b < s1.heap.objs.size := by obtain ⟨o, ho, _⟩ := p2; exact Heap.lt_size ho
    refine PySem.zip_begins2 (begins_list a its.toArray) (begins_tuple b its2.toArray) p1.isList p2 fun h' hz hTI hTO h1 h2 hsz hk => wpAny_pyIter_zip hz ?_
    refine ⟨s1.heap.objs.size + 4, _, _, _, H1, rfl, I1.kept (t' := s1.toks) hk, turn_zipM (N := s1.heap.objs.size) p1.lt hb, ⟨hz, hTI, ⟨_, _, hTO⟩, ⟨_, h1, rfl, rfl⟩, ⟨_, h2, rfl, rfl⟩⟩, fun c hcm => ?_, q⟩
    have : c = s1.heap.objs.size + 4 ∨ c = s1.heap.objs.size + 2 ∨ c = s1.heap.objs.size + 3 ∨ c = s1.heap.objs.size ∨ c = s1.heap.objs.size + 1 := by simpa using hcm
    have hle : s1.heap.objs.size ≤ c := by
      rcases this with e | e | e | e | e
      · rw [e]; exact Nat.le_add_right _ _
      · rw [e]; exact Nat.le_add_right _ _
      · rw [e]; exact Nat.le_add_right _ _
      · rw [e]; exact Nat.le_refl _
      · rw [e]; exact Nat.le_add_right _ _
    exact I1.fpOk hle (I1.hok.fresh hle)
end Ga

set_option maxRecDepth 100000
set_option maxHeartbeats 400000
/-! D8: a disk's cut with a tuple, its count, its schedule; PowerCut. -/
namespace KX
open PySem PySem.Spec PyProof.Rows L2 TL Ga NdefX StX
/-- what the top has left of PowerCut -/
structure PcC (K : PySem.W.Frag) (mg : Str → Option Value) (Cp Co Ct : Addr) : Prop where
  gl : mg "PowerCut" = some (.ref Cp)
  gT : mg "TrunkError" = some (.ref Ct)
  ex : PySem.W.excIn K Cp [.type "ValueError", .type "Exception", .type "BaseException", .type "object"] "ValueError.__new__" = true
  kp : PySem.W.keepIn K (.ref Cp) = true
  b : PySem.W.subIn K (.ref Cp) (.type "BaseException") = some true
  t : PySem.W.typeIn K (.ref Cp) = some (.type "type")
  exm : PySem.W.exmOne K (.ref Cp) (.ref Cp) = some true
  exo : PySem.W.exmOne K (.ref Co) (.ref Cp) = some false
  ec : ExcC K Cp
  it : PySem.W.kitOne K (.ref Cp) (.ref Ct) = some true
  io : PySem.W.kitOne K (.ref Cp) (.ref Co) = some false
/-- isinstance(e, c), e the exception that the suite holds, without a dict -/
def rIs0 (K : PySem.W.Frag) (a : Addr) (cls : Value) (d : Option Addr) : List V → Hp → VK → Prop := fun xs H Q => ∃ (D : Addr) (c : V) (cv : Value) (b : Bool), cls = .ref D ∧ d = none ∧ ExcC K D ∧
  xs = [.ref a, c] ∧ (∀ u, RelV c u → u = cv) ∧ PySem.W.kitOne K (.ref D) cv = some b ∧ Q (.bl b) H
theorem call_is0 {X : Cx} {a : Addr} {oe : Obj} {cls : Value} {d : Option Addr} {pn : List (Addr × Obj)} (hz : Zc cls d oe) (hf : ∃ vs, oe.data = .fields vs) : CallR (X.suite a ((a, oe) :: pn)) (.builtin "isinstance") (rIs0 X.K a cls d) := by
  rintro pins s σ H xs us Q I r ⟨D, c, cv, b, rfl, rfl, T, rfl, hcv, e, q⟩
  cases r with
  | cons rx rr => cases rr with
  | cons rt rr =>
    cases rr
    cases rx
    obtain rfl := hcv _ rt
    obtain ⟨vs, hv⟩ := hf
    have J : PySem.W.InstAt s.heap a oe D none := ⟨(I.pin (a, oe) (List.mem_append_left _ List.mem_cons_self)).1, hz.1, by unfold PySem.W.notCls; rw [hv] <;> rfl, by rw [hz.2]; trivial⟩
    have hcl : (PySem.W.clsIn X.K D).isSome = true := by
      obtain ⟨cd, hc, _⟩ := PySem.W.any_some T.hd
      rw [hc]
      rfl
    exact PySem.W.kia_one (PySem.W.kitx_exc hcl T.hg T.hk T.hs T.ha T.hn T.ht T.hm) I.kIn J e (fun z => nomatch z) fun tk => ⟨.bl b, H, I.kept (t' := tk) fun _ _ z => z, rfl, q⟩
def spDkCutT (K : PySem.W.Frag) (C Co : Addr) : Sp := fun vs H Q E => ∃ (p a : Addr) (F : Addr → Prop) (s : DkS) (ts : List Int), vs = [.ref p, .ref a] ∧ DiskAt K C H p F s ∧ SqT K H a (iv ts) ∧ ts.length ≤ 100000 ∧
  (tornOk ts = false → Oor Co "torn" H E) ∧ (tornOk ts = true → ∀ H' F', KpF F H H' → DiskAt K C H' p F' (cutM s ts) → (∀ b, F' b → F b ∨ H b = none) → Q .non H')
def schedM (s : DkS) (k : Int) (ts : List Int) : DkS := { s with left := some k, torn := ts }
def spDkSched (K : PySem.W.Frag) (C Co : Addr) : Sp := fun vs H Q E => ∃ (p a : Addr) (F : Addr → Prop) (s : DkS) (k : Int) (ts : List Int), vs = [.ref p, .int k, .ref a] ∧ DiskAt K C H p F s ∧ SqL K H a (iv ts) ∧ ¬ F a ∧ ts.length ≤ 100000 ∧
  (k < 0 ∨ 100000 < k → Oor Co "many" H E) ∧ (0 ≤ k → k ≤ 100000 → tornOk ts = false → Oor Co "torn" H E) ∧ (0 ≤ k → k ≤ 100000 → tornOk ts = true → ∀ H', KpF F H H' → DiskAt K C H' p F (schedM s k ts) → Q .non H')
section
variable {P : Program} {w : World} {K : PySem.W.Frag} {mg : Str → Option Value} {base : Heap} {C Co Cp Ct fo : Addr} {fdo : FuncData}
theorem ok_dkcutT {f : Addr} {fd : FuncData} (F : Fun K "cut_power" "Disk.cut_power" s_Disk_cut_power f fd) (T : Tx mg) (DC : DiskC K C) (H_check_torn : CalX P w K mg base 3 "check_torn" ["torn"] (spChkT K Co)) : FnOk P w K mg base (L2.CX P w) 4 f fd ["self", "torn"] (spDkCutT K C Co) := by
  refine F.okX sc_Disk_cut_power (fun vs H Q E h => ?_) (fun cdv A outer s H vs Q E hr h => ?_)
  · obtain ⟨p, a, Fp, s, ts, rfl, _⟩ := h
    rfl
  · obtain ⟨p, a, Fp, s, ts, rfl, dk, hS, hz, q1, q2⟩ := h
    refine ⟨_, pss_cons (ps_expr (pe_calX H_check_torn hr (passes_call (takes_of rfl rfl rfl rfl) fun _ _ _ _ h => h) (pa_cons (pv 1) pa_nil)))
      (pss_cons (ps_for (passes_of rfl) rfl (kZipM (K := K) rfl (by rfl) T.zip (pa_cons (peF (K := K) rfl (pv 0)) (pa_cons (pv 1) pa_nil))) (pgT (K := K) (n := 2) rfl rfl (pgs_cons (pgT (K := K) (n := 2) rfl rfl (pgs_cons (pg_name (i := 2) sc_Disk_cut_power.nd rfl (Or.inl rfl)) (pgs_cons (pg_name (i := 3) sc_Disk_cut_power.nd rfl (Or.inl rfl)) pgs_nil))) (pgs_cons (pg_name (i := 4) sc_Disk_cut_power.nd rfl (Or.inl rfl)) pgs_nil)))
      (pss_one (ps_asg (pe_op (kCatT (K := K) rfl) (pe_slice (kSlT (K := K) rfl) (pv 3) po_none (po_some (pv 4))) (pe_slice (kSlT (K := K) rfl) (pe_ix (ixL (K := K) rfl) (peF (K := K) rfl (pv 0)) (pv 2) (fun _ _ => rfl)) (po_some (pv 4)) po_none)) (pg_sub (peF (K := K) rfl (pv 0)) (pv 2) set_list))))
      (pss_cons (ps_fld (pv 0) (pe_lst pa_nil) rfl)
      (pss_cons (ps_fld (pv 0) pe_non rfl)
      (pss_one (ps_fldaug (pv 0) pe_int in_add))))), ?_⟩
    have has := fun b => DiskAt.has (b := b) dk
    obtain ⟨dx, aB, aW, tT, vs, ws, f, h1, h2, h3, h4, h5, h6, h7⟩ := id dk
    refine ⟨_, rfl, a, ts, rfl, .inr hS, hz, fun ht H1 s1 => ?_, q1⟩
    refine nxI ?_
    have pB : p ≠ aB := fun e => by rw [e, h2] at h1; cases h1
    have hp1 := s1 _ _ h1
    refine ⟨_, rfl, p, C, dx, _, _, rfl, hp1, DC.cl, DC.n2, rfl, _, rfl, aW, a, ws, iv ts, rfl, sqL (s1 _ _ h4), s1.seqT hS, ?_⟩
    refine for_it (walk_zipM (K := K) (a := aW) (b := a) (xs := ws) (ys := iv ts)) (fun j σ H' => ∃ (o2 o3 o4 : Option V) (vs' : List V), σ = [some (.ref p), some (.ref a), o2, o3, o4] ∧ Kp aB H1 H' ∧ SameT H1 H' ∧ H' aB = some (.lst vs') ∧ Paired (BlkV K H') vs' (((s.wt.zip ts).take j).foldl tear s.bl))
      ⟨none, none, none, vs, rfl, .refl _ _, .refl _, s1 _ _ h2, h3.mono fun _ _ h => h.st s1.t⟩ (fun j σ H' _ ⟨_, _, _, _, _, k, t, _⟩ => ⟨sqL (k _ _ f.bw.symm (s1 _ _ h4)), t.sq (s1.seqT hS)⟩) ?_ ?_
    · rintro j x σ H3 H4 hj ⟨o2, o3, o4, vs', rfl, k3, t3, hB3, pr3⟩ ⟨U, c, yv, rfl, nU, rfl, ec, ey⟩
      obtain ⟨e, he, t, bv, rfl, htt, hbv⟩ := paired_get h5 _ _ ec
      obtain ⟨y, hy, rfl⟩ : ∃ y, ts[j]? = some y ∧ V.int y = yv := by
        have ey : (iv ts)[j]? = some yv := ey
        rw [List.getElem?_map] at ey
        cases h : ts[j]? with
        | none => rw [h] at ey; cases ey
        | some y => rw [h] at ey; exact ⟨y, rfl, Option.some.inj ey⟩
      have hz2 := zip_at he hy
      have sU := same_upd (o := HO.tup [.ref t, .int y]) nU
      have hyr := torn_mem ht y (List.mem_of_getElem? hy)
      have hwe := h7.wt e (List.mem_of_getElem? he)
      have hbl : (((s.wt.zip ts).take j).foldl tear s.bl).length = s.bl.length := tears_len _ _
      have t14 : SameT H1 (upd H3 U (.tup [.ref t, .int y])) := t3.trans sU.t
      refine ⟨U, _, rfl, sqT upd_same, rfl, _, _, rfl, ⟨t, _, rfl, (s1.t.trans t14).sq htt, rfl, _, _, rfl, _, _, rfl, rfl, ⟨_, _, rfl, rfl, ?_⟩⟩⟩
      refine tear_step (s := s) (aW := aW) (tT := tT) (dx := dx) (vs' := vs') (bl' := ((s.wt.zip ts).take j).foldl tear s.bl) DC ((k3.trans (.same sU)) _ _ pB hp1) (sU _ _ hB3) (pr3.mono fun _ _ h => h.st sU.t) (hbv.st (s1.t.trans t14)) (by rw [hbl]; exact hwe.1) hwe.2 ?_ hyr fun v H5 s5 hB5 hv5 => ?_
      · exact tears_mem h7.bl (fun e' he' => zip_ok h7 ht e' (List.mem_of_mem_take he')) _ (getD_mem (by rw [hbl]; exact hwe.1)).1
      · refine ⟨_, _, _, vs'.set e.1 v, rfl, ((k3.trans (.same sU)).trans (.same s5)).upd, (t14.trans s5.t).trans (.put hB5 rfl), upd_same, ?_⟩
        rw [fold_take _ _ _ hz2]
        have st5 : SameT H5 (upd H5 aB (.lst (vs'.set e.1 v))) := .put hB5 rfl
        exact paired_set (pr3.mono fun _ _ h => h.st ((sU.t.trans s5.t).trans st5)) (hv5.st st5)
    · rintro σ H3 ⟨o2, o3, o4, vs', rfl, k3, t3, hB3, pr3⟩
      have e1 : (s.wt.zip ts).take (min ws.length (iv ts).length) = s.wt.zip ts := List.take_of_length_le (by rw [List.length_zip, paired_len h5, List.length_map]; exact Nat.le_refl _)
      rw [e1] at pr3
      exact cut_end DC f (fun b => has b) s1 hp1 (s1.t.sq h6) h7 ht pB k3 t3 hB3 pr3 (fun H' F' a b c => q2 ht H' F' a b c)
theorem ok_dkcount {f : Addr} {fd : FuncData} (F : Fun K "_count" "Disk._count" s_Disk__count f fd) (DC : DiskC K C) (PC : PcC K mg Cp Co Ct) (M_Disk_cut_power : MCalX P w K mg base C 4 "cut_power" ["self", "torn"] (spDkCutT K C Co)) : FnOk P w K mg base (L2.CX P w) 5 f fd ["self"] (spDkCount K C Cp fun _ => True) := by
  refine F.okX sc_Disk__count (fun vs H Q E h => ?_) (fun cdv A outer s H vs Q E hr h => ?_)
  · obtain ⟨p, Fp, s, rfl, _⟩ := h
    rfl
  · obtain ⟨p, Fp, s, rfl, dk, _, c1, c2, c3⟩ := h
    refine ⟨_, pss_cons (ps_if (pt_cmpR op_isN (peF (K := K) rfl (pv 0)) pe_non (nomark _)) (pss_one ps_retN) pss_nil)
      (pss_cons (ps_if (pt_cmpR op_eq (peF (K := K) rfl (pv 0)) pe_int (nomark _)) (pss_cons (ps_expr (pe_mx DC.cl M_Disk_cut_power hr (passes_call (takes_of rfl rfl rfl rfl) fun _ _ _ _ h => h) (pv 0) (pa_cons (peF (K := K) rfl (pv 0)) pa_nil)))
      (pss_one (ps_raise (W := fun cls d _ H => E cls d H) rfl (takes_of rfl rfl rfl rfl) (pmk_own PySem.F.excBase_ValueError PC.ex PC.gl PC.kp (raises_own PC.b PC.t) rfl)))) pss_nil)
      (pss_one (ps_fldaug (pv 0) pe_int in_sub))), ?_⟩
    obtain ⟨dx, aB, aW, tT, vs, ws, f, h1, h2, h3, h4, h5, h6, h7⟩ := id dk
    refine ⟨_, rfl, p, C, dx, _, _, rfl, h1, DC.cl, DC.n4, rfl, rfl, _, rfl, ?_⟩
    cases hl : s.left with
    | none => exact c1 hl H Fp (.refl _ _) dk fun b z => .inl z
    | some k =>
      have k0 := h7.left k hl
      rw [hl] at h1
      refine ite2 (fun e => absurd e (by simp [leftV])) (fun _ => ?_)
      dsimp only [tNext]
      refine ⟨_, rfl, p, C, dx, _, _, rfl, h1, DC.cl, DC.n4, rfl, rfl, _, rfl, ?_⟩
      by_cases e0 : k = 0
      · subst e0
        refine ite2 (fun _ => ?_) (fun e => absurd e (by simp [leftV]))
        refine ⟨_, rfl, p, dx, _, rfl, h1, rfl, _, rfl, p, C, dx, _, _, rfl, h1, DC.cl, DC.n5, rfl, p, tT, Fp, s, s.torn, rfl, dk, h6, h7.torn.2, (fun h => by rw [h7.torn.1] at h; cases h), fun _ H' F' kp d fr => ?_⟩
        exact c3 hl H' F' kp d fr
      · refine ite2 (fun e => absurd e (by simp [leftV, e0])) (fun _ => ?_)
        dsimp only [tNext]
        refine ⟨_, rfl, p, C, dx, _, _, rfl, h1, DC.cl, DC.n4, rfl, _, _, rfl, rfl, dx, _, h1, by simp, ?_⟩
        have pB : p ≠ aB := fun e => by rw [e, h2] at h1; cases h1
        have pW : p ≠ aW := fun e => by rw [e, h4] at h1; cases h1
        have st : SameT H (upd H p (.ins C dx (putF "_left" (.int (k - 1)) [("_blocks", .ref aB), ("_waiting", .ref aW), ("_cuts", .int s.cuts), ("_left", leftV (some k)), ("_torn", .ref tT)]))) := .put h1 rfl
        refine c2 k hl (by omega) _ Fp (fun b o n e => ?_) ⟨dx, aB, aW, tT, vs, ws, f, by rw [upd_same]; rfl, by rw [upd_ne pB.symm]; exact h2, h3.mono fun _ _ q => q.st st, by rw [upd_ne pW.symm]; exact h4, h5.mono fun _ _ q => q.st st, st.sq h6, ?_⟩ fun b z => .inl z
        · rw [upd_ne (fun z => n (by rw [z]; exact (f.iff p).mpr (.inl rfl)))]
          exact e
        · exact h7.left' fun k' h => by cases h; omega
theorem ok_dksched {f : Addr} {fd : FuncData} (F : Fun K "schedule_cut" "Disk.schedule_cut" s_Disk_schedule_cut f fd) (T : Tx mg) (DC : DiskC K C) (O : OorC P w K mg base Co fo fdo) (H_check_torn : CalX P w K mg base 3 "check_torn" ["torn"] (spChkT K Co)) : FnOk P w K mg base (L2.CX P w) 4 f fd ["self", "many", "torn"] (spDkSched K C Co) := by
  obtain ⟨t_MANY_MOST, m_MANY_MOST⟩ := T.c_MANY_MOST
  refine F.okX sc_Disk_schedule_cut (fun vs H Q E h => ?_) (fun cdv A outer s H vs Q E hr h => ?_)
  · obtain ⟨p, a, Fp, s, k, ts, rfl, _⟩ := h
    rfl
  · obtain ⟨p, a, Fp, s, k, ts, rfl, dk, hS, na, hz, q1, q2, q3⟩ := h
    refine ⟨_, pss_cons (ps_if (pt_not (pt_chain op_le op_le pe_int (pv 1) (pe_glob (v := .int 100000) rfl m_MANY_MOST ⟨_, rfl⟩))) (pss_one (ps_raise (W := fun cls d _ H => E cls d H) rfl (takes_of rfl rfl rfl rfl) (pmk_oex O.ex O.init O.fn O.ok (hr.mono (by decide)) O.binds .nil pass0 (by rfl) O.gl (pa_cons pe_str pa_nil)))) pss_nil)
      (pss_cons (ps_expr (pe_calX H_check_torn hr (passes_call (takes_of rfl rfl rfl rfl) fun _ _ _ _ h => h) (pa_cons (pv 2) pa_nil)))
      (pss_cons (ps_fld (pv 0) (pv 1) rfl)
      (pss_one (ps_fld (pv 0) (pe_callTy (callTup (K := K) rfl) (by rfl) T.tuple (by decide +kernel) (pa_cons (pv 2) pa_nil)) rfl)))), ?_⟩
    obtain ⟨dx, aB, aW, tT, vs, ws, f, h1, h2, h3, h4, h5, h6, h7⟩ := id dk
    refine sqIf (etNot (etTest (evChain (f := fun i j => decide (i ≤ j)) (g := fun i j => decide (i ≤ j)) (evC (v := .int 0)) (evVar (i := 1) rfl) (evC (v := .int 100000))))) (fun hb H1 s1 => ?_) (fun hb H1 s1 => ?_)
    · have hb := bnot_t hb
      refine raise_oor (by decide +kernel) fun H3 e3 s3 n3 h3 => q1 ?_ H3 e3 (s1.trans s3) (same_at s1 n3) h3
      simp only [Bool.and_eq_false_iff, decide_eq_false_iff_not] at hb
      omega
    have hb := bnot_f hb
    simp only [Bool.and_eq_true, decide_eq_true_eq] at hb
    refine ⟨_, rfl, a, ts, rfl, .inl (s1.seq hS), hz, fun ht' H2 s2 => ?_, fun ht H3 e3 s3 n3 h3 => q2 hb.1 hb.2 ht H3 e3 (s1.trans s3) (same_at s1 n3) h3⟩
    refine nxI ?_
    have s12 := s1.trans s2
    have hp2 := s12 _ _ h1
    have pB : p ≠ aB := fun e => by rw [e, h2] at h1; cases h1
    have pW : p ≠ aW := fun e => by rw [e, h4] at h1; cases h1
    refine sqFld rfl hp2 DC.cl DC.n4 (by simp) ((evVar (i := 1) rfl).r (R := fun _ v _ => v = .int k) fun _ _ _ _ => rfl) fun v H3 s3 ev => ?_
    subst ev
    generalize hHa : upd H3 p (.ins C dx (putF "_left" (.int k) [("_blocks", .ref aB), ("_waiting", .ref aW), ("_cuts", .int s.cuts), ("_left", leftV s.left), ("_torn", .ref tT)])) = Ha
    have hpa : Ha p = some (.ins C dx [("_blocks", .ref aB), ("_waiting", .ref aW), ("_cuts", .int s.cuts), ("_left", .int k), ("_torn", .ref tT)]) := by rw [← hHa, upd_same]; rfl
    have ka : Kp p H Ha := hHa ▸ (Kp.same (s12.trans s3)).upd
    have sta : SameT H Ha := (s12.trans s3).t.trans (hHa ▸ .put (s3 _ _ hp2) rfl)
    have ap : a ≠ p := fun e => na (by rw [e]; exact (f.iff p).mpr (.inl rfl))
    have hSa : SqL K Ha a (iv ts) := ka.seqL ap hS
    refine oneFld rfl hpa DC.cl DC.n5 (by simp) (R := sT K (iv ts)) (fun H4 s4 Q4 k4 => ⟨_, rfl, a, iv ts, rfl, .inl ⟨s4.seq hSa, fun t nt => k4 _ _ (same_upd nt) ⟨t, rfl, sqT upd_same⟩⟩⟩) fun v H4 s4 ⟨t, ev, ht⟩ => ?_
    subst ev
    have stb : SameT H4 (upd H4 p (.ins C dx (putF "_torn" (.ref t) [("_blocks", .ref aB), ("_waiting", .ref aW), ("_cuts", .int s.cuts), ("_left", .int k), ("_torn", .ref tT)]))) := .put (s4 _ _ hpa) rfl
    have kb : Kp p H (upd H4 p (.ins C dx (putF "_torn" (.ref t) [("_blocks", .ref aB), ("_waiting", .ref aW), ("_cuts", .int s.cuts), ("_left", .int k), ("_torn", .ref tT)]))) := ka.trans (Kp.same s4).upd
    have st := (sta.trans s4.t).trans stb
    refine q3 hb.1 hb.2 ht' _ (fun b o n e => kb b o (fun z => n (by rw [z]; exact (f.iff p).mpr (.inl rfl))) e) ⟨dx, aB, aW, t, vs, ws, f, by rw [upd_same]; rfl, kb _ _ pB.symm h2, h3.mono fun _ _ q => q.st st, kb _ _ pW.symm h4, h5.mono fun _ _ q => q.st st, stb.sq ht, ⟨h7.len, h7.bl, h7.wt, h7.few, ⟨ht', hz⟩, fun k' h => by cases h; exact hb.1⟩⟩
end
end KX

set_option maxRecDepth 100000
set_option maxHeartbeats 1000000
/-! D9: the law's schedule and steps (k42). -/
namespace KX
open PySem PySem.Spec PyProof.Rows L2 TL Ga NdefX StX
/-- o.m(..) in a try -/
def tMethE (C : Addr) (m : Str) (sp : Sp) (E : L2.St → XK) (ta : TE) (t : TA) : TE := fun σ H Q => ta σ H fun x H1 => ∃ a dx fs, x = .ref a ∧ H1 a = some (.ins C dx fs) ∧ fs.lookup m = none ∧ t σ H1 fun vs H2 => sp (x :: vs) H2 Q (E σ)
section
variable {X : Cx} {k n : Nat} {C : Addr} {m : Str} {ps : List Str} {sp : Sp} {e o : Expr} {es : List Expr} {t : TA} {ta : TE} {p pos apos : Pos} {E : L2.St → XK}
theorem pe_mxS {pl : Sem Bool} (c : Cls X.K C) (S : MCalX X.prog X.w X.K X.mg X.base C k m ps sp) (hr : Room n X.A) (hx : ∀ σ, PassesAt (L2.CX X.prog X.w) X σ (E σ)) (he : PE X o ta) (ha : PA X (e :: es) t) (hk : k ≤ n := by decide)
    (hst : starEach (e :: es) X.env = (false, eval e X.env) :: starEach es X.env := by rfl) (hpl : (backTo pos (starEach es X.env)).any (·.1) = false := by rfl)
    (ht : eval (.Call (.Attribute o m apos) (e :: es) [] pos) X.env = (do
      let ov ← eval o X.env
      standAt apos.atName
      let (f, first) ← holding [ov] (getMethod ov m pl)
      callWith pos f first (backTo pos (starEach (e :: es) X.env)) (backToKw pos (keywordEach [] X.env))) := by rfl) : PE X (.Call (.Attribute o m apos) (e :: es) [] pos) (tMethE C m sp E ta t) := by
  obtain ⟨f, fd, F, hm, b⟩ := S.ex
  refine ⟨fun pins s σ H Q I h => PySem.W.methodCall_KW (pl := pl) (thn (he.run pins s σ H _ I h) fun u s1 ⟨x, H1, I1, rx, a, dx, fs, ex, ea, l, q⟩ => ?_) ht⟩
  subst ex
  obtain rfl : u = Value.ref a := rx
  refine getmeth_ok I1 ea c hm l (PySem.W.callWith_K (first := [.ref a]) (h₀ := X.base) I.ok.mod.kin hm.kp (thn (ha.run pos pins s1 σ H1 _ I1 q) fun us s2 ⟨vs, H2, I2, r, q2⟩ => ⟨I2.kIn, ?_⟩) hst hpl)
  exact run_fnS (us := .ref a :: us) (vs := .ref a :: vs) F (hr.mono hk) b (hx σ) I2 (.cons rfl r) q2
end
def spLSched (K : PySem.W.Frag) (C : Addr) : Sp := fun vs H Q _ => ∃ (p a : Addr) (F : Addr → Prop) (s : DkS) (k : Int) (ts : List Int), vs = [.ref p, .int k, .ref a] ∧ DiskAt K C H p F s ∧ SqL K H a (iv ts) ∧ ¬ F a ∧ ts.length ≤ 100000 ∧
  (k < 0 ∨ 100000 < k → Rf K "many" H Q) ∧ (0 ≤ k → k ≤ 100000 → tornOk ts = false → Rf K "torn" H Q) ∧ (0 ≤ k → k ≤ 100000 → tornOk ts = true → ∀ H', KpF F H H' → DiskAt K C H' p F (schedM s k ts) → Q .non H')
def spDoRaw (K : PySem.W.Frag) (C Co Cp : Addr) : Sp := fun vs H Q E => ∃ (p a : Addr) (i : Int), vs = [.ref p, .int i, .ref a] ∧ ((i = -1 ∧ spDkFlush K C Cp (fun _ => True) [.ref p] H Q E) ∨ (i ≠ -1 ∧ spDkWrite K C Co Cp (fun _ => True) [.ref p, .int i, .ref a] H Q E))
def StepL (K : PySem.W.Frag) (C : Addr) (H : Hp) (p : Addr) (F : Addr → Prop) (s s' : DkS) (Q : VK) : Prop :=
  (s.left = none → ∀ H' F', KpF F H H' → DiskAt K C H' p F' s' → (∀ b, F' b → F b ∨ H b = none) → Q .non H') ∧
  (∀ k, s.left = some k → 0 < k → ∀ H' F', KpF F H H' → DiskAt K C H' p F' { s' with left := some (k - 1) } → (∀ b, F' b → F b ∨ H b = none) → Q .non H') ∧
  (s.left = some 0 → ∀ H' F' v, KpF F H H' → DiskAt K C H' p F' (cutM s s.torn) → (∀ b, F' b → F b ∨ H b = none) → Dp K H' v (dRef "cut") → Q v H')
def spLDo (K : PySem.W.Frag) (C : Addr) : Sp := fun vs H Q _ => ∃ (p a : Addr) (F : Addr → Prop) (s : DkS) (i : Int) (ns : List Int), vs = [.ref p, .int i, .ref a] ∧ DiskAt K C H p F s ∧ SqL K H a (iv ns) ∧ ¬ F a ∧ ns.length ≤ 100000 ∧ s.wt.length < 100000 ∧
  (i = -1 → StepL K C H p F s (flushM s) Q) ∧ (i ≠ -1 → i < 0 ∨ (s.bl.length : Nat) ≤ i → Rf K "at" H Q) ∧ (0 ≤ i → i < (s.bl.length : Nat) → isBlkM ns = false → Rf K "block" H Q) ∧ (0 ≤ i → i < (s.bl.length : Nat) → isBlkM ns = true → StepL K C H p F s (writeM s i.toNat ns) Q)
section
variable {P : Program} {w : World} {K : PySem.W.Frag} {mg : Str → Option Value} {base : Heap} {C Co Cp Ct : Addr}
theorem ok_lsched {f : Addr} {fd : FuncData} (F : Fun K "_law_schedule" "_law_schedule" s_L_schedule f fd) (DC : DiskC K C) (R : CatC K mg Co) (M_Disk_schedule_cut : MCalX P w K mg base C 4 "schedule_cut" ["self", "many", "torn"] (spDkSched K C Co)) : FnOk P w K mg base CX0 5 f fd ["disk", "count", "torn"] (spLSched K C) := by
  have g_OutOfRange := R.gl
  refine F.ok sc_L_schedule (fun vs H Q E h => ?_) (fun cdv A outer s H vs Q E hr h => ?_)
  · obtain ⟨p, a, Fp, s, k, ts, rfl, _⟩ := h
    rfl
  · obtain ⟨p, a, Fp, s, k, ts, rfl, dk, hS, na, hz, q1, q2, q3⟩ := h
    refine ⟨_, pss_one (ps_try_as (i := 3) rfl rfl sc_L_schedule.nd rfl rfl ⟨rfl, by decide, .inl g_OutOfRange⟩ takes0 (fun W pn xe tk _ => (pss_one (ps_ret (pe_mxS DC.cl M_Disk_schedule_cut hr (fun σ => passAt tk σ) (pv 0) (pa_cons (pv 1) (pa_cons (pv 2) pa_nil))))))
        (fun a oe cls d pn hz hf => (pss_one (ps_ret (pe_tup (pa_cons pe_str (pa_cons (pe_xf R.xf R.nm hz hf (pv 3)) pa_nil))))))), ?_⟩
    obtain ⟨dx, aB, aW, tT, vs, ws, fi, h1, _⟩ := id dk
    refine ⟨_, rfl, p, dx, _, rfl, h1, rfl, _, rfl, _, rfl, p, a, Fp, s, k, ts, rfl, dk, hS, na, hz, fun hb H1 e s1 ne he => ?_, fun k0 k1 hb H1 e s1 ne he => ?_, fun k0 k1 ht H' kp d => q3 k0 k1 ht H' kp d⟩
    · refine ⟨true, R.exm, fun _ a na => ?_, fun z => nomatch z⟩
      refine ⟨_, rfl, rfl, rfl, e, _, .str "many", rfl, he, rfl, by show 2 ≤ sizeLine; decide, fun t nt => ?_⟩
      exact q1 hb _ _ (s1.trans (same_upd nt)) (.tup (sqT upd_same) (.cons (.str _) (.cons (.str _) .nil)))
    · refine ⟨true, R.exm, fun _ a na => ?_, fun z => nomatch z⟩
      refine ⟨_, rfl, rfl, rfl, e, _, .str "torn", rfl, he, rfl, by show 2 ≤ sizeLine; decide, fun t nt => ?_⟩
      exact q2 k0 k1 hb _ _ (s1.trans (same_upd nt)) (.tup (sqT upd_same) (.cons (.str _) (.cons (.str _) .nil)))
theorem ok_ldoraw {f : Addr} {fd : FuncData} (F : Fun K "_law_do_raw" "_law_do_raw" s_L_do_raw f fd) (DC : DiskC K C) (M_Disk_write : MCalX P w K mg base C 6 "write" ["self", "at", "block"] (spDkWrite K C Co Cp fun _ => True)) (M_Disk_flush : MCalX P w K mg base C 6 "flush" ["self"] (spDkFlush K C Cp fun _ => True)) :
    FnOk P w K mg base (L2.CX P w) 7 f fd ["disk", "at", "block"] (spDoRaw K C Co Cp) := by
  refine F.okX sc_L_do_raw (fun vs H Q E h => ?_) (fun cdv A outer s H vs Q E hr h => ?_)
  · obtain ⟨p, a, i, rfl, _⟩ := h
    rfl
  · obtain ⟨p, a, i, rfl, h⟩ := h
    refine ⟨_, pss_cons (ps_if (pt_cmpR op_eq (pv 1) (pe_op op_sub pe_int pe_int) (nomark _)) (pss_one (ps_ret (pe_mx0 DC.cl M_Disk_flush hr (passes_call (takes_of rfl rfl rfl rfl) fun _ _ _ _ h => h) (pv 0)))) pss_nil)
      (pss_one (ps_ret (pe_mx DC.cl M_Disk_write hr (passes_call (takes_of rfl rfl rfl rfl) fun _ _ _ _ h => h) (pv 0) (pa_cons (pv 1) (pa_cons (pv 2) pa_nil))))), ?_⟩
    rcases h with ⟨rfl, h⟩ | ⟨ne, h⟩
    · obtain ⟨p', Fp, s, e, dk, r⟩ := id h
      obtain ⟨dx, aB, aW, tT, vs, ws, fi, h1, _⟩ := id dk
      obtain rfl : p = p' := by injection e with e _; exact V.ref.inj e
      exact ⟨_, rfl, _, _, rfl, rfl, rfl, true, rfl, _, rfl, p, dx, _, rfl, h1, rfl, h⟩
    · obtain ⟨p', Fp, s, i', a', ns, e, dk, r⟩ := id h
      obtain ⟨dx, aB, aW, tT, vs, ws, fi, h1, _⟩ := id dk
      obtain rfl : p = p' := by injection e with e _; exact V.ref.inj e
      refine ⟨_, rfl, _, _, rfl, rfl, rfl, _, rfl, ite2 (fun e => absurd (show i = -1 from V.int.inj (of_decide_eq_true e)) ne) fun _ => ?_⟩
      dsimp only [tNext]
      exact ⟨_, rfl, p, dx, _, rfl, h1, rfl, _, rfl, _, rfl, h⟩
theorem ok_ldo {f : Addr} {fd : FuncData} (F : Fun K "_law_do" "_law_do" s_L_do f fd) (T : Tx mg) (R : CatC K mg Co) (PC : PcC K mg Cp Co Ct) (H_law_do_raw : CalX P w K mg base 7 "_law_do_raw" ["disk", "at", "block"] (spDoRaw K C Co Cp)) : FnOk P w K mg base CX0 8 f fd ["disk", "at", "block"] (spLDo K C) := by
  have g_OutOfRange := R.gl
  refine F.ok sc_L_do (fun vs H Q E h => ?_) (fun cdv A outer s H vs Q E hr h => ?_)
  · obtain ⟨p, a, Fp, s, i, ns, rfl, _⟩ := h
    rfl
  · obtain ⟨p, a, Fp, s, i, ns, rfl, dk, hS, na, hz, hw, q1, q2, q3, q4⟩ := h
    refine ⟨_, pss_cons (ps_try_cl rfl rfl sc_L_do.nd takes0 (fun W pn xe tk _ => (pss_one (ps_set (i := 3) sc_L_do.nd rfl (.inl rfl) (pe_calXS H_law_do_raw hr (fun σ => passAt tk σ) (pa_cons (pv 0) (pa_cons (pv 1) (pa_cons (pv 2) pa_nil)))))))
        (.named (i := 4) ⟨rfl, by decide, .inl PC.gl⟩ rfl rfl (fun a oe cls d pn hz hf => pss_cons (ps_if (PW.pt (pw_and (pt_val (pe_callB (call_is0 hz hf) (by rfl) T.isinstance (by decide +kernel) (pa_cons (pv 4) (pa_cons (pe_glob (v := .ref Ct) rfl PC.gT rfl) pa_nil))))
            (pw_and1 (pt_not (pt_val (pe_callB (call_is0 hz hf) (by rfl) T.isinstance (by decide +kernel) (pa_cons (pv 4) (pa_cons (pe_glob (v := .ref Co) rfl R.gl rfl) pa_nil)))))))) (pss_one (ps_ret (pe_tup (pa_cons pe_str (pa_cons pe_str pa_nil))))) pss_nil) pss_never)
        (.named (i := 4) ⟨rfl, by decide, .inl g_OutOfRange⟩ rfl rfl (fun a oe cls d pn hz hf => (pss_one (ps_ret (pe_tup (pa_cons pe_str (pa_cons (pe_xf R.xf R.nm hz hf (pv 4)) pa_nil)))))) .nil)))
      (pss_one (ps_ret (pv 3))), ?_⟩
    refine ⟨_, rfl, _, rfl, _, rfl, p, a, i, rfl, ?_⟩
    by_cases hi : i = -1
    · refine .inl ⟨hi, p, Fp, s, rfl, dk, trivial, fun hl H' F' k d f => ⟨_, rfl, (q1 hi).1 hl H' F' k d f⟩, fun k hk h0 H' F' kp d f => ⟨_, rfl, (q1 hi).2.1 k hk h0 H' F' kp d f⟩, fun hl H' F' kp d f => ?_⟩
      refine ⟨true, PC.exm, fun _ x nx => ?_, fun z => nomatch z⟩
      refine ⟨_, rfl, Cp, _, .ref Ct, true, rfl, rfl, PC.ec, rfl, (fun _ z => z), PC.it, true, rfl, _, rfl, Cp, _, .ref Co, false, rfl, rfl, PC.ec, rfl, (fun _ z => z), PC.io, false, rfl, ?_⟩
      refine ⟨by show 2 ≤ sizeLine; decide, fun t nt => ?_⟩
      exact (q1 hi).2.2 hl _ F' _ (kp.trans (.same (same_upd nt))) (d.same (same_upd nt)) f (.tup (sqT upd_same) (.cons (.str _) (.cons (.str _) .nil)))
    · refine .inr ⟨hi, p, Fp, s, i, a, ns, rfl, dk, hS, na, hz, trivial, hw, fun hb H1 e s1 ne he => ?_, fun i0 i1 hb H1 e s1 ne he => ?_, fun i0 i1 hb => ⟨fun hl H' F' k d f => ⟨_, rfl, (q4 i0 i1 hb).1 hl H' F' k d f⟩, fun k hk h0 H' F' kp d f => ⟨_, rfl, (q4 i0 i1 hb).2.1 k hk h0 H' F' kp d f⟩, fun hl H' F' kp d f => ?_⟩⟩
      · refine ⟨false, PC.exo, (fun z => nomatch z), fun _ => ⟨true, R.exm, fun _ x nx => ?_, fun z => nomatch z⟩⟩
        refine ⟨_, rfl, rfl, rfl, e, _, .str "at", rfl, he, rfl, by show 2 ≤ sizeLine; decide, fun t nt => ?_⟩
        exact q2 hi hb _ _ (s1.trans (same_upd nt)) (.tup (sqT upd_same) (.cons (.str _) (.cons (.str _) .nil)))
      · refine ⟨false, PC.exo, (fun z => nomatch z), fun _ => ⟨true, R.exm, fun _ x nx => ?_, fun z => nomatch z⟩⟩
        refine ⟨_, rfl, rfl, rfl, e, _, .str "block", rfl, he, rfl, by show 2 ≤ sizeLine; decide, fun t nt => ?_⟩
        exact q3 i0 i1 hb _ _ (s1.trans (same_upd nt)) (.tup (sqT upd_same) (.cons (.str _) (.cons (.str _) .nil)))
      · refine ⟨true, PC.exm, fun _ x nx => ?_, fun z => nomatch z⟩
        refine ⟨_, rfl, Cp, _, .ref Ct, true, rfl, rfl, PC.ec, rfl, (fun _ z => z), PC.it, true, rfl, _, rfl, Cp, _, .ref Co, false, rfl, rfl, PC.ec, rfl, (fun _ z => z), PC.io, false, rfl, ?_⟩
        refine ⟨by show 2 ≤ sizeLine; decide, fun t nt => ?_⟩
        exact (q4 i0 i1 hb).2.2 hl _ F' _ (kp.trans (.same (same_upd nt))) (d.same (same_upd nt)) f (.tup (sqT upd_same) (.cons (.str _) (.cons (.str _) .nil)))
end
end KX

set_option maxRecDepth 100000
set_option maxHeartbeats 2000000
/-! K42: the law k42. -/
namespace KX
open PySem PySem.Spec PyProof.Rows L2 TL Ga NdefX StX
def leftI : Option Int → Int
  | none => 0 - 1
  | some k => k
def downL : Option Int → Option Int
  | none => none
  | some k => some (k - 1)
/-- what the law knows of the disk -/
structure KS (K : PySem.W.Frag) (C : Addr) (H : Hp) (p lb lp B Dx tn : Addr) (F : Addr → Prop) (s : DkS) : Prop where
  dk : DiskAt K C H p F s
  lw : LW H F lb lp B Dx s.bl s.wt
  ht : H tn = some (.lst (iv s.torn))
  nt : ¬ Mut F lb lp B tn
section
variable {K : PySem.W.Frag} {C : Addr} {H H' : Hp} {p lb lp B Dx tn : Addr} {F : Addr → Prop} {s : DkS} {σ : L2.St} {Q : VK}
theorem KS.same (k : KS K C H p lb lp B Dx tn F s) (e : Same H H') : KS K C H' p lb lp B Dx tn F s := ⟨k.dk.same e, k.lw.same e, e _ _ k.ht, k.nt⟩
theorem KS.kpB (k : KS K C H p lb lp B Dx tn F s) (e : Kp B H H') (b : Box H' B Dx) : KS K C H' p lb lp B Dx tn F s := ⟨k.dk.kpB e k.lw.bx k.lw.nF.2.2.1, k.lw.kpB e b, e _ _ (Mut.no k.nt).2.2.2 k.ht, k.nt⟩
theorem KS.fresh (k : KS K C H p lb lp B Dx tn F s) {a : Addr} (n : H a = none) : ¬ Mut F lb lp B a := LW.fresh k.lw k.dk n
theorem KS.op {F' : Addr → Prop} (k : KS K C H p lb lp B Dx tn F s) (e : KpF F H H') (f : ∀ b, F' b → F b ∨ H b = none) : LW H' F' lb lp B Dx s.bl s.wt ∧ H' tn = some (.lst (iv s.torn)) ∧ ¬ Mut F' lb lp B tn :=
  ⟨k.lw.op e f, e _ _ (Mut.no k.nt).1 k.ht, Mut.mk (fun z => (f _ z).elim (Mut.no k.nt).1 fun h => by rw [k.ht] at h; cases h) (Mut.no k.nt).2.1 (Mut.no k.nt).2.2.1 (Mut.no k.nt).2.2.2⟩
theorem oneIfAnd {ta tb : TT} {s1 s2 : TS} {D : Ends} {b1 : Bool} (J : Hp → Prop) (h1 : EvT ta σ H b1) (hJ : ∀ H', J H' → s2 D σ H') (h0 : b1 = false → ∀ H1, Same H H1 → J H1) (k : b1 = true → (∀ H', J H' → s2 D σ H') → ∀ H1, Same H H1 → tb σ H1 fun b H2 => if b = true then s1 D σ H2 else s2 D σ H2) : tIfS (tAnd ta tb) s1 s2 D σ H :=
  h1 H (.refl _) _ fun H2 e => by
    cases b1 with
    | true => exact k rfl hJ H2 e
    | false => exact hJ _ (h0 rfl H2 e)
theorem sqAsgL {te : TE} {i : Nat} {s3 : TS} {D : Ends} (h : te σ H fun v H1 => s3 D (σ.set i (some v)) H1) : tSeq (tAsg te (gName i)) s3 D σ H := h
/-- [0 - 1, n][a draw] -/
theorem bad_many {n : Int} {i : Nat} (hi : σ[i]? = some (some (.ref B))) (bx : Box H B Dx) (k : ∀ x H', (x = -1 ∨ x = n) → Kp B H H' → Box H' B Dx → Q (.int x) H') :
    tOp (rIxL K) (tLst (tCons (tOp (rI0 fun i j => V.int (i - j)) (tC (.int 0)) (tC (.int 1))) (tCons (tC (.int n)) tNil))) (tCall spDraw [] E0 (tCons (tVar i) (tCons (tC (.int 2)) tNil))) σ H Q := by
  refine (evLst (evCons (evI0 (evC (v := .int 0)) (evC (v := .int 1))) (evCons (evC (v := .int n)) evNil)) (by simp)).go fun v H1 s1 ⟨l, ev, nl, hl⟩ => ?_
  subst ev
  refine draw_is (by decide) hi (bx.same s1) fun r H2 r0 r1 k2 b2 => ?_
  have lB : l ≠ B := fun e => bx.some.1 (by rw [← e]; exact nl)
  have hl2 := k2 _ _ lB hl
  have : r = 0 ∨ r = 1 := by omega
  rcases this with rfl | rfl
  · exact ⟨l, _, 0, .int (0 - 1), rfl, rfl, sqL hl2, rfl, k _ H2 (.inl rfl) ((Kp.same s1).trans k2) b2⟩
  · exact ⟨l, _, 1, .int n, rfl, rfl, sqL hl2, rfl, k _ H2 (.inr rfl) ((Kp.same s1).trans k2) b2⟩
theorem rows_dp {H : Hp} {D : Addr} {as : List Addr} {rs : List (List Int)} (h : H D = some (.lst (as.map V.ref))) (pr : Paired (fun a ns => H a = some (.lst (iv ns))) as rs) : Dp K H (.ref D) (dRs rs) := by
  refine .lst (sqL h) ?_
  clear h
  induction pr with
  | nil => exact .nil
  | cons a _ ih => exact .cons (.lst (sqL a) (dp_ints _)) ih
end
section
variable {P : Program} {w : World} {K : PySem.W.Frag} {mg : Str → Option Value} {base : Heap} {C Co Cp : Addr}
theorem ok_law {f : Addr} {fd : FuncData} (F : Fun K "law" "law" sLaw f fd) (T : Tx mg) (DC : DiskC K C) (H_law_digits : Cal P w K mg base 2 "_law_digits" ["script", "first", "last"] (spDigits K)) (H_law_draw : Cal P w K mg base 1 "_law_draw" ["box", "many"] spDraw)
    (MD : MkC P w K mg base C 3 "Disk" ["self", "blocks"] (spDkInit K C Co)) (M_Disk_read : MCalX P w K mg base C 4 "read" ["self", "at"] (spDkRead K C Co)) (M_Disk_cut_power : MCalX P w K mg base C 4 "cut_power" ["self", "torn"] (spDkCut K C Co fun H a ts => SqL K H a (iv ts)))
    (M_Disk_pending_count : MCal P w K mg base C 1 "pending_count" ["self"] (spDkInt K C fun s => (s.wt.length : Nat))) (M_Disk_cut_count : MCal P w K mg base C 1 "cut_count" ["self"] (spDkInt K C fun s => s.cuts))
    (H_law_torn : Cal P w K mg base 2 "_law_torn" ["box", "many"] spLTorn) (H_law_schedule : Cal P w K mg base 5 "_law_schedule" ["disk", "count", "torn"] (spLSched K C)) (H_law_do : Cal P w K mg base 8 "_law_do" ["disk", "at", "block"] (spLDo K C)) : FnG P w K mg base CX0 9 f fd ["script"] (spLaw K) := by
  refine okG F scLaw (fun vs H Q E h => ?_) (fun cdv A hg outer s H vs Q E hr h => ?_)
  · obtain ⟨a, ns, rfl, _⟩ := h
    rfl
  · obtain ⟨a, ns, rfl, hS, hlen, q⟩ := h
    refine ⟨_, pss_cons (ps_set (i := 1) scLaw.nd rfl (.inr rfl) (pe_lst (pa_cons (pe_cal H_law_digits hr pass0 (pa_cons (pv 0) (pa_cons pe_int (pa_cons pe_int pa_nil)))) (pa_cons pe_int pa_nil))))
      (pss_cons (ps_set (i := 2) scLaw.nd rfl (.inl rfl) (pe_op op_add pe_int (pe_cal H_law_draw hr pass0 (pa_cons (pv 1) (pa_cons pe_int pa_nil)))))
      (pss_cons (ps_set (i := 3) scLaw.nd rfl (.inr rfl) (pe_mkP MD hr (E := fun _ _ _ => False) passF (pa_cons (pv 2) pa_nil)))
      (pss_cons (ps_setLc (i := 4) (own := [("k", 5)]) rfl scLaw.nd rfl rfl (sw_true rfl rfl rfl (by decide +kernel)) (pi_range1 (by rfl) T.range (pa_cons (pv 2) pa_nil)) (blkOk_by (N := nLaw) (sc := defScope sLaw) (by decide +kernel)) (fun _ _ _ _ _ => pg_name (i := 5) scLaw.nd rfl (Or.inl rfl)) (fun _ _ _ _ _ => pts_nil) (fun _ _ _ _ _ => (pe_op op_rep (pe_lst (pa_cons pe_int pa_nil)) pe_int)))
      (pss_cons (ps_set (i := 6) scLaw.nd rfl (.inl rfl) (pe_lst pa_nil))
      (pss_cons (ps_set (i := 7) scLaw.nd rfl (.inl rfl) (pe_op op_sub pe_int pe_int))
      (pss_cons (ps_set (i := 8) scLaw.nd rfl (.inl rfl) (pe_lst pa_nil))
      (pss_cons (ps_set (i := 9) scLaw.nd rfl (.inl rfl) pe_int)
      (pss_cons (ps_for PassesOwn.never rfl (pi_range1 (by rfl) T.range (pa_cons pe_int pa_nil)) (pg_name (i := 10) scLaw.nd rfl (Or.inl rfl))
      (pss_cons (ps_set (i := 11) scLaw.nd rfl (.inl rfl) (pe_cal H_law_draw hr pass0 (pa_cons (pv 1) (pa_cons pe_int pa_nil))))
      (pss_cons (ps_if (PW.pt (pw_or (pt_cmpR op_eq (pv 11) pe_int (nomark _)) (pw_or1 (pt_cmpR op_eq (pv 10) pe_int (nomark _))))) (pss_cons (ps_set (i := 7) scLaw.nd rfl (.inl rfl) (pe_cal H_law_draw hr pass0 (pa_cons (pv 1) (pa_cons pe_int pa_nil))))
      (pss_cons (ps_set (i := 8) scLaw.nd rfl (.inl rfl) (pe_cal H_law_torn hr pass0 (pa_cons (pv 1) (pa_cons pe_int pa_nil))))
      (pss_cons (ps_set (i := 12) scLaw.nd rfl (.inl rfl) (pe_callTy (kList (K := K) rfl) (by rfl) T.list (by decide +kernel) (pa_cons (pv 8) pa_nil)))
      (pss_cons (ps_if (PW.pt (pw_or (pt_cmpR op_notN (pe_cal H_law_schedule hr pass0 (pa_cons (pv 3) (pa_cons pe_int (pa_cons (pe_lst (pa_cons pe_int pa_nil)) pa_nil)))) pe_non (nomark _)) (pw_or1 (pt_cmpR op_notN (pe_cal H_law_schedule hr pass0 (pa_cons (pv 3) (pa_cons (pv 7) (pa_cons (pv 12) pa_nil)))) pe_non (nomark _))))) (pss_one (ps_ret pe_bl)) pss_nil)
      (pss_cons (ps_expr (pe_bm PySem.F.plainAttrs_list PySem.F.slot_list_append PySem.F.type_list_append mt_append (pv 12) (pa_cons pe_int pa_nil)))
      (pss_cons (ps_if (pt_cmpR (kNe (K := K) rfl hr.units) (pe_cal H_law_schedule hr pass0 (pa_cons (pv 3) (pa_cons (pe_ix (ixL (K := K) rfl) (pe_lst (pa_cons (pe_op op_sub pe_int pe_int) (pa_cons pe_int pa_nil))) (pe_cal H_law_draw hr pass0 (pa_cons (pv 1) (pa_cons pe_int pa_nil))) (fun _ _ => rfl)) (pa_cons (pe_lst (pa_cons pe_int pa_nil)) pa_nil)))) (pe_tup (pa_cons pe_str (pa_cons pe_str pa_nil))) (nomark _)) (pss_one (ps_ret pe_bl)) pss_nil)
      (pss_one (ps_if (pt_cmpR (kNe (K := K) rfl hr.units) (pe_cal H_law_schedule hr pass0 (pa_cons (pv 3) (pa_cons pe_int (pa_cons (pe_lst (pa_cons pe_int pa_nil)) pa_nil)))) (pe_tup (pa_cons pe_str (pa_cons pe_str pa_nil))) (nomark _)) (pss_one (ps_ret pe_bl)) pss_nil)))))))) (pss_one (ps_if (PW.pt (pw_and (pt_cmpR op_eq (pv 11) pe_int (nomark _)) (pw_and1 (pt_cmpR op_eq (pe_cal H_law_draw hr pass0 (pa_cons (pv 1) (pa_cons pe_int pa_nil))) pe_int (nomark _))))) (pss_cons (ps_expr (pe_mx DC.cl M_Disk_cut_power hr (E := fun _ _ _ => False) passF (pv 3) (pa_cons (pe_lst pa_nil) pa_nil)))
      (pss_cons (ps_set (i := 6) scLaw.nd rfl (.inl rfl) (pe_lst pa_nil))
      (pss_cons (ps_set (i := 7) scLaw.nd rfl (.inl rfl) (pe_op op_sub pe_int pe_int))
      (pss_one (ps_set (i := 9) scLaw.nd rfl (.inl rfl) (pe_op op_add (pv 9) pe_int)))))) (pss_one (ps_if (pt_cmpR op_eq (pv 11) pe_int (nomark _)) (pss_one (ps_if (PW.pt (pw_or (pt_cmpR (kNe (K := K) rfl hr.units) (pe_cal H_law_do hr pass0 (pa_cons (pv 3) (pa_cons (pv 2) (pa_cons (pe_op op_rep (pe_lst (pa_cons pe_int pa_nil)) pe_int) pa_nil)))) (pe_tup (pa_cons pe_str (pa_cons pe_str pa_nil))) (nomark _)) (pw_or1 (pt_cmpR (kNe (K := K) rfl hr.units) (pe_cal H_law_do hr pass0 (pa_cons (pv 3) (pa_cons pe_int (pa_cons (pe_op op_rep (pe_lst (pa_cons pe_int pa_nil)) pe_int) pa_nil)))) (pe_tup (pa_cons pe_str (pa_cons pe_str pa_nil))) (nomark _))))) (pss_one (ps_ret pe_bl)) pss_nil)) (pss_cons (ps_set (i := 13) scLaw.nd rfl (.inl rfl) (pe_op op_sub pe_int pe_int))
      (pss_cons (ps_if (pt_cmpR op_gt (pv 11) pe_int (nomark _)) (pss_one (ps_set (i := 13) scLaw.nd rfl (.inl rfl) (pe_cal H_law_draw hr pass0 (pa_cons (pv 1) (pa_cons (pv 2) pa_nil))))) pss_nil)
      (pss_cons (ps_setLc (i := 14) (own := [("k", 5)]) rfl scLaw.nd rfl rfl (sw_true rfl rfl rfl (by decide +kernel)) (pi_range1 (by rfl) T.range (pa_cons pe_int pa_nil)) (blkOk_by (N := nLaw) (sc := defScope sLaw) (by decide +kernel)) (fun _ _ _ _ _ => pg_name (i := 5) scLaw.nd rfl (Or.inl rfl)) (fun _ _ _ _ _ => pts_nil) (fun _ _ _ _ _ => (pe_op op_add pe_int (pe_cal H_law_draw hr pass0 (pa_cons (pv 1) (pa_cons pe_int pa_nil))))))
      (pss_cons (ps_set (i := 15) scLaw.nd rfl (.inl rfl) (pe_cal H_law_do hr pass0 (pa_cons (pv 3) (pa_cons (pv 13) (pa_cons (pe_callTy (kList (K := K) rfl) (by rfl) T.list (by decide +kernel) (pa_cons (pv 14) pa_nil)) pa_nil)))))
      (pss_one (ps_if (pt_cmpR op_eq (pv 7) pe_int (nomark _)) (pss_cons (ps_if (pt_cmpR (kNe (K := K) rfl hr.units) (pv 15) (pe_tup (pa_cons pe_str (pa_cons pe_str pa_nil))) (nomark _)) (pss_one (ps_ret pe_bl)) pss_nil)
      (pss_cons (ps_for PassesOwn.never rfl (pi_range1 (by rfl) T.range (pa_cons (pe_callB (call_min2 rfl) (by rfl) T.min (by decide +kernel) (pa_cons (pe_callB (kLen (K := K) rfl) (by rfl) T.len PySem.boot_len (pa_cons (pv 8) pa_nil)) (pa_cons (pe_callB (kLen (K := K) rfl) (by rfl) T.len PySem.boot_len (pa_cons (pv 6) pa_nil)) pa_nil))) pa_nil)) (pg_name (i := 5) scLaw.nd rfl (Or.inl rfl))
      (pss_cons (ps_set (i := 16) scLaw.nd rfl (.inl rfl) (pe_ix (ixL (K := K) rfl) (pe_ix (ixL (K := K) rfl) (pv 6) (pv 5) (fun _ _ => rfl)) pe_int (fun _ _ => rfl)))
      (pss_one (ps_asg (pe_op op_cat (pe_slice (kSlL (K := K) rfl) (pe_ix (ixL (K := K) rfl) (pe_ix (ixL (K := K) rfl) (pv 6) (pv 5) (fun _ _ => rfl)) pe_int (fun _ _ => rfl)) po_none (po_some (pe_ix (ixL (K := K) rfl) (pv 8) (pv 5) (fun _ _ => rfl)))) (pe_slice (kSlL (K := K) rfl) (pe_ix (ixL (K := K) rfl) (pv 4) (pv 16) (fun _ _ => rfl)) (po_some (pe_ix (ixL (K := K) rfl) (pv 8) (pv 5) (fun _ _ => rfl))) po_none)) (pg_sub (pv 4) (pv 16) set_list)))))
      (pss_cons (ps_set (i := 6) scLaw.nd rfl (.inl rfl) (pe_lst pa_nil))
      (pss_cons (ps_set (i := 7) scLaw.nd rfl (.inl rfl) (pe_op op_sub pe_int pe_int))
      (pss_one (ps_set (i := 9) scLaw.nd rfl (.inl rfl) (pe_op op_add (pv 9) pe_int))))))) (pss_cons (ps_if (pt_cmpR op_notN (pv 15) pe_non (nomark _)) (pss_one (ps_ret pe_bl)) pss_nil)
      (pss_cons (ps_if (pt_cmpR op_gt (pv 7) pe_int (nomark _)) (pss_one (ps_set (i := 7) scLaw.nd rfl (.inl rfl) (pe_op op_sub (pv 7) pe_int))) pss_nil)
      (pss_one (ps_if (pt_cmpR op_eq (pv 13) (pe_op op_sub pe_int pe_int) (nomark _)) (pss_cons (ps_for PassesOwn.never rfl (piL (K := K) rfl (pv 6)) (pg_name (i := 17) scLaw.nd rfl (Or.inl rfl))
      (pss_one (ps_asg (pe_ix (ixL (K := K) rfl) (pv 17) pe_int (fun _ _ => rfl)) (pg_sub (pv 4) (pe_ix (ixL (K := K) rfl) (pv 17) pe_int (fun _ _ => rfl)) set_list))))
      (pss_one (ps_set (i := 6) scLaw.nd rfl (.inl rfl) (pe_lst pa_nil)))) (pss_one (ps_expr (pe_bm PySem.F.plainAttrs_list PySem.F.slot_list_append PySem.F.type_list_append mt_append (pv 6) (pa_cons (pe_lst (pa_cons (pv 13) (pa_cons (pv 14) pa_nil))) pa_nil)))))))))))))))))))
      (pss_one (ps_if (PW.pt (pw_or (pt_cmpR op_ne (pe_mc0 DC.cl M_Disk_pending_count hr (pv 3)) (pe_callB (kLen (K := K) rfl) (by rfl) T.len PySem.boot_len (pa_cons (pv 6) pa_nil)) (nomark _)) (pw_or1 (pt_cmpR op_ne (pe_mc0 DC.cl M_Disk_cut_count hr (pv 3)) (pv 9) (nomark _))))) (pss_one (ps_ret pe_bl)) pss_nil)))))
      (pss_cons (ps_expr (pe_mx DC.cl M_Disk_cut_power hr (E := fun _ _ _ => False) passF (pv 3) (pa_cons (pe_lst pa_nil) pa_nil)))
      (pss_one (ps_ret (pe_cmpR (kEq (K := K) rfl hr.units) (pe_lc (own := [("at", 13)]) rfl scLaw.nd (pi_range1 (by rfl) T.range (pa_cons (pv 2) pa_nil)) (blkOk_by (N := nLaw) (sc := defScope sLaw) (by decide +kernel)) (fun _ _ _ _ _ => pg_name (i := 13) scLaw.nd rfl (Or.inl rfl)) (fun _ _ _ _ _ => pts_nil) (fun _ _ _ _ _ => (pe_mx DC.cl M_Disk_read hr (E := fun _ _ _ => False) passF (pv 3) (pa_cons (pv 13) pa_nil)))) (pv 4) (nomark _))))))))))))), ?_⟩
    refine ⟨_, rfl, a, ns, 0, 63, rfl, hS, by decide, by decide, by decide, by decide, fun Dx H1 ds s1 nD hD => ?_⟩
    refine ⟨by show 2 ≤ _; decide, fun B nB => ?_⟩
    have neDB : Dx ≠ B := ne_of_none hD nB
    have bx0 : Box (upd H1 B (.lst [.ref Dx, .int 0])) B Dx := ⟨ds, 0, upd_same, by decide, neDB, by rw [upd_ne neDB]; exact hD⟩
    generalize upd H1 B (.lst [.ref Dx, .int 0]) = H2 at bx0 ⊢
    dsimp only [gName]
    -- the size
    refine ⟨_, rfl, B, Dx, 4, rfl, by decide, bx0, fun r1 H3 r10 r11 k3 bx4 => ⟨_, _, rfl, rfl, ?_⟩⟩
    obtain ⟨m0, rfl⟩ : ∃ m0 : Nat, r1 = (m0 : Nat) := ⟨r1.toNat, by omega⟩
    dsimp only [gName]
    obtain ⟨m, hm, m8, m400⟩ : ∃ m : Nat, (8 : Int) + (m0 : Nat) = (m : Nat) ∧ 8 ≤ m ∧ m ≤ 400 := ⟨8 + m0, by omega, by omega, by omega⟩
    rw [hm]
    clear hm
    -- the disk
    refine ⟨_, rfl, fun p dx np ndx nedx => ⟨p, dx, (m : Nat), rfl, upd_same, fun _ _ H5 F0 kp5 dk5 fr5 => ⟨rfl, ?_⟩, fun h => by omega⟩⟩
    have s5 := same_made np ndx kp5
    have bx5 := bx4.same s5
    rw [Int.toNat_natCast] at dk5
    have frH : ∀ b, F0 b → H3 b = none := fun b z => (fr5 b z).elim (fun h => by rw [h]; exact np) fun h => same_at (same_upd2 np ndx) h
    have nFB : ¬ F0 B ∧ ¬ F0 Dx := ⟨fun z => bx4.some.1 (frH _ z), fun z => bx4.some.2 (frH _ z)⟩
    dsimp only [gName]
    -- the law's own blocks
    refine sqSetR (evLcNew (n := m) (xs := fun _ => iv zero32) (evVar (i := 2) rfl) (by omega) fun j hj H6 s6 => ?_) fun v H6 s6 ⟨lb, as, ev, nlb, hlb, hfr, pr⟩ => ?_
    · refine (evRep (k := 32) (evLst (evCons (evC (v := .int 0)) evNil) (by simp)).nt (evC (v := .int 32)) (by simp) (by decide)).w fun _ _ _ h => ?_
      exact h
    subst ev
    refine sqSetR (evLst evNil (by simp)) fun v H7 s7 ⟨lp, ev, nlp, hlp⟩ => ?_
    subst ev
    refine sqSet (evI0 (evC (v := .int 0)) (evC (v := .int 1))) fun H8 s8 => ?_
    refine sqSetR (evLst evNil (by simp)) fun v H9 s9 ⟨tn, ev, ntn, htn⟩ => ?_
    subst ev
    refine sqSet (evC (v := .int 0)) fun H10 s10 => ?_
    have hal : as.length = m := by rw [paired_len pr, List.length_range]
    have s68 := s7.trans s8
    have s58 := s6.trans s68
    have dk8 : DiskAt K C H8 p F0 (dk0 m) := dk5.same s58
    have lbp : lb ≠ lp := fun e => by rw [← e, hlb] at nlp; cases nlp
    have lw8 : LW H8 F0 lb lp B Dx (dk0 m).bl (dk0 m).wt := by
      have nB5 : ∀ {x : Addr}, H5 x = none → x ≠ B ∧ Dx ≠ x := fun n => ⟨bx5.ne n, (bx5.neD n).symm⟩
      refine ⟨⟨as, s68 _ _ hlb, paired_rep hal fun x hx => ?_⟩, ⟨[], s8 _ _ hlp, .nil⟩, bx5.same s58, ⟨fun z => dk5.has z nlb, fun z => dk5.has z (same_at s6 nlp), nFB.1, nFB.2⟩, lbp, (nB5 nlb).1, (nB5 (same_at s6 nlp)).1, (nB5 nlb).2, (nB5 (same_at s6 nlp)).2⟩
      obtain ⟨i, hi⟩ := List.getElem?_of_mem hx
      obtain ⟨_, _, hx6⟩ := paired_get pr _ _ hi
      have hx2 := hfr x hx
      exact ⟨s68 _ _ hx6, Mut.mk (fun z => dk5.has z hx2.2) hx2.1 (fun e => by rw [e, nlp] at hx6; cases hx6) (nB5 hx2.2).1⟩
    have ks10 : KS K C H10 p lb lp B Dx tn F0 (dk0 m) := ⟨dk8.same (s9.trans s10), lw8.same (s9.trans s10), s10 _ _ htn, LW.fresh lw8 dk8 ntn⟩
    refine sqForRg (n := 40) (evC (v := .int 40)) (by decide)
      (fun j σ H' => ∃ (lp tn : Addr) (F : Addr → Prop) (s : DkS) (o5 o10 o11 o12 o13 o14 o15 o16 o17 : Option V), σ = [some (.ref a), some (.ref B), some (.int (m : Nat)), some (.ref p), some (.ref lb), o5, some (.ref lp), some (.int (leftI s.left)), some (.ref tn), some (.int s.cuts), o10, o11, o12, o13, o14, o15, o16, o17] ∧
        KS K C H' p lb lp B Dx tn F s ∧ s.bl.length = m ∧ s.wt.length ≤ j)
      (fun H11 s11 => ⟨lp, tn, F0, dk0 m, _, _, _, _, _, _, _, _, _, rfl, ks10.same s11, List.length_replicate .., Nat.le_refl _⟩) ?_ ?_
    · rintro j σ H9 hj ⟨lp, tn, F1, s, o5, o10, o11, o12, o13, o14, o15, o16, o17, rfl, ks, hm, hw⟩
      refine ⟨_, rfl, B, Dx, 10, rfl, by decide, ks.lw.bx, fun kd H10 kd0 kd8 k10 b10 => ?_⟩
      dsimp only [gName]
      have ks10 := ks.kpB k10 b10
      refine sqCut (fun σ H' => ∃ (lp tn : Addr) (F : Addr → Prop) (s : DkS) (o5 o11 o12 o13 o14 o15 o16 o17 : Option V), σ = [some (.ref a), some (.ref B), some (.int (m : Nat)), some (.ref p), some (.ref lb), o5, some (.ref lp), some (.int (leftI s.left)), some (.ref tn), some (.int s.cuts), some (.int (0 + (j : Nat))), o11, o12, o13, o14, o15, o16, o17] ∧
        KS K C H' p lb lp B Dx tn F s ∧ s.bl.length = m ∧ s.wt.length ≤ j + 1) ?_ fun go => ?_
      rotate_left
      · refine oneIf (etOr (etTest (evEqI (evVar (i := 11) rfl) (evC (v := .int 0)))) (etTest (evEqI (evVar (i := 10) rfl) (evC (v := .int 0))))) (fun _ H11 s11 => ?_) (fun _ H11 s11 => ?_)
        · -- a schedule
          have ks11 := ks10.same s11
          refine ⟨_, rfl, B, Dx, 21, rfl, by decide, ks11.lw.bx, fun r H12 r0 r1 k12 b12 => ?_⟩
          dsimp only [gName]
          have ks12 := ks11.kpB k12 b12
          refine ⟨_, rfl, B, Dx, 9, rfl, by decide, b12, fun pt ts H13 hok hlt npt k13 b13 hpt => ?_⟩
          dsimp only [gName]
          have ks13 := ks12.kpB k13 b13
          have nMpt := ks12.fresh npt
          refine ⟨_, rfl, pt, iv ts, rfl, .inl (sqL hpt), fun hd nhd => ?_⟩
          have s14 := same_upd (o := HO.lst (iv ts)) nhd
          have hhd14 : upd H13 hd (.lst (iv ts)) hd = some (.lst (iv ts)) := upd_same
          generalize upd H13 hd (.lst (iv ts)) = H14 at s14 hhd14 ⊢
          dsimp only [gName]
          have ks14 := ks13.same s14
          have nMhd := ks13.fresh nhd
          refine ⟨_, rfl, by show 1 ≤ sizeLine; decide, fun l nl => ?_⟩
          have s15 := same_upd (o := HO.lst [.int 32]) nl
          have hl15 : upd H14 l (.lst [.int 32]) l = some (.lst (iv [32])) := upd_same
          generalize upd H14 l (.lst [.int 32]) = H15 at s15 hl15 ⊢
          have ks15 := ks14.same s15
          refine ⟨p, l, F1, s, 100000, [32], rfl, ks15.dk, sqL hl15, (Mut.no (ks14.fresh nl)).1, by decide, (fun h => by omega), (fun _ _ h => nomatch h), fun _ _ _ H16 k16 d16 => ⟨rfl, _, rfl, ite2 (fun e => absurd e (by decide)) fun _ => ?_⟩⟩
          have hhd16 := k16 _ _ (Mut.no nMhd).1 (s15 _ _ hhd14)
          refine ⟨_, rfl, _, rfl, _, rfl, p, hd, F1, schedM s 100000 [32], r, ts, rfl, d16, sqL hhd16, (Mut.no nMhd).1, by omega, (fun h => by omega), (fun _ _ h => by rw [hok] at h; cases h), fun _ _ _ H17 k17 d17 => ⟨rfl, _, rfl, ite2 (fun e => absurd e (by decide)) fun _ => ?_⟩⟩
          dsimp only [tNext]
          have hhd17 := k17 _ _ (Mut.no nMhd).1 hhd16
          -- handed.append(1)
          refine ⟨_, rfl, .inl ⟨rfl, _, sqL hhd17⟩, hd, iv ts, _, rfl, rfl, hhd17, ?_, ?_⟩
          · rw [List.length_map]
            exact Nat.lt_of_le_of_lt hlt (by decide)
          have kk : KpF F1 H13 (upd H17 hd (.lst (iv ts ++ [.int 1]))) := (((KpF.same (s14.trans s15)).trans k16).trans k17).new nhd
          have d18 : DiskAt K C (upd H17 hd (.lst (iv ts ++ [.int 1]))) p F1 (schedM s r ts) := DiskAt.put (s := schedM s r ts) d17 (Mut.no nMhd).1 hhd17 rfl
          have lw18 : LW (upd H17 hd (.lst (iv ts ++ [.int 1]))) F1 lb lp B Dx s.bl s.wt := ks13.lw.op kk fun b z => .inl z
          have hpt18 : upd H17 hd (.lst (iv ts ++ [.int 1])) pt = some (.lst (iv ts)) := kk _ _ (Mut.no nMpt).1 hpt
          generalize upd H17 hd (.lst (iv ts ++ [.int 1])) = H18 at d18 lw18 hpt18 kk ⊢
          have ks18 : KS K C H18 p lb lp B Dx pt F1 (schedM s r ts) := ⟨d18, lw18, hpt18, nMpt⟩
          have sMa : SeqAt.shaped (dRef "many") = true := by decide +kernel
          have sTo : SeqAt.shaped (dRef "torn") = true := by decide +kernel
          refine nxI ?_
          refine ⟨_, rfl, bad_many (n := 100001) rfl ks18.lw.bx fun y H19 hy k19 b19 => ?_⟩
          have ks19 := ks18.kpB k19 b19
          refine ⟨by show 1 ≤ sizeLine; decide, fun l2 nl2 => ?_⟩
          have s20 := same_upd (o := HO.lst [.int 33]) nl2
          have hl20 : upd H19 l2 (.lst [.int 33]) l2 = some (.lst (iv [33])) := upd_same
          generalize upd H19 l2 (.lst [.int 33]) = H20 at s20 hl20 ⊢
          refine ⟨p, l2, F1, schedM s r ts, y, [33], rfl, (ks19.same s20).dk, sqL hl20, (Mut.no (ks19.fresh nl2)).1, by decide, (fun h v H21 s21 d21 => ?_), (fun _ _ _ => by omega), fun _ _ h => nomatch h⟩
          refine ref_ne sMa d21 fun H22 s22 => ⟨false, rfl, ?_⟩
          have ks22 := ks19.same (s20.trans (s21.trans s22))
          refine ⟨_, rfl, by show 1 ≤ sizeLine; decide, fun l3 nl3 => ?_⟩
          have s23 := same_upd (o := HO.lst [.int 33]) nl3
          have hl23 : upd H22 l3 (.lst [.int 33]) l3 = some (.lst (iv [33])) := upd_same
          generalize upd H22 l3 (.lst [.int 33]) = H23 at s23 hl23 ⊢
          refine ⟨p, l3, F1, schedM s r ts, 3, [33], rfl, (ks22.same s23).dk, sqL hl23, (Mut.no (ks22.fresh nl3)).1, by decide, (fun h => by omega), (fun _ _ _ v H24 s24 d24 => ?_), fun _ _ h => nomatch h⟩
          refine ref_ne sTo d24 fun H25 s25 => ⟨false, rfl, ?_⟩
          exact go _ _ ⟨lp, pt, F1, schedM s r ts, _, _, _, _, _, _, _, _, rfl, ks22.same (s23.trans (s24.trans s25)), hm, Nat.le_succ_of_le hw⟩
        refine oneIfAnd (fun H' => KS K C H' p lb lp B Dx tn F1 s) (etTest (evEqI (evVar (i := 11) rfl) (evC (v := .int 1)))) (fun H12 ks12 => ?_) (fun _ H12 s12 => ks10.same (s11.trans s12)) (fun _ els H12 s12 => ?_)
        rotate_left
        · -- a cut
          have ks12 := ks10.same (s11.trans s12)
          refine ⟨_, rfl, B, Dx, 4, rfl, by decide, ks12.lw.bx, fun r H13 r0 r1 k13 b13 => ⟨rfl, _, rfl, ite2 (fun _ => ?_) (fun _ => ?_)⟩⟩
          · have ks13 := ks12.kpB k13 b13
            obtain ⟨dx', aB, aW, tT, vs, ws, fi, h1, _⟩ := id ks13.dk
            refine ⟨_, rfl, p, dx', _, rfl, h1, rfl, by show 0 ≤ sizeLine; decide, fun l nl => ?_⟩
            have s14 := same_upd (o := HO.lst []) nl
            have hl14 : upd H13 l (.lst []) l = some (.lst (iv [])) := upd_same
            generalize upd H13 l (.lst []) = H14 at s14 hl14 ⊢
            have ks14 := ks13.same s14
            refine ⟨p, l, F1, s, [], rfl, ks14.dk, sqL hl14, (Mut.no (ks13.fresh nl)).1, Nat.zero_le _, (fun h => nomatch h), fun _ H15 F2 k15 d15 f15 => ?_⟩
            obtain ⟨lw15, ht15, nt15⟩ := ks14.op k15 f15
            have ecut : (cutM s []).bl = s.bl := by show (s.wt.zip []).foldl tear s.bl = s.bl; rw [List.zip_nil_right]; rfl
            refine nxI ?_
            refine sqSetR (evLst evNil (by simp)) fun v H16 s16 ⟨l', ev, nl', hl16⟩ => ?_
            subst ev
            refine sqSet (evI0 (evC (v := .int 0)) (evC (v := .int 1))) fun H17 s17 => ?_
            refine (evI0 (evVar (i := 9) rfl) (evC (v := .int 1))).go fun H18 s18 => ?_
            have nl'' : ¬ F2 l' := fun z => d15.has z nl'
            have s68 := s17.trans s18
            refine go _ _ ⟨l', tn, F2, cutM s [], _, _, _, _, _, _, _, _, rfl, ⟨d15.same (s16.trans s68), ?_, (s16.trans s68) _ _ ht15, Mut.mk (Mut.no nt15).1 (Mut.no nt15).2.1 (fun e => by rw [← e, ht15] at nl'; cases nl') (Mut.no nt15).2.2.2⟩, by rw [ecut, hm], Nat.zero_le _⟩
            rw [ecut]
            exact (lw15.clear s16 nl' hl16 nl'').same s68
          · exact els _ (ks12.kpB k13 b13)
        refine oneIf (etTest (evEqI (evVar (i := 11) rfl) (evC (v := .int 2)))) (fun _ H13 s13 => ?_) (fun _ H13 s13 => ?_)
        · -- wrong ones
          have ks13 := ks12.same s13
          have w8 := ks13.dk.wf.len
          have sAt : SeqAt.shaped (dRef "at") = true := by decide +kernel
          have sBl : SeqAt.shaped (dRef "block") = true := by decide +kernel
          refine ⟨_, rfl, _, rfl, ?_⟩
          refine (evRep (k := 32) (evLst (evCons (evC (v := .int 0)) evNil) (by simp)).nt (evC (v := .int 32)) (by simp) (by decide)).go fun v H14 s14 ⟨l, ev, nl, hl⟩ => ?_
          subst ev
          refine ⟨p, l, F1, s, (m : Nat), List.replicate 32 0, rfl, (ks13.same s14).dk, sqL hl, (Mut.no (ks13.fresh nl)).1, by decide, by omega, (fun h => by omega), (fun _ _ v H15 s15 d15 => ?_), (fun _ h => by rw [hm] at h; omega), fun _ h => by rw [hm] at h; omega⟩
          refine ref_ne sAt d15 fun H16 s16 => ⟨false, rfl, ?_⟩
          have ks16 := (ks13.same s14).same (s15.trans s16)
          refine ⟨_, rfl, ?_⟩
          refine (evRep (k := 31) (evLst (evCons (evC (v := .int 0)) evNil) (by simp)).nt (evC (v := .int 31)) (by simp) (by decide)).go fun v H17 s17 ⟨l2, ev, nl2, hl2⟩ => ?_
          subst ev
          refine ⟨p, l2, F1, s, 0, List.replicate 31 0, rfl, (ks16.same s17).dk, sqL hl2, (Mut.no (ks16.fresh nl2)).1, by decide, by omega, (fun h => by omega), (fun _ h => by omega), (fun _ _ _ v H18 s18 d18 => ?_), fun _ _ h => nomatch h⟩
          refine ref_ne sBl d18 fun H19 s19 => ⟨false, rfl, ?_⟩
          exact go _ _ ⟨lp, tn, F1, s, _, _, _, _, _, _, _, _, rfl, (ks16.same s17).same (s18.trans s19), hm, Nat.le_succ_of_le hw⟩
        · -- a step
          have ks13 := ks12.same s13
          refine sqSet (evI0 (evC (v := .int 0)) (evC (v := .int 1))) fun H14 s14 => ?_
          have ks14 := ks13.same s14
          refine sqCut (fun σ H' => ∃ i : Int, (i = -1 ∨ (0 ≤ i ∧ i < (m : Nat))) ∧ σ = [some (.ref a), some (.ref B), some (.int (m : Nat)), some (.ref p), some (.ref lb), o5, some (.ref lp), some (.int (leftI s.left)), some (.ref tn), some (.int s.cuts), some (.int (0 + (j : Nat))), some (.int kd), o12, some (.int i), o14, o15, o16, o17] ∧ KS K C H' p lb lp B Dx tn F1 s) ?_ fun go2 => ?_
          rotate_left
          · refine ⟨_, rfl, _, _, rfl, rfl, _, rfl, ite2 (fun _ => ?_) (fun _ => ?_)⟩
            · refine ⟨_, rfl, _, rfl, B, Dx, (m : Nat), rfl, by omega, ks14.lw.bx, fun r H15 r0 r1 k15 b15 => ?_⟩
              exact go2 _ _ ⟨r, .inr ⟨r0, r1⟩, rfl, ks14.kpB k15 b15⟩
            · exact go2 _ _ ⟨-1, .inl rfl, rfl, ks14⟩
          clear ks14 ks13 ks12 ks10
          rintro σ H15 ⟨i, hi, rfl, ks15⟩
          refine sqAsgL ?_
          dsimp only [List.map]
          refine lc_box (n := 32) (ok := fun y => 0 ≤ y ∧ y ≤ 255) (evC (v := .int 32)) (by decide) ks15.lw.bx (fun mm H2 Q2 b2 k2 => ⟨_, rfl, B, Dx, 255, rfl, by decide, b2, fun y H5 y0 y1 k5 b5 => ⟨_, _, rfl, rfl, k2 _ H5 (by omega) k5 b5⟩⟩) fun pb bs H16 npb hlb2 hob k16 b16 hpb => ?_
          have ks16 := ks15.kpB k16 b16
          have nMpb := ks15.fresh npb
          have hblk := blk_of hlb2 hob
          refine sqCut (fun σ H' => ∃ (F2 : Addr → Prop) (v : V) (s' : DkS), σ = [some (.ref a), some (.ref B), some (.int (m : Nat)), some (.ref p), some (.ref lb), o5, some (.ref lp), some (.int (leftI s.left)), some (.ref tn), some (.int s.cuts), some (.int (0 + (j : Nat))), some (.int kd), o12, some (.int i), some (.ref pb), some v, o16, o17] ∧
            LW H' F2 lb lp B Dx s.bl s.wt ∧ H' tn = some (.lst (iv s.torn)) ∧ ¬ Mut F2 lb lp B tn ∧ H' pb = some (.lst (iv bs)) ∧ ¬ Mut F2 lb lp B pb ∧ DiskAt K C H' p F2 s' ∧
            ((s.left = some 0 ∧ Dp K H' v (dRef "cut") ∧ s' = cutM s s.torn) ∨ (s.left ≠ some 0 ∧ (∀ k, s.left = some k → 0 < k) ∧ v = .non ∧ ((i = -1 ∧ s' = { flushM s with left := downL s.left }) ∨ (i ≠ -1 ∧ s' = { writeM s i.toNat bs with left := downL s.left }))))) ?_ fun go3 => ?_
          rotate_left
          · refine ⟨_, rfl, _, rfl, _, rfl, pb, iv bs, rfl, .inl (sqL hpb), fun hd nhd => ?_⟩
            have s17 := same_upd (o := HO.lst (iv bs)) nhd
            have hhd17 : upd H16 hd (.lst (iv bs)) hd = some (.lst (iv bs)) := upd_same
            generalize upd H16 hd (.lst (iv bs)) = H17 at s17 hhd17 ⊢
            have ks17 := ks16.same s17
            have fin : ∀ {H' : Hp} {F' : Addr → Prop}, KpF F1 H17 H' → (∀ b, F' b → F1 b ∨ H17 b = none) → LW H' F' lb lp B Dx s.bl s.wt ∧ H' tn = some (.lst (iv s.torn)) ∧ ¬ Mut F' lb lp B tn ∧ H' pb = some (.lst (iv bs)) ∧ ¬ Mut F' lb lp B pb := fun k f => by
              obtain ⟨a1, a2, a3⟩ := ks17.op k f
              have hpb17 := s17 _ _ hpb
              exact ⟨a1, a2, a3, k _ _ (Mut.no nMpb).1 hpb17, Mut.mk (fun z => (f _ z).elim (Mut.no nMpb).1 fun h => by rw [hpb17] at h; cases h) (Mut.no nMpb).2.1 (Mut.no nMpb).2.2.1 (Mut.no nMpb).2.2.2⟩
            refine ⟨p, hd, F1, s, i, bs, rfl, ks17.dk, sqL hhd17, (Mut.no (ks16.fresh nhd)).1, by omega, by omega, fun hi1 => ⟨fun hl H' F' k d f => ?_, fun k' hl h0 H' F' k d f => ?_, fun hl H' F' v k d f dp => ?_⟩, (fun h1 h2 => by rw [hm] at h2; omega), (fun _ _ h => by rw [hblk] at h; cases h), fun i0 _ _ => ⟨fun hl H' F' k d f => ?_, fun k' hl h0 H' F' k d f => ?_, fun hl H' F' v k d f dp => ?_⟩⟩
            · obtain ⟨a1, a2, a3, a4, a5⟩ := fin k f
              exact go3 _ _ ⟨F', _, flushM s, rfl, a1, a2, a3, a4, a5, d, .inr ⟨by rw [hl]; exact (fun z => nomatch z), (fun k h => by rw [hl] at h; cases h), rfl, .inl ⟨hi1, by rw [hl]; show flushM s = { flushM s with left := none }; rw [← hl]; rfl⟩⟩⟩
            · obtain ⟨a1, a2, a3, a4, a5⟩ := fin k f
              exact go3 _ _ ⟨F', _, _, rfl, a1, a2, a3, a4, a5, d, .inr ⟨by rw [hl]; intro z; injection z with z; omega, (fun k h => by rw [hl] at h; injection h with h; omega), rfl, .inl ⟨hi1, by rw [hl]; rfl⟩⟩⟩
            · obtain ⟨a1, a2, a3, a4, a5⟩ := fin k f
              exact go3 _ _ ⟨F', _, _, rfl, a1, a2, a3, a4, a5, d, .inl ⟨hl, dp, rfl⟩⟩
            · obtain ⟨a1, a2, a3, a4, a5⟩ := fin k f
              exact go3 _ _ ⟨F', _, writeM s i.toNat bs, rfl, a1, a2, a3, a4, a5, d, .inr ⟨by rw [hl]; exact (fun z => nomatch z), (fun k h => by rw [hl] at h; cases h), rfl, .inr ⟨by omega, by rw [hl]; show writeM s i.toNat bs = { writeM s i.toNat bs with left := none }; rw [← hl]; rfl⟩⟩⟩
            · obtain ⟨a1, a2, a3, a4, a5⟩ := fin k f
              exact go3 _ _ ⟨F', _, _, rfl, a1, a2, a3, a4, a5, d, .inr ⟨by rw [hl]; intro z; injection z with z; omega, (fun k h => by rw [hl] at h; injection h with h; omega), rfl, .inr ⟨by omega, by rw [hl]; rfl⟩⟩⟩
            · obtain ⟨a1, a2, a3, a4, a5⟩ := fin k f
              exact go3 _ _ ⟨F', _, _, rfl, a1, a2, a3, a4, a5, d, .inl ⟨hl, dp, rfl⟩⟩
          · rintro σ H17 ⟨F2, v, s', rfl, lw17, ht17, nt17, hpb17, npb17, d17, out⟩
            have W := ks16.dk.wf
            have sCu : SeqAt.shaped (dRef "cut") = true := by decide +kernel
            rcases out with ⟨hl0, dv, rfl⟩ | ⟨hl, hpos, rfl, out⟩
            · -- torn
              have hok := W.torn.1
              refine oneIf (b := true) (etTest ((evEqI (evVar (i := 7) rfl) (evC (v := .int 0))).eq (by rw [hl0]; rfl))) (fun _ H18 s18 => ?_) (fun h => nomatch h)
              refine ⟨_, rfl, ref_ne sCu (Dp.same s18 dv) fun H19 s19 => ⟨false, rfl, ?_⟩⟩
              have s79 := s18.trans s19
              have lw19 := lw17.same s79
              have d19 := d17.same s79
              have ht19 := s79 _ _ ht17
              obtain ⟨es, hes, pes⟩ := id lw19.lpd
              have hel := paired_len pes
              have htl : s.torn.length ≤ 100000 := W.torn.2
              have tnlb : tn ≠ lb := (Mut.no nt17).2.1
              refine nxI ?_
              refine sqForRg (n := min s.torn.length s.wt.length) ((evMin2 (evLenL (K := K) (evVar (i := 8) rfl) (sqL ht19)) (evLenL (K := K) (evVar (i := 6) rfl) (sqL hes))).eq ?_) (by omega)
                (fun i' σ H' => ∃ o5 o16 : Option V, σ = [some (.ref a), some (.ref B), some (.int (m : Nat)), some (.ref p), some (.ref lb), o5, some (.ref lp), some (.int (leftI s.left)), some (.ref tn), some (.int s.cuts), some (.int (0 + (j : Nat))), some (.int kd), o12, some (.int i), some (.ref pb), some v, o16, o17] ∧ H' tn = some (.lst (iv s.torn)) ∧ H' lp = some (.lst (es.map V.ref)) ∧
                  DiskAt K C H' p F2 (cutM s s.torn) ∧ LW H' F2 lb lp B Dx (((s.wt.zip s.torn).take i').foldl tear s.bl) s.wt) (fun H20 s20 => ⟨_, _, rfl, s20 _ _ ht19, s20 _ _ hes, d19.same s20, lw19.same s20⟩) ?_ ?_
              · congr 1
                rw [List.length_map, List.length_map, hel]
                split <;> omega
              · rintro i' σ H18 hi' ⟨o5', o12', rfl, hpt8, hes8, d18, lw18⟩
                have e0 : (0 : Int) + (i' : Nat) = (i' : Nat) := Int.zero_add _
                rw [e0]
                obtain ⟨c, hc⟩ : ∃ c, es[i']? = some c := ⟨_, List.getElem?_eq_getElem (by omega)⟩
                obtain ⟨y, hy⟩ : ∃ y, s.torn[i']? = some y := ⟨_, List.getElem?_eq_getElem (by omega)⟩
                obtain ⟨e, he, b, hc1, nc, hb1, nb⟩ := paired_get (LPd.at lw18 hes8) _ _ hc
                obtain ⟨as', has, pra⟩ := id lw18.lbl
                have hz := zip_at he hy
                have hyr := torn_mem hok y (List.mem_of_getElem? hy)
                obtain ⟨yn, rfl⟩ : ∃ yn : Nat, y = (yn : Nat) := ⟨y.toNat, by omega⟩
                have hwe := W.wt e (List.mem_of_getElem? he)
                have hbl : (((s.wt.zip s.torn).take i').foldl tear s.bl).length = s.bl.length := tears_len _ _
                obtain ⟨ra, hra⟩ : ∃ ra, as'[e.1]? = some ra := ⟨_, List.getElem?_eq_getElem (by rw [paired_len pra, hbl]; exact hwe.1)⟩
                obtain ⟨row, hrow, hHr, _⟩ := paired_get pra _ _ hra
                have erow : (((s.wt.zip s.torn).take i').foldl tear s.bl).getD e.1 [] = row := by rw [List.getD_eq_getElem?_getD, hrow]; rfl
                have l32 : row.length = 32 := by
                  rw [← erow]
                  exact tears_mem W.bl (fun e' he' => zip_ok W hok e' (List.mem_of_mem_take he')) _ (getD_mem (by rw [hbl]; exact hwe.1)).1
                refine sqSet (evIxL (K := K) (evIxL (K := K) (evVar (i := 6) rfl) (evVar (i := 5) rfl) (sqL hes8) (atI_nat (by rw [List.getElem?_map, hc]; rfl))) (evC (v := .int 0)) (sqL hc1) rfl) fun H19 s19 => ?_
                have tnv : ∀ {σ : L2.St} {H : Hp}, σ[8]? = some (some (.ref tn)) → σ[5]? = some (some (.int (i' : Nat))) → H tn = some (.lst (iv s.torn)) → EvS (tOp (rIxL K) (tVar 8) (tVar 5)) σ H (.int (yn : Nat)) := fun h1 h2 h3 => evIxL (K := K) (evVar h1) (evVar h2) (sqL h3) (atI_nat (by unfold iv; rw [List.getElem?_map, hy]; rfl))
                refine (evCat (evSlL (K := K) ((evIxL (K := K) (evIxL (K := K) (evVar (i := 6) rfl) (evVar (i := 5) rfl) (sqL (s19 _ _ hes8)) (atI_nat (by rw [List.getElem?_map, hc]; rfl))) (evC (v := .int 1)) (sqL (s19 _ _ hc1)) rfl).sl (sqL (s19 _ _ hb1))) evNo (evPart (tnv rfl rfl (s19 _ _ hpt8)))).nt
                  (evSlL (K := K) ((evIxL (K := K) (evVar (i := 4) rfl) (evVar (i := 16) rfl) (sqL (s19 _ _ has)) (atI_nat (by rw [List.getElem?_map, hra]; rfl))).sl (sqL (s19 _ _ hHr))) (evPart (tnv rfl rfl (s19 _ _ hpt8))) evNo).nt ?_).go fun v H20 s20 ⟨q', ev, nq, hq⟩ => ?_
                · rw [cut_to, cut_from, List.length_take, List.length_drop, List.length_map, List.length_map]; omega
                subst ev
                rw [cut_to, cut_from, take_iv, drop_iv, app_iv] at hq
                have s82 := s19.trans s20
                refine ⟨_, rfl, _, rfl, lb, as'.map V.ref, (e.1 : Nat), e.1, rfl, rfl, s82 _ _ has, ?_, ?_⟩
                · have : as'.length = s.bl.length := by rw [paired_len pra, hbl]
                  unfold ixN
                  rw [if_pos (by omega), if_pos (by rw [List.length_map]; omega)]
                  rfl
                · refine ⟨_, _, rfl, ?_, ?_, (d18.same s82).put lw18.nF.1 (s82 _ _ has) rfl, ?_⟩
                  · rw [upd_ne tnlb]; exact s82 _ _ hpt8
                  · rw [upd_ne lw18.ne.1.symm]; exact s82 _ _ hes8
                  · rw [fold_take _ _ _ hz]
                    have ht : tear (((s.wt.zip s.torn).take i').foldl tear s.bl) (e, (yn : Int)) = (((s.wt.zip s.torn).take i').foldl tear s.bl).set e.1 (e.2.take yn ++ row.drop yn) := by
                      show List.set _ e.1 (e.2.take (yn : Int).toNat ++ ((((s.wt.zip s.torn).take i').foldl tear s.bl).getD e.1 []).drop (yn : Int).toNat) = _
                      rw [erow, Int.toNat_natCast]
                    rw [ht]
                    exact (lw18.same s82).setB (s82 _ _ has) hq (LW.fresh (lw18.same s19) (d18.same s19) nq) (i := e.1)
              · rintro σ H18 ⟨o5', o12', rfl, hpt8, hes8, d18, lw18⟩
                have e1 : (s.wt.zip s.torn).take (min s.torn.length s.wt.length) = s.wt.zip s.torn := List.take_of_length_le (by rw [List.length_zip]; omega)
                rw [e1] at lw18
                refine sqSetR (evLst evNil (by simp)) fun v H19 s19 ⟨l', ev, nl', hl19⟩ => ?_
                subst ev
                refine sqSet (evI0 (evC (v := .int 0)) (evC (v := .int 1))) fun H20 s20 => ?_
                refine (evI0 (evVar (i := 9) rfl) (evC (v := .int 1))).go fun H21 s21 => ?_
                have s01 := s20.trans s21
                refine go _ _ ⟨l', tn, F2, cutM s s.torn, _, _, _, _, _, _, _, _, rfl, ⟨d18.same (s19.trans s01), (lw18.clear s19 nl' hl19 fun z => d18.has z nl').same s01, (s19.trans s01) _ _ hpt8, Mut.mk (Mut.no nt17).1 (Mut.no nt17).2.1 (fun e => by rw [← e, hpt8] at nl'; cases nl') (Mut.no nt17).2.2.2⟩, by rw [← hm]; exact tears_len _ _, Nat.zero_le _⟩
            have hne : leftI s.left ≠ 0 := by
              cases hs : s.left with
              | none => decide
              | some k => exact Int.ne_of_gt (hpos k hs)
            refine oneIf (b := false) (etTest ((evEqI (evVar (i := 7) rfl) (evC (v := .int 0))).eq (by congr 1; exact decide_eq_false hne))) (fun h => nomatch h) (fun _ H18 s18 => ?_)
            refine ⟨_, rfl, rfl, _, rfl, ite2 (fun e => absurd e (by decide)) fun _ => ?_⟩
            dsimp only [tNext]
            refine sqCut (fun σ H' => σ = [some (.ref a), some (.ref B), some (.int (m : Nat)), some (.ref p), some (.ref lb), o5, some (.ref lp), some (.int (leftI (downL s.left))), some (.ref tn), some (.int s.cuts), some (.int (0 + (j : Nat))), some (.int kd), o12, some (.int i), some (.ref pb), some .non, o16, o17] ∧ Same H17 H') ?_ fun go4 => ?_
            rotate_left
            · refine ⟨_, rfl, _, _, rfl, rfl, _, rfl, ite2 (fun e => ?_) (fun e => ?_)⟩
              · cases hs : s.left with
                | none => rw [hs] at e; exact absurd e (by decide)
                | some k =>
                  refine (evI0 (evVar (i := 7) (v := .int k) (by rfl)) (evC (v := .int 1))).go fun H19 s19 => ?_
                  exact go4 _ _ ⟨by rw [hs]; rfl, s18.trans s19⟩
              · cases hs : s.left with
                | none => exact go4 _ _ ⟨by rw [hs]; rfl, s18⟩
                | some k =>
                  rw [hs] at e
                  have := hpos k hs
                  exact absurd (decide_eq_true (show (0 : Int) < k from this)) e
            rintro σ H19 ⟨rfl, s79⟩
            have lw19 := lw17.same s79
            have d19 := d17.same s79
            have ht19 := s79 _ _ ht17
            obtain ⟨es, hes, pes⟩ := id lw19.lpd
            rcases out with ⟨hi1, rfl⟩ | ⟨hi1, rfl⟩
            · -- flushed
              refine oneIf (b := true) (etTest ((evEqI (evVar (i := 13) rfl) (evI0 (evC (v := .int 0)) (evC (v := .int 1)))).eq (by rw [hi1]; rfl))) (fun _ H20 s20 => ?_) (fun h => nomatch h)
              have lw20 := lw19.same s20
              have d20 := d19.same s20
              refine sqForL (K := K) (as := es) (g := V.ref) (evVar (i := 6) rfl) (sqL (s20 _ _ hes)) (fun i' σ H' => ∃ o17 : Option V, σ = [some (.ref a), some (.ref B), some (.int (m : Nat)), some (.ref p), some (.ref lb), o5, some (.ref lp), some (.int (leftI (downL s.left))), some (.ref tn), some (.int s.cuts), some (.int (0 + (j : Nat))), some (.int kd), o12, some (.int i), some (.ref pb), some .non, o16, o17] ∧ H' lp = some (.lst (es.map V.ref)) ∧ H' tn = some (.lst (iv s.torn)) ∧
                DiskAt K C H' p F2 { flushM s with left := downL s.left } ∧ LW H' F2 lb lp B Dx (flushB s.bl (s.wt.take i')) s.wt) (fun H21 s21 => ⟨_, rfl, (s20.trans s21) _ _ hes, (s20.trans s21) _ _ ht19, d20.same s21, lw20.same s21⟩) (fun i σ H' _ ⟨_, _, h, _⟩ => sqL h) ?_ ?_
              · rintro i' c σ H13 hc ⟨o10', rfl, hes3, ht3, d13, lw13⟩
                obtain ⟨e, he, b, hc1, nc, hb1, nb⟩ := paired_get (LPd.at lw13 hes3) _ _ hc
                obtain ⟨as', has, pra⟩ := id lw13.lbl
                refine (evIxL (K := K) (evVar (i := 17) rfl) (evC (v := .int 1)) (sqL hc1) rfl).go fun H14 s14 => ⟨_, rfl, ?_⟩
                refine (evIxL (K := K) (evVar (i := 17) rfl) (evC (v := .int 0)) (sqL (s14 _ _ hc1)) rfl).go fun H15 s15 => ?_
                have s35 := s14.trans s15
                have hi : e.1 < s.bl.length := (W.wt e (List.mem_of_getElem? he)).1
                refine ⟨lb, as'.map V.ref, (e.1 : Nat), e.1, rfl, rfl, s35 _ _ has, ?_, ?_⟩
                · have : as'.length = s.bl.length := by rw [paired_len pra, flush_len]
                  unfold ixN
                  rw [if_pos (by omega), if_pos (by rw [List.length_map]; omega)]
                  rfl
                · have hne := lw13.ne
                  refine ⟨_, rfl, ?_, ?_, (d13.same s35).put lw13.nF.1 (s35 _ _ has) rfl, ?_⟩
                  · rw [upd_ne hne.1.symm]; exact s35 _ _ hes3
                  · rw [upd_ne (Mut.no nt17).2.1]; exact s35 _ _ ht3
                  · have h := (lw13.same s35).setB (s35 _ _ has) (s35 _ _ hb1) nb (i := e.1)
                    unfold flushB at h ⊢
                    rw [fold_take _ _ _ he]
                    exact h
              · rintro σ H13 ⟨o10', rfl, hes3, ht3, d13, lw13⟩
                refine (evLst evNil (by simp)).go fun v H14 s14 ⟨l, ev, nl, hl14⟩ => ?_
                subst ev
                have e1 : s.wt.take es.length = s.wt := List.take_of_length_le (by rw [paired_len (LPd.at lw13 hes3)]; exact Nat.le_refl _)
                rw [e1] at lw13
                refine go _ _ ⟨l, tn, F2, { flushM s with left := downL s.left }, _, _, _, _, _, _, _, _, rfl, ⟨d13.same s14, lw13.clear s14 nl hl14 fun z => d13.has z nl, s14 _ _ ht3, Mut.mk (Mut.no nt17).1 (Mut.no nt17).2.1 (fun e => by rw [← e, ht3] at nl; cases nl) (Mut.no nt17).2.2.2⟩, by rw [← hm]; exact flush_len _ _, Nat.zero_le _⟩
            · -- written
              obtain ⟨n1, rfl⟩ : ∃ n1 : Nat, i = (n1 : Nat) := ⟨i.toNat, by omega⟩
              rw [Int.toNat_natCast] at d19
              refine oneIf (b := false) (etTest ((evEqI (evVar (i := 13) rfl) (evI0 (evC (v := .int 0)) (evC (v := .int 1)))).eq (congrArg V.bl (decide_eq_false hi1)))) (fun h => nomatch h) (fun _ H20 s20 => ?_)
              have lw20 := lw19.same s20
              have d20 := d19.same s20
              have hes20 := s20 _ _ hes
              have hpb20 := (s79.trans s20) _ _ hpb17
              refine ⟨_, rfl, .inl ⟨rfl, _, sqL hes20⟩, ?_⟩
              refine ⟨_, rfl, _, rfl, by show 2 ≤ sizeLine; decide, fun e ne => ?_⟩
              have s21 := same_upd (o := HO.lst [.int (n1 : Nat), .ref pb]) ne
              have he21 : upd H20 e (.lst [.int (n1 : Nat), .ref pb]) e = some (.lst [.int (n1 : Nat), .ref pb]) := upd_same
              generalize upd H20 e (.lst [.int (n1 : Nat), .ref pb]) = H21 at s21 he21 ⊢
              refine ⟨lp, es.map V.ref, _, rfl, rfl, s21 _ _ hes20, ?_, ?_⟩
              · rw [List.length_map, paired_len pes]
                exact Nat.lt_of_le_of_lt (show s.wt.length ≤ 100 by omega) (by decide)
              · refine go _ _ ⟨lp, tn, F2, { writeM s n1 bs with left := downL s.left }, _, _, _, _, _, _, _, _, rfl, ⟨(d20.same s21).put lw20.nF.2.1 (s21 _ _ hes20) rfl, ?_, ?_, nt17⟩, hm, ?_⟩
                · exact (lw20.same s21).push (s21 _ _ hes20) he21 (LW.fresh lw20 d20 ne) (s21 _ _ hpb20) npb17
                · rw [upd_ne (Mut.no nt17).2.2.1]; exact (s20.trans s21) _ _ ht19
                · show (s.wt ++ [(n1, bs)]).length ≤ _
                  rw [List.length_append]
                  exact Nat.succ_le_succ hw
      · clear ks ks10 hw hm
        rintro σ H11 ⟨lp, tn, F, s, o5, o11, o12, o13, o14, o15, o16, o17, rfl, ks, hm, hw⟩
        obtain ⟨es, hes, pes⟩ := id ks.lw.lpd
        refine oneIf (b := false) (etOr (p := false) (q := false) (etTest ((evNeI (evDk (K := K) (i := 3) rfl ks.dk fun _ _ _ _ _ => rfl) (evLenL (K := K) (evVar (i := 6) rfl) (sqL hes))).eq ?_))
          (etTest ((evNeI (evDk (K := K) (i := 3) rfl ks.dk fun _ _ _ _ _ => rfl) (evVar (i := 9) rfl)).eq ?_))) (fun h => nomatch h) (fun _ H14 s14 => ?_)
        · congr 1
          rw [List.length_map, paired_len pes]
          simp
        · simp
        · exact ⟨lp, tn, F, s, _, _, _, _, _, _, _, _, _, rfl, ks.same s14, hm, hw⟩
    · rintro σ H9 ⟨lp, tn, F1, s, o5, o10, o11, o12, o13, o14, o15, o16, o17, rfl, ks, hm, hw⟩
      obtain ⟨dx', aB, aW, tT, vs, ws, fi, h1, _⟩ := id ks.dk
      refine ⟨_, rfl, p, dx', _, rfl, h1, rfl, by show 0 ≤ sizeLine; decide, fun l nl => ?_⟩
      have s10 := same_upd (o := HO.lst []) nl
      have hl10 : upd H9 l (.lst []) l = some (.lst (iv [])) := upd_same
      generalize upd H9 l (.lst []) = H10 at s10 hl10 ⊢
      refine ⟨p, l, F1, s, [], rfl, ks.dk.same s10, sqL hl10, (fun z => ks.dk.has z nl), Nat.zero_le _, (fun h => nomatch h), fun _ H11 F2 k11 d11 f11 => ?_⟩
      have lw11 : LW H11 F2 lb lp B Dx s.bl s.wt := (ks.lw.same s10).op k11 f11
      have ecut : (cutM s []).bl = s.bl := by show (s.wt.zip []).foldl tear s.bl = s.bl; rw [List.zip_nil_right]; rfl
      have hrd : (List.range m).map (readM (cutM s [])) = s.bl := by
        apply List.ext_getElem?
        intro i
        rw [List.getElem?_map]
        by_cases h : i < m
        · rw [List.getElem?_range h, List.getElem?_eq_getElem (by omega)]
          show some ((cutM s []).bl.getD i []) = _
          rw [ecut, List.getD_eq_getElem?_getD, List.getElem?_eq_getElem (by omega)]
          rfl
        · rw [List.getElem?_eq_none (by rw [List.length_range]; omega), List.getElem?_eq_none (by omega)]
          rfl
      obtain ⟨as, has, pra⟩ := id lw11.lbl
      refine retS (v := .bl true) ((evEqD (K := K) (d := dRs s.bl) (e := dRs s.bl) ((evLcNew (n := m) (xs := fun i => iv (readM (cutM s []) i)) (evVar (i := 2) rfl) (by omega) fun i hi H12 s12 H13 s13 Q13 k13 => ?_).w fun _ _ _ ⟨D, as', ev, nD, hD, hf, pr⟩ => ?_) ((evVar (i := 4) rfl).r fun H12 H13 s12 s13 => rows_dp ((s12.trans s13) _ _ has) (pra.mono fun _ _ q => (s12.trans s13) _ _ q.1)) (shaped_rs _) (shaped_rs _)).eq (by rw [eqv_refl' (shaped_rs _)])) (fun H12 s12 => q H12)
      · have d13 := d11.same (s12.trans s13)
        obtain ⟨dx2, aB2, aW2, tT2, vs2, ws2, fi2, h12, _⟩ := id d13
        refine ⟨_, rfl, p, dx2, _, rfl, h12, rfl, _, rfl, p, F2, cutM s [], _, rfl, d13, fun i0 i1 x H14 s14 nx hx => k13 _ H14 s14 ⟨x, rfl, nx, ?_⟩, fun h => ?_⟩
        · rw [hx, Int.zero_add, Int.toNat_natCast]
        · rw [ecut, hm] at h
          omega
      · subst ev
        rw [← hrd]
        refine rows_dp hD ?_
        clear hD hf nD
        generalize List.range m = l at pr
        induction pr with
        | nil => exact .nil
        | cons a _ ih => exact .cons a ih
end
end KX

set_option maxRecDepth 100000
set_option maxHeartbeats 4000000
namespace KX
open PySem PySem.Spec PyProof.Rows L2 TL Ga StX NdefX
/-- a def that the top has left -/
structure FnIn (K : PySem.W.Frag) (x : Str) (st : Stmt) : Prop where
  ex : ∃ (f : Addr) (od an : Option Addr) (sl : Array (Option Value)) (oc kV dc pm cd ct : Value), PySem.W.nsIn K mainGlobals x = some (some (.ref f)) ∧
    K.lookup f = some ⟨oc, od, .func (PySem.W.fnOf x x (defArgs st) (defBody st) (defScope st) .none kV dc pm an cd ct), sl⟩ ∧ PySem.W.codeIn K cd x = true ∧ PySem.W.keepIn K (.ref f) = true
theorem fnIn {K : PySem.W.Frag} {x : Str} {st : Stmt} {f : Addr} {od an : Option Addr} {sl : Array (Option Value)} {oc kV dc pm cd ct : Value} (a : PySem.W.nsIn K mainGlobals x = some (some (.ref f)))
    (l : K.lookup f = some ⟨oc, od, .func (PySem.W.fnOf x x (defArgs st) (defBody st) (defScope st) .none kV dc pm an cd ct), sl⟩) (c : PySem.W.codeIn K cd x = true) (k : PySem.W.keepIn K (.ref f) = true) : FnIn K x st :=
  ⟨f, od, an, sl, oc, kV, dc, pm, cd, ct, a, l, c, k⟩
theorem intIn {K : PySem.W.Frag} {x : Str} {i : Int} {t : Tok} (a : PySem.W.nsIn K mainGlobals x = some (some (.int i t))) : ∃ t, PySem.W.nsIn K mainGlobals x = some (some (.int i t)) := ⟨t, a⟩
theorem strIn {K : PySem.W.Frag} {x : Str} {i : Str} {t : Tok} (a : PySem.W.nsIn K mainGlobals x = some (some (.str i t))) : ∃ t, PySem.W.nsIn K mainGlobals x = some (some (.str i t)) := ⟨t, a⟩
theorem FnIn.fn {K : PySem.W.Frag} {x : Str} {st : Stmt} {mg : Str → Option Value} {h : Heap} (F : FnIn K x st) (X : K.In h) (G : h.Ns mainGlobals mg) :
    ∃ (f : Addr) (kV dc pm : Value) (an : Option Addr) (cd ct : Value), Fun K x x st f (PySem.W.fnOf x x (defArgs st) (defBody st) (defScope st) .none kV dc pm an cd ct) ∧ mg x = some (.ref f) := by
  obtain ⟨f, od, an, sl, oc, kV, dc, pm, cd, ct, a, l, c, k⟩ := F.ex
  exact ⟨f, kV, dc, pm, an, cd, ct, fun_mk l c k, PySem.W.mg_of X G a⟩
/-- the error's class -/
structure ErrIn (P : Program) (K : PySem.W.Frag) (Co : Addr) : Prop where
  go : PySem.W.nsIn K mainGlobals "OutOfRange" = some (some (.ref Co))
  sc : SupC K Co
  nm : PySem.W.findIn K (.ref Co) "name" = some none
  init : ∃ (f cc c : Addr) (fd : FuncData), SupIn P K f Co (fOor cc c) fd ∧ PySem.W.findIn K (.ref Co) "__init__" = some (some (.ref f)) ∧ PySem.W.typeIn K (.ref f) = some (.type "function")
  sup : PySem.W.nsIn K mainGlobals "super" = some none
  top : (P.main.scope.names.lookup ("super" : Str)).isSome = false
  exm : PySem.W.exmOne K (.ref Co) (.ref Co) = some true
  xf : XfC K Co
theorem oexIn {K : PySem.W.Frag} {Co : Addr} {nm q : Str} {N : Addr} {bs bm : List Value} {sn : List Str} {sub : List Value} {ab : Bool} {col : Option Bool} {dd : Option Addr} {k0 k1 k2 k3 k5 : Option Value}
    (xL : K.lookup Co = some (excClassObj nm q Co N bs bm true sn sub ab col dd k0 k1 k2 k3 k5 "ValueError.__new__")) (vb : PySem.HandSPX.refsVE bm = true) (sa : PySem.W.findIn K (.ref Co) "__setattr__" = some (some (.builtin "object.__setattr__")))
    (ex : PySem.W.subIn K (.ref Co) (.type "BaseException") = some true) (ty : PySem.W.typeIn K (.ref Co) = some (.type "type")) (kp : PySem.W.keepIn K (.ref Co) = true)
    (se : PySem.W.mroIn K Co (.ref Co) = some true) (su : PySem.W.ks_superIn K Co Co "__init__" = some (some (.builtin "ValueError.__init__"))) (ve : PySem.W.subIn K (.ref Co) (.type "ValueError") = some true) (an : PySem.W.nsIn K cStatics "thirdparty.any" = some none) : SupC K Co :=
  ⟨⟨⟨nm, q, N, bs, bm, sn, sub, ab, col, dd, k0, k1, k2, k3, k5, xL, vb⟩, sa, ex, ty, kp⟩, se, su, ve, an⟩
theorem supIn {P : Program} {K : PySem.W.Frag} {f Co cc c : Addr} {oc ccl cl doc pm ctv : Value} {od cdd cld : Option Addr} {osl ccs csl : Array (Option Value)} {vs : Array Value} {file : Str} {tf : Tok}
    (i : PySem.W.findIn K (.ref Co) "__init__" = some (some (.ref f))) (t : PySem.W.typeIn K (.ref f) = some (.type "function")) (l : K.lookup f = some ⟨oc, od, .func (PySem.W.fnX "__init__" "OutOfRange.__init__" (defArgs sOorInit) (defBody sOorInit) (defScope sOorInit) [(("__class__" : Str), cc)] .none .none doc pm none (.ref c) ctv), osl⟩)
    (h : PySem.W.codeIn K (.ref c) "OutOfRange.__init__" = true) (lc : K.lookup c = some ⟨ccl, cdd, .fields vs, ccs⟩) (v2 : vs[2]? = some (.str file tf)) (hf : ((P.main.file : Str) == file) = true) (ce : K.lookup cc = some ⟨cl, cld, .cell (some (.ref Co)), csl⟩) :
    ∃ (f cc c : Addr) (fd : FuncData), SupIn P K f Co (fOor cc c) fd ∧ PySem.W.findIn K (.ref Co) "__init__" = some (some (.ref f)) ∧ PySem.W.typeIn K (.ref f) = some (.type "function") :=
  ⟨f, cc, c, _, ⟨oc, ccl, cl, od, cdd, cld, osl, ccs, csl, doc, pm, ctv, vs, file, tf, cc, rfl, l, h, lc, v2, hf, rfl, ce⟩, i, t⟩
/-- a method of the class at C -/
structure MthIn (K : PySem.W.Frag) (C : Addr) (x qual : Str) (st : Stmt) : Prop where
  ex : ∃ (f : Addr) (od an : Option Addr) (sl : Array (Option Value)) (oc kV dc pm cd ct : Value), Meth K C x f ∧ K.lookup f = some ⟨oc, od, .func (PySem.W.fnOf x qual (defArgs st) (defBody st) (defScope st) .none kV dc pm an cd ct), sl⟩ ∧ PySem.W.codeIn K cd qual = true
theorem mthIn {K : PySem.W.Frag} {C : Addr} {x qual : Str} {st : Stmt} {f : Addr} {od an : Option Addr} {sl : Array (Option Value)} {oc kV dc pm cd ct : Value} (a : PySem.W.findIn K (.ref C) x = some (some (.ref f))) (i : PySem.W.isFn K (.ref f) = true) (k : PySem.W.keepIn K (.ref f) = true)
    (l : K.lookup f = some ⟨oc, od, .func (PySem.W.fnOf x qual (defArgs st) (defBody st) (defScope st) .none kV dc pm an cd ct), sl⟩) (c : PySem.W.codeIn K cd qual = true) : MthIn K C x qual st := ⟨f, od, an, sl, oc, kV, dc, pm, cd, ct, ⟨a, i, k⟩, l, c⟩
theorem MthIn.fn {K : PySem.W.Frag} {C : Addr} {x qual : Str} {st : Stmt} (F : MthIn K C x qual st) : ∃ (f : Addr) (kV dc pm : Value) (an : Option Addr) (cd ct : Value), Fun K x qual st f (PySem.W.fnOf x qual (defArgs st) (defBody st) (defScope st) .none kV dc pm an cd ct) ∧ Meth K C x f := by
  obtain ⟨f, od, an, sl, oc, kV, dc, pm, cd, ct, m, l, c⟩ := F.ex
  exact ⟨f, kV, dc, pm, an, cd, ct, fun_mk l c m.kp, m⟩
/-- the class Disk -/
structure DiskIn (K : PySem.W.Frag) (C : Addr) : Prop where
  gl : PySem.W.nsIn K mainGlobals "Disk" = some (some (.ref C))
  dc : DiskC K C
  mkI : PySem.W.makesIn K C = true
  kp : PySem.W.keepIn K (.ref C) = true
  m_size : MthIn K C "size" "Disk.size" s_Disk_size
  m_read : MthIn K C "read" "Disk.read" s_Disk_read
  m_write : MthIn K C "write" "Disk.write" s_Disk_write
  m_flush : MthIn K C "flush" "Disk.flush" s_Disk_flush
  m_pending_count : MthIn K C "pending_count" "Disk.pending_count" s_Disk_pending_count
  m_cut_count : MthIn K C "cut_count" "Disk.cut_count" s_Disk_cut_count
  m_cut_power : MthIn K C "cut_power" "Disk.cut_power" s_Disk_cut_power
  m_schedule_cut : MthIn K C "schedule_cut" "Disk.schedule_cut" s_Disk_schedule_cut
  m__check_at : MthIn K C "_check_at" "Disk._check_at" s_Disk__check_at
  m__count : MthIn K C "_count" "Disk._count" s_Disk__count
  m___init__ : MthIn K C "__init__" "Disk.__init__" s_Disk___init
theorem kitB {K : PySem.W.Frag} {C D : Addr} {b : Bool} (ne : (Value.ref C == Value.ref D) = false) (hd : PySem.W.hasDictIn K D = true) (ht : PySem.W.typeIn K (.ref D) = some (.type "type")) (h : PySem.W.subIn K (.ref C) (.ref D) = some b) : PySem.W.kitOne K (.ref C) (.ref D) = some b := by
  obtain ⟨cd, hc, _⟩ := PySem.W.any_some hd
  unfold PySem.W.kitOne
  rw [ne, if_neg Bool.false_ne_true]
  unfold PySem.W.kitCls
  have e : ((PySem.W.clsIn K D).isSome && PySem.W.typeIn K (.ref D) == some (.type "type")) = true := by rw [hc, ht]; rfl
  dsimp only
  rw [if_pos e]
  exact h
/-- what the top has left of PowerCut and TrunkError -/
structure PcIn (K : PySem.W.Frag) (Cp Ct Co : Addr) : Prop where
  gl : PySem.W.nsIn K mainGlobals "PowerCut" = some (some (.ref Cp))
  gT : PySem.W.nsIn K mainGlobals "TrunkError" = some (some (.ref Ct))
  gO : PySem.W.nsIn K mainGlobals "OutOfRange" = some (some (.ref Co))
  ex : PySem.W.excIn K Cp [.type "ValueError", .type "Exception", .type "BaseException", .type "object"] "ValueError.__new__" = true
  kp : PySem.W.keepIn K (.ref Cp) = true
  b : PySem.W.subIn K (.ref Cp) (.type "BaseException") = some true
  t : PySem.W.typeIn K (.ref Cp) = some (.type "type")
  exm : PySem.W.exmOne K (.ref Cp) (.ref Cp) = some true
  exo : PySem.W.exmOne K (.ref Co) (.ref Cp) = some false
  ec : ExcC K Cp
  it : PySem.W.kitOne K (.ref Cp) (.ref Ct) = some true
  io : PySem.W.kitOne K (.ref Cp) (.ref Co) = some false

/-- what the top has left -/
structure Tops (P : Program) (w : World) (K : PySem.W.Frag) : Prop where
  err : ∃ Co, ErrIn P K Co
  dk : ∃ C, DiskIn K C
  pc : ∃ Cp Ct Co, PcIn K Cp Ct Co
  f0 : FnIn K "is_block" s_is_block
  f1 : FnIn K "check_torn" s_check_torn
  f2 : FnIn K "_law_cell" sCell
  f3 : FnIn K "_law_digits" sDigits
  f4 : FnIn K "_law_draw" sDraw
  f5 : FnIn K "_law_torn" s_L_torn
  f6 : FnIn K "_law_schedule" s_L_schedule
  f7 : FnIn K "_law_do_raw" s_L_do_raw
  f8 : FnIn K "_law_do" s_L_do
  f9 : FnIn K "law" sLaw
  c_BLOCK : ∃ t, PySem.W.nsIn K mainGlobals "BLOCK" = some (some (.int 32 t))
  c_BLOCKS_MOST : ∃ t, PySem.W.nsIn K mainGlobals "BLOCKS_MOST" = some (some (.int 400 t))
  c_BLOCKS_LEAST : ∃ t, PySem.W.nsIn K mainGlobals "BLOCKS_LEAST" = some (some (.int 8 t))
  c_BYTE_MOST : ∃ t, PySem.W.nsIn K mainGlobals "BYTE_MOST" = some (some (.int 255 t))
  c_MANY_MOST : ∃ t, PySem.W.nsIn K mainGlobals "MANY_MOST" = some (some (.int 100000 t))
  b_len : PySem.W.nsIn K mainGlobals "len" = some none
  b_all : PySem.W.nsIn K mainGlobals "all" = some none
  b_any : PySem.W.nsIn K mainGlobals "any" = some none
  b_ord : PySem.W.nsIn K mainGlobals "ord" = some none
  b_int : PySem.W.nsIn K mainGlobals "int" = some none
  b_range : PySem.W.nsIn K mainGlobals "range" = some none
  b_repr : PySem.W.nsIn K mainGlobals "repr" = some none
  b_tuple : PySem.W.nsIn K mainGlobals "tuple" = some none
  b_list : PySem.W.nsIn K mainGlobals "list" = some none
  b_dict : PySem.W.nsIn K mainGlobals "dict" = some none
  b_set : PySem.W.nsIn K mainGlobals "set" = some none
  b_sorted : PySem.W.nsIn K mainGlobals "sorted" = some none
  b_str : PySem.W.nsIn K mainGlobals "str" = some none
  b_isinstance : PySem.W.nsIn K mainGlobals "isinstance" = some none
  b_min : PySem.W.nsIn K mainGlobals "min" = some none
  b_max : PySem.W.nsIn K mainGlobals "max" = some none
  b_sum : PySem.W.nsIn K mainGlobals "sum" = some none
  b_bool : PySem.W.nsIn K mainGlobals "bool" = some none
  b_enumerate : PySem.W.nsIn K mainGlobals "enumerate" = some none
  b_zip : PySem.W.nsIn K mainGlobals "zip" = some none
  b_reversed : PySem.W.nsIn K mainGlobals "reversed" = some none
  b_abs : PySem.W.nsIn K mainGlobals "abs" = some none
theorem Tops.tx {P : Program} {w : World} {K : PySem.W.Frag} {mg : Str → Option Value} {h : Heap} (O : Tops P w K) (X : K.In h) (G : h.Ns mainGlobals mg) : Tx mg := by
  obtain ⟨t_BLOCK, e_BLOCK⟩ := O.c_BLOCK
  obtain ⟨t_BLOCKS_MOST, e_BLOCKS_MOST⟩ := O.c_BLOCKS_MOST
  obtain ⟨t_BLOCKS_LEAST, e_BLOCKS_LEAST⟩ := O.c_BLOCKS_LEAST
  obtain ⟨t_BYTE_MOST, e_BYTE_MOST⟩ := O.c_BYTE_MOST
  obtain ⟨t_MANY_MOST, e_MANY_MOST⟩ := O.c_MANY_MOST
  exact ⟨PySem.W.mg_none_of X G O.b_len, PySem.W.mg_none_of X G O.b_all, PySem.W.mg_none_of X G O.b_any, PySem.W.mg_none_of X G O.b_ord, PySem.W.mg_none_of X G O.b_int, PySem.W.mg_none_of X G O.b_range, PySem.W.mg_none_of X G O.b_repr, PySem.W.mg_none_of X G O.b_tuple, PySem.W.mg_none_of X G O.b_list, PySem.W.mg_none_of X G O.b_dict, PySem.W.mg_none_of X G O.b_set, PySem.W.mg_none_of X G O.b_sorted, PySem.W.mg_none_of X G O.b_str, PySem.W.mg_none_of X G O.b_isinstance, PySem.W.mg_none_of X G O.b_min, PySem.W.mg_none_of X G O.b_max, PySem.W.mg_none_of X G O.b_sum, PySem.W.mg_none_of X G O.b_bool, PySem.W.mg_none_of X G O.b_enumerate, PySem.W.mg_none_of X G O.b_zip, PySem.W.mg_none_of X G O.b_reversed, PySem.W.mg_none_of X G O.b_abs, ⟨_, PySem.W.mg_of X G e_BLOCK⟩, ⟨_, PySem.W.mg_of X G e_BLOCKS_MOST⟩, ⟨_, PySem.W.mg_of X G e_BLOCKS_LEAST⟩, ⟨_, PySem.W.mg_of X G e_BYTE_MOST⟩, ⟨_, PySem.W.mg_of X G e_MANY_MOST⟩⟩
theorem all_mk {l : PySem.W.OpenLaw} {w : World} {K : PySem.W.Frag} {h : Heap} {mg : Str → Option Value} {fa : Addr} (X : K.In h) (G : h.Ns mainGlobals mg) (hfa : mg "law" = some (.ref fa)) (O : Tops l.prog w K) :
    ∃ fd : FuncData, (∀ (s : Shared) (v : Value), BindsTo s fd ⟨[v], []⟩ [("script", v)]) ∧ ∀ base : Heap, K.In base → base.Ns mainGlobals mg → FnG l.prog w K mg base CX0 9 fa fd ["script"] (spLaw K) := by
  have T := O.tx X G
  obtain ⟨a0, u0, v0, x0, y0, z0, c0, F0, m0⟩ := O.f0.fn X G
  have b0 := F0.binds (ps := ["block"]) fun _ _ _ _ _ _ us hl => match us, hl with | [_], _ => rfl
  obtain ⟨a1, u1, v1, x1, y1, z1, c1, F1, m1⟩ := O.f1.fn X G
  have b1 := F1.binds (ps := ["torn"]) fun _ _ _ _ _ _ us hl => match us, hl with | [_], _ => rfl
  obtain ⟨a2, u2, v2, x2, y2, z2, c2, F2, m2⟩ := O.f2.fn X G
  have b2 := F2.binds (ps := ["script", "k"]) fun _ _ _ _ _ _ us hl => match us, hl with | [_, _], _ => rfl
  obtain ⟨a3, u3, v3, x3, y3, z3, c3, F3, m3⟩ := O.f3.fn X G
  have b3 := F3.binds (ps := ["script", "first", "last"]) fun _ _ _ _ _ _ us hl => match us, hl with | [_, _, _], _ => rfl
  obtain ⟨a4, u4, v4, x4, y4, z4, c4, F4, m4⟩ := O.f4.fn X G
  have b4 := F4.binds (ps := ["box", "many"]) fun _ _ _ _ _ _ us hl => match us, hl with | [_, _], _ => rfl
  obtain ⟨a5, u5, v5, x5, y5, z5, c5, F5, m5⟩ := O.f5.fn X G
  have b5 := F5.binds (ps := ["box", "many"]) fun _ _ _ _ _ _ us hl => match us, hl with | [_, _], _ => rfl
  obtain ⟨a6, u6, v6, x6, y6, z6, c6, F6, m6⟩ := O.f6.fn X G
  have b6 := F6.binds (ps := ["disk", "count", "torn"]) fun _ _ _ _ _ _ us hl => match us, hl with | [_, _, _], _ => rfl
  obtain ⟨a7, u7, v7, x7, y7, z7, c7, F7, m7⟩ := O.f7.fn X G
  have b7 := F7.binds (ps := ["disk", "at", "block"]) fun _ _ _ _ _ _ us hl => match us, hl with | [_, _, _], _ => rfl
  obtain ⟨a8, u8, v8, x8, y8, z8, c8, F8, m8⟩ := O.f8.fn X G
  have b8 := F8.binds (ps := ["disk", "at", "block"]) fun _ _ _ _ _ _ us hl => match us, hl with | [_, _, _], _ => rfl
  obtain ⟨a9, u9, v9, x9, y9, z9, c9, F9, m9⟩ := O.f9.fn X G
  obtain ⟨Co, EI⟩ := O.err
  obtain ⟨fo, cc, cO, fdo, SI, iO, tO⟩ := EI.init
  have bO : Binds K fdo ["self", "name"] [] := by
    obtain ⟨_, _, _, _, _, _, _, _, _, doc, pm, ctv, _, _, _, _, rfl, _⟩ := SI.ex
    exact .all fun us hl => match us, hl with | [_, _], _ => rfl
  have gO := PySem.W.mg_of X G EI.go
  obtain ⟨C, DI⟩ := O.dk
  have gD := PySem.W.mg_of X G DI.gl
  obtain ⟨Ma_size, Mu_size, Mv_size, Mx_size, My_size, Mz_size, Mc_size, MF_size, Mm_size⟩ := DI.m_size.fn
  have Mb_size := MF_size.binds (ps := ["self"]) fun _ _ _ _ _ _ us hl => match us, hl with | [_], _ => rfl
  obtain ⟨Ma_read, Mu_read, Mv_read, Mx_read, My_read, Mz_read, Mc_read, MF_read, Mm_read⟩ := DI.m_read.fn
  have Mb_read := MF_read.binds (ps := ["self", "at"]) fun _ _ _ _ _ _ us hl => match us, hl with | [_, _], _ => rfl
  obtain ⟨Ma_write, Mu_write, Mv_write, Mx_write, My_write, Mz_write, Mc_write, MF_write, Mm_write⟩ := DI.m_write.fn
  have Mb_write := MF_write.binds (ps := ["self", "at", "block"]) fun _ _ _ _ _ _ us hl => match us, hl with | [_, _, _], _ => rfl
  obtain ⟨Ma_flush, Mu_flush, Mv_flush, Mx_flush, My_flush, Mz_flush, Mc_flush, MF_flush, Mm_flush⟩ := DI.m_flush.fn
  have Mb_flush := MF_flush.binds (ps := ["self"]) fun _ _ _ _ _ _ us hl => match us, hl with | [_], _ => rfl
  obtain ⟨Ma_pending_count, Mu_pending_count, Mv_pending_count, Mx_pending_count, My_pending_count, Mz_pending_count, Mc_pending_count, MF_pending_count, Mm_pending_count⟩ := DI.m_pending_count.fn
  have Mb_pending_count := MF_pending_count.binds (ps := ["self"]) fun _ _ _ _ _ _ us hl => match us, hl with | [_], _ => rfl
  obtain ⟨Ma_cut_count, Mu_cut_count, Mv_cut_count, Mx_cut_count, My_cut_count, Mz_cut_count, Mc_cut_count, MF_cut_count, Mm_cut_count⟩ := DI.m_cut_count.fn
  have Mb_cut_count := MF_cut_count.binds (ps := ["self"]) fun _ _ _ _ _ _ us hl => match us, hl with | [_], _ => rfl
  obtain ⟨Ma_cut_power, Mu_cut_power, Mv_cut_power, Mx_cut_power, My_cut_power, Mz_cut_power, Mc_cut_power, MF_cut_power, Mm_cut_power⟩ := DI.m_cut_power.fn
  have Mb_cut_power := MF_cut_power.binds (ps := ["self", "torn"]) fun _ _ _ _ _ _ us hl => match us, hl with | [_, _], _ => rfl
  obtain ⟨Ma_schedule_cut, Mu_schedule_cut, Mv_schedule_cut, Mx_schedule_cut, My_schedule_cut, Mz_schedule_cut, Mc_schedule_cut, MF_schedule_cut, Mm_schedule_cut⟩ := DI.m_schedule_cut.fn
  have Mb_schedule_cut := MF_schedule_cut.binds (ps := ["self", "many", "torn"]) fun _ _ _ _ _ _ us hl => match us, hl with | [_, _, _], _ => rfl
  obtain ⟨Ma__check_at, Mu__check_at, Mv__check_at, Mx__check_at, My__check_at, Mz__check_at, Mc__check_at, MF__check_at, Mm__check_at⟩ := DI.m__check_at.fn
  have Mb__check_at := MF__check_at.binds (ps := ["self", "at"]) fun _ _ _ _ _ _ us hl => match us, hl with | [_, _], _ => rfl
  obtain ⟨Ma__count, Mu__count, Mv__count, Mx__count, My__count, Mz__count, Mc__count, MF__count, Mm__count⟩ := DI.m__count.fn
  have Mb__count := MF__count.binds (ps := ["self"]) fun _ _ _ _ _ _ us hl => match us, hl with | [_], _ => rfl
  obtain ⟨Ma___init__, Mu___init__, Mv___init__, Mx___init__, My___init__, Mz___init__, Mc___init__, MF___init__, Mm___init__⟩ := DI.m___init__.fn
  have Mb___init__ := MF___init__.binds (ps := ["self", "blocks"]) fun _ _ _ _ _ _ us hl => match us, hl with | [_, _], _ => rfl
  have MK : Mk K C Ma___init__ := ⟨DI.mkI, Mm___init__.at_, Mm___init__.fn, DI.kp⟩
  obtain ⟨Cp, Ct, Co2, PI⟩ := O.pc
  obtain rfl : Co = Co2 := by
    have h1 := EI.go
    rw [PI.gO] at h1
    injection h1 with h1
    injection h1 with h1
    injection h1 with h1
    exact h1.symm
  have PC : PcC K mg Cp Co Ct := ⟨PySem.W.mg_of X G PI.gl, PySem.W.mg_of X G PI.gT, PI.ex, PI.kp, PI.b, PI.t, PI.exm, PI.exo, PI.ec, PI.it, PI.io⟩
  have e := hfa.symm.trans m9
  cases e
  refine ⟨PySem.W.fnOf "law" "law" (defArgs sLaw) (defBody sLaw) (defScope sLaw) .none u9 v9 x9 y9 z9 c9, fun s v => .of_eq rfl, fun base _ _ => ?_⟩
  have OO : OorC l.prog w K mg base Co fo fdo := ⟨ok_oor SI EI.sc (PySem.W.mg_none_of X G EI.sup) EI.top EI.nm, EI.sc.toOexC, iO, tO, bO, gO⟩
  have CT : CatC K mg Co := ⟨gO, EI.exm, EI.xf, EI.nm⟩
  have G0 := ok_isblk (P := l.prog) (w := w) (base := base) (K := K) (mg := mg) F0 T 
  have G1 := ok_chkt (P := l.prog) (w := w) (base := base) (K := K) (mg := mg) F1 T OO
  have DC := DI.dc
  have MD : MkC l.prog w K mg base C 3 "Disk" ["self", "blocks"] (spDkInit K C Co) := ⟨_, _, MK, ok_dkinit (P := l.prog) (w := w) (base := base) (K := K) (mg := mg) MF___init__ T DC OO, gD, Mb___init__⟩
  have MC__check_at : MCalX l.prog w K mg base C 3 "_check_at" ["self", "at"] (spDkChk K C Co) := ⟨_, _, ok_dkchk (P := l.prog) (w := w) (base := base) (K := K) (mg := mg) MF__check_at T DC OO, Mm__check_at, Mb__check_at⟩
  have MC_cut_power : MCalX l.prog w K mg base C 4 "cut_power" ["self", "torn"] (spDkCut K C Co fun H a ts => SqL K H a (iv ts)) := ⟨_, _, ok_dkcut (P := l.prog) (w := w) (base := base) (K := K) (mg := mg) MF_cut_power T DC ⟨_, _, G1, m1, F1.kp, b1⟩, Mm_cut_power, Mb_cut_power⟩
  have MCT_cut_power : MCalX l.prog w K mg base C 4 "cut_power" ["self", "torn"] (spDkCutT K C Co) := ⟨_, _, ok_dkcutT (P := l.prog) (w := w) (base := base) (K := K) (mg := mg) MF_cut_power T DC ⟨_, _, G1, m1, F1.kp, b1⟩, Mm_cut_power, Mb_cut_power⟩
  have MC_schedule_cut : MCalX l.prog w K mg base C 4 "schedule_cut" ["self", "many", "torn"] (spDkSched K C Co) := ⟨_, _, ok_dksched (P := l.prog) (w := w) (base := base) (K := K) (mg := mg) MF_schedule_cut T DC OO ⟨_, _, G1, m1, F1.kp, b1⟩, Mm_schedule_cut, Mb_schedule_cut⟩
  have MC__count : MCalX l.prog w K mg base C 5 "_count" ["self"] (spDkCount K C Cp fun _ => True) := ⟨_, _, ok_dkcount (P := l.prog) (w := w) (base := base) (K := K) (mg := mg) MF__count DC PC MCT_cut_power, Mm__count, Mb__count⟩
  have MC_read : MCalX l.prog w K mg base C 4 "read" ["self", "at"] (spDkRead K C Co) := ⟨_, _, ok_dkread (P := l.prog) (w := w) (base := base) (K := K) (mg := mg) MF_read T DC MC__check_at, Mm_read, Mb_read⟩
  have MC_flush : MCalX l.prog w K mg base C 6 "flush" ["self"] (spDkFlush K C Cp fun _ => True) := ⟨_, _, ok_dkflush (P := l.prog) (w := w) (base := base) (K := K) (mg := mg) MF_flush T DC MC__count, Mm_flush, Mb_flush⟩
  have MC_write : MCalX l.prog w K mg base C 6 "write" ["self", "at", "block"] (spDkWrite K C Co Cp fun _ => True) := ⟨_, _, ok_dkwrite (P := l.prog) (w := w) (base := base) (K := K) (mg := mg) MF_write T DC OO MC__check_at MC__count ⟨_, _, G0, m0, F0.kp, b0⟩, Mm_write, Mb_write⟩
  have MP_pending_count : MCal l.prog w K mg base C 1 "pending_count" ["self"] (spDkInt K C fun s => (s.wt.length : Nat)) := ⟨_, _, ok_dkpend (P := l.prog) (w := w) (base := base) (K := K) (mg := mg) MF_pending_count T DC, Mm_pending_count, Mb_pending_count⟩
  have MP_cut_count : MCal l.prog w K mg base C 1 "cut_count" ["self"] (spDkInt K C fun s => s.cuts) := ⟨_, _, ok_dkcuts (P := l.prog) (w := w) (base := base) (K := K) (mg := mg) MF_cut_count T DC, Mm_cut_count, Mb_cut_count⟩
  have G2 := ok_cell (P := l.prog) (w := w) (base := base) (K := K) (mg := mg) F2 T 
  have G3 := ok_digitsC (P := l.prog) (w := w) (base := base) (K := K) (mg := mg) F3 T ⟨_, _, G2, m2, F2.kp, b2⟩
  have G4 := ok_draw (P := l.prog) (w := w) (base := base) (K := K) (mg := mg) F4 T 
  have G5 := ok_ltorn (P := l.prog) (w := w) (base := base) (K := K) (mg := mg) F5 T ⟨_, _, G4, m4, F4.kp, b4⟩
  have G6 := ok_lsched (P := l.prog) (w := w) (base := base) (K := K) (mg := mg) F6 DC CT MC_schedule_cut
  have G7 := ok_ldoraw (P := l.prog) (w := w) (base := base) (K := K) (mg := mg) F7 DC MC_write MC_flush
  have G8 := ok_ldo (P := l.prog) (w := w) (base := base) (K := K) (mg := mg) F8 T CT PC ⟨_, _, G7, m7, F7.kp, b7⟩
  exact ok_law (P := l.prog) (w := w) (base := base) (K := K) (mg := mg) F9 T DC ⟨_, _, G3, m3, F3.kp, b3⟩ ⟨_, _, G4, m4, F4.kp, b4⟩ MD MC_read MC_cut_power MP_pending_count MP_cut_count ⟨_, _, G5, m5, F5.kp, b5⟩ ⟨_, _, G6, m6, F6.kp, b6⟩ ⟨_, _, G8, m8, F8.kp, b8⟩
end KX

open PySem PySem.W PyProof.Rows
set_option maxRecDepth 100000 in
set_option maxHeartbeats 0 in
theorem PySem.Challenge.cw_sameanswers_k42_cut_on_schedule_holds : PySem.Challenge.rw_sameanswers_k42_cut_on_schedule.Holds := by
  w_on; o_law; k_head; (case hw => w_witness2)
  k_fill
  refine Ga.walk_G (l := PySem.Challenge.rw_sameanswers_k42_cut_on_schedule) (n := 63) (k := 9) (x := "script") (sp := fun w => KX.spLaw _) rfl (by decide) rfl ⟨rfl, by decide, by decide⟩ (fun w h Y => PySem.W.kIn_of Y) ?zzF (fun _ _ a ns hl _ hS => ⟨a, ns, rfl, hS, hl, fun _ => rfl⟩)
  case zzF =>
    intro w mg fa h hKX G hmg
    refine KX.all_mk hKX G hmg ?zzO
    constructor
    · refine' ⟨_, KX.ErrIn.mk ?go ?sc ?nm ?ini ?sup ?top (PySem.W.exm_ref ?zx1 ?zx2 ?zx3 ?zx4) ⟨?zg1, ?zg2, ?zg3, ?zg4⟩⟩
      (case go => k_is)
      case sc =>
        refine' KX.oexIn ?xL ?vb ?sa ?ex ?ty ?kp ?se ?su ?ve ?an
        (case xL => k_is)
        (case vb => first | rfl | decide | k_is)
        (case sa => k_is)
        (case ex => k_is)
        (case ty => k_is)
        (case kp => k_is)
        (case se => k_is)
        (case su => first | ks_is | k_is)
        (case ve => k_is)
        (case an => k_is)
      (case nm => k_is)
      case ini =>
        refine' KX.supIn ?i ?t ?l ?h ?lc ?v2 ?hf ?ce
        (case i => k_is)
        (case l => k_is)
        (case t => k_is)
        (case h => k_is)
        (case lc => k_is)
        (case v2 => first | rfl | k_is)
        (case hf => first | rfl | decide +kernel | k_is)
        (case ce => k_is)
      (case sup => k_is)
      (case top => first | rfl | decide +kernel | k_is)
      (case zx1 => k_is)
      (case zx2 => k_is)
      (case zx3 => k_is)
      (case zx4 => k_is)
      (case zg1 => k_is)
      (case zg2 => k_is)
      (case zg3 => k_is)
      (case zg4 => k_is)
    · refine' ⟨_, KX.DiskIn.mk ?za (KX.DiskC.mk ⟨?zpg, ?zhd, ?zpo, ?zsa⟩ ?zn0 ?zn1 ?zn2 ?zn3 ?zn4) ?zmk ?zkp ?zmsize ?zmread ?zmwrite ?zmflush ?zmpending_count ?zmcut_count ?zmcut_power ?zmschedule_cut ?zm_check_at ?zm_count ?zm__init__⟩
      (case za => k_is)
      (case zpg => k_is)
      (case zhd => k_is)
      (case zpo => k_is)
      (case zsa => k_is)
      (case zn0 => unfold L2.NoAttr; k_is)
      (case zn1 => unfold L2.NoAttr; k_is)
      (case zn2 => unfold L2.NoAttr; k_is)
      (case zn3 => unfold L2.NoAttr; k_is)
      (case zn4 => unfold L2.NoAttr; k_is)
      (case zmk => k_is)
      (case zkp => k_is)
      case zmsize =>
        refine' KX.mthIn ?za ?zi ?zk ?zl ?zc
        (case za => k_is)
        (case zl => k_is)
        (case zi => k_is)
        (case zk => k_is)
        (case zc => k_is)
      case zmread =>
        refine' KX.mthIn ?za ?zi ?zk ?zl ?zc
        (case za => k_is)
        (case zl => k_is)
        (case zi => k_is)
        (case zk => k_is)
        (case zc => k_is)
      case zmwrite =>
        refine' KX.mthIn ?za ?zi ?zk ?zl ?zc
        (case za => k_is)
        (case zl => k_is)
        (case zi => k_is)
        (case zk => k_is)
        (case zc => k_is)
      case zmflush =>
        refine' KX.mthIn ?za ?zi ?zk ?zl ?zc
        (case za => k_is)
        (case zl => k_is)
        (case zi => k_is)
        (case zk => k_is)
        (case zc => k_is)
      case zmpending_count =>
        refine' KX.mthIn ?za ?zi ?zk ?zl ?zc
        (case za => k_is)
        (case zl => k_is)
        (case zi => k_is)
        (case zk => k_is)
        (case zc => k_is)
      case zmcut_count =>
        refine' KX.mthIn ?za ?zi ?zk ?zl ?zc
        (case za => k_is)
        (case zl => k_is)
        (case zi => k_is)
        (case zk => k_is)
        (case zc => k_is)
      case zmcut_power =>
        refine' KX.mthIn ?za ?zi ?zk ?zl ?zc
        (case za => k_is)
        (case zl => k_is)
        (case zi => k_is)
        (case zk => k_is)
        (case zc => k_is)
      case zmschedule_cut =>
        refine' KX.mthIn ?za ?zi ?zk ?zl ?zc
        (case za => k_is)
        (case zl => k_is)
        (case zi => k_is)
        (case zk => k_is)
        (case zc => k_is)
      case zm_check_at =>
        refine' KX.mthIn ?za ?zi ?zk ?zl ?zc
        (case za => k_is)
        (case zl => k_is)
        (case zi => k_is)
        (case zk => k_is)
        (case zc => k_is)
      case zm_count =>
        refine' KX.mthIn ?za ?zi ?zk ?zl ?zc
        (case za => k_is)
        (case zl => k_is)
        (case zi => k_is)
        (case zk => k_is)
        (case zc => k_is)
      case zm__init__ =>
        refine' KX.mthIn ?za ?zi ?zk ?zl ?zc
        (case za => k_is)
        (case zl => k_is)
        (case zi => k_is)
        (case zk => k_is)
        (case zc => k_is)
    · refine' ⟨_, _, _, KX.PcIn.mk ?zpa ?zpb ?zpc ?zpd ?zpe ?zpf ?zpg (PySem.W.exm_ref ?zx1 ?zx2 ?zx3 ?zx4) (PySem.W.exm_ref ?zx5 ?zx6 ?zx7 ?zx8) ⟨?ze1, ?ze2, ?ze3, ?ze4, ?ze5, ?ze6, ?ze7, ?ze8⟩ (KX.kitB ?zy1 ?zy2 ?zy3 ?zy4) (KX.kitB ?zy5 ?zy6 ?zy7 ?zy8)⟩
      (case zpa => k_is)
      (case zpb => k_is)
      (case zpc => k_is)
      (case zpd => k_exc)
      (case zpe => k_is)
      (case zpf => k_is)
      (case zpg => k_is)
      (case zx1 => k_is)
      (case zx2 => k_is)
      (case zx3 => k_is)
      (case zx4 => k_is)
      (case zx5 => k_is)
      (case zx6 => k_is)
      (case zx7 => k_is)
      (case zx8 => k_is)
      (case ze1 => k_is)
      (case ze2 => k_is)
      (case ze3 => k_is)
      (case ze4 => k_is)
      (case ze5 => k_is)
      (case ze6 => k_is)
      (case ze7 => k_is)
      (case ze8 => k_is)
      (case zy1 => decide)
      (case zy2 => k_is)
      (case zy3 => k_is)
      (case zy4 => k_is)
      (case zy5 => decide)
      (case zy6 => k_is)
      (case zy7 => k_is)
      (case zy8 => k_is)
    · refine' KX.fnIn ?zza ?zzl ?zzc ?zzk
      (case zza => k_is)
      (case zzl => k_is)
      (case zzc => k_is)
      (case zzk => k_is)
    · refine' KX.fnIn ?zza ?zzl ?zzc ?zzk
      (case zza => k_is)
      (case zzl => k_is)
      (case zzc => k_is)
      (case zzk => k_is)
    · refine' KX.fnIn ?zza ?zzl ?zzc ?zzk
      (case zza => k_is)
      (case zzl => k_is)
      (case zzc => k_is)
      (case zzk => k_is)
    · refine' KX.fnIn ?zza ?zzl ?zzc ?zzk
      (case zza => k_is)
      (case zzl => k_is)
      (case zzc => k_is)
      (case zzk => k_is)
    · refine' KX.fnIn ?zza ?zzl ?zzc ?zzk
      (case zza => k_is)
      (case zzl => k_is)
      (case zzc => k_is)
      (case zzk => k_is)
    · refine' KX.fnIn ?zza ?zzl ?zzc ?zzk
      (case zza => k_is)
      (case zzl => k_is)
      (case zzc => k_is)
      (case zzk => k_is)
    · refine' KX.fnIn ?zza ?zzl ?zzc ?zzk
      (case zza => k_is)
      (case zzl => k_is)
      (case zzc => k_is)
      (case zzk => k_is)
    · refine' KX.fnIn ?zza ?zzl ?zzc ?zzk
      (case zza => k_is)
      (case zzl => k_is)
      (case zzc => k_is)
      (case zzk => k_is)
    · refine' KX.fnIn ?zza ?zzl ?zzc ?zzk
      (case zza => k_is)
      (case zzl => k_is)
      (case zzc => k_is)
      (case zzk => k_is)
    · refine' KX.fnIn ?zza ?zzl ?zzc ?zzk
      (case zza => k_is)
      (case zzl => k_is)
      (case zzc => k_is)
      (case zzk => k_is)
    · refine' KX.intIn ?zzz
      (case zzz => k_is)
    · refine' KX.intIn ?zzz
      (case zzz => k_is)
    · refine' KX.intIn ?zzz
      (case zzz => k_is)
    · refine' KX.intIn ?zzz
      (case zzz => k_is)
    · refine' KX.intIn ?zzz
      (case zzz => k_is)
    · k_is
    · k_is
    · k_is
    · k_is
    · k_is
    · k_is
    · k_is
    · k_is
    · k_is
    · k_is
    · k_is
    · k_is
    · k_is
    · k_is
    · k_is
    · k_is
    · k_is
    · k_is
    · k_is
    · k_is
    · k_is
    · k_is
