import PyProof.Rows.All
import Wide.All
import OpenK.AllK
import Wide.FinOn
import HandS.ForMost
import HandS.Walk
import HandS.TupMul
import HandS.Strs
import HandS.DictComp
import HandS.More
import HandS.Iter
import HandS.TupLen
import HandS.TupAny
import HandS.Exc
import HandS.SortOrd
import HandS.SortRule
import KE.KExcSuper
import HandS.ExcInit
import HandS.ExcIs
import HandS.ExcOwn
import HandS.Nested
import HandS.FStr
import HandS.Defaults
import KE.KExcIs
import HandS.ExcField
import HandS.Style
import HandS.DeepEq
import HandS.WordsExc
import HandS.WordsDict
import HandS.CallLocal
import HandS.Star
import KE.KUnpackStar
import HandS.Zip
import KE.GoesMore
import HandS.SetBool
import HandS.SetTxt0
import HandS.Set
import PyProof.Rows.SortShellAny
import HandS.IsInst
import HandS.Codes
import HandS.NoneIn
import KE.KeyNested
import HandS.TupSets
import PyProof.FString5
import PyProof.P3Eq
import HandS.Deep
import PySem.Challenge.RW_sameanswers_k25_feet_and_their_stand
set_option Elab.async false
set_option linter.all false
set_option maxRecDepth 100000
set_option maxHeartbeats 4000000
/-! Ga: defs that are called where no repr is under way (the guards are known to be none), and repr of data. -/
namespace Ga
open PySem PySem.Spec PyProof.Rows L2

/-- one call of a def by its body, at one place -/
theorem body_run {CX : CXT} {P : Program} {w : World} {K : PySem.W.Frag} {mg : Str → Option Value} {base : Heap} {k : Nat}
    {f : Addr} {name qual : Str} {params : Arguments} {body : List Stmt} {scope : Scope} {dV kV doc pm cdv ct oc : Value}
    {an od : Option Addr} {osl : Array (Option Value)} {N ps : List Str} {A : Around} {outer : List Env} {s : Shared} {H : Hp}
    {args : Args} {us : List Value} {vs : List V} {Q : VK} {E : XK} {t : TS}
    (lk : K.lookup f = some ⟨oc, od, .func (PySem.W.fnOf name qual params body scope dV kV doc pm an cdv ct), osl⟩)
    (hcd : PySem.W.codeIn K cdv qual = true) (S : FnScope N ps scope) (hl : vs.length = ps.length) (hr : Room (k + 1) A)
    (e0 : Env0 P w K mg base A outer s H) (hb : BindsTo s (PySem.W.fnOf name qual params body scope dV kV doc pm an cdv ct) args (ps.zip us))
    (r : Vals vs us) (ht : PSs (cxOf CX P w K mg base N qual scope f cdv A outer s H E) body t)
    (hq : t { nx := fun _ H' => Q .non H', rt := Q } (start N vs) H) :
    codeAny (model P w) A (.call (.ref f) args) (CR CX outer P w H s Q E) s := by
  have keep : ∀ b o, base.get? b = some o → s.heap.get? b = some o := fun b o e => (e0.bs b o e).1
  have KX := e0.mod.kin.keeps keep
  have lim := e0.mod.nolimit.keeps keep
  have kinds : ∀ y ∈ ps.zip us, scope.names.lookup y.1 = some .local ∨
      (scope.names.lookup y.1 = some .cell ∧ ((cellsFrom (s.heap.objs.size + 1) scope.names []).lookup y.1).isSome = true) := by
    rintro ⟨n, v⟩ hy
    rcases S.par n (List.of_mem_zip hy).1 with q | q
    · exact Or.inl q
    · exact Or.inr ⟨q, PySem.W.cellsFrom_some _ _ _ (Or.inl q)⟩
  apply codeAny_call_function hr.depth (KX _ _ lk) rfl S.co S.gen rfl (PySem.W.codeRec_of KX hcd)
  apply hb
  apply wpAny_newFunctionEnv_cells S.kind kinds
  rintro env rfl s1 x
  refine ⟨lim.keeps x.toInCall.keep, codeAny_func ?_⟩
  have I := inv_start (CX := CX) (E := E) (cd := cdv) (qual := qual) (f := f) S hr.hd e0 hl r x
  apply wpAny_mono (ht.run [] s1 (start N vs) H _ I hq)
  · intro fl s' hs
    cases fl with
    | ret u =>
      obtain ⟨v, σ', H', J, rv, q⟩ := hs
      exact ⟨v, H', J.os, J.bare, J.base, J.hok, rv, q⟩
    | next =>
      obtain ⟨σ', H', J, q⟩ := hs
      exact ⟨V.non, H', J.os, J.bare, J.base, J.hok, rfl, q⟩
    | brk =>
      obtain ⟨_, _, _, q⟩ := hs
      exact q.elim
    | cont =>
      obtain ⟨_, _, _, q⟩ := hs
      exact q.elim
  · exact fun e s' hs => hs

/-- a def's promise where the guards are none -/
structure FnG (P : Program) (w : World) (K : PySem.W.Frag) (mg : Str → Option Value) (base : Heap) (CX : CXT) (k : Nat) (f : Addr)
    (fd : FuncData) (ps : List Str) (sp : Sp) : Prop where
  len : ∀ vs H Q E, sp vs H Q E → vs.length = ps.length
  run : ∀ (A : Around), A.guards = some [] → ∀ (outer : List Env) (s : Shared) (H : Hp) (args : Args) (us : List Value) (vs : List V)
    (Q : VK) (E : XK), Room k A → Env0 P w K mg base A outer s H → BindsTo s fd args (ps.zip us) → Vals vs us → sp vs H Q E →
    codeAny (model P w) A (.call (.ref f) args) (CR CX outer P w H s Q E) s

section
variable {P : Program} {w : World} {K : PySem.W.Frag} {mg : Str → Option Value} {base : Heap}
theorem FnG.of {CX : CXT} {k : Nat} {f : Addr} {fd : FuncData} {ps : List Str} {sp : Sp} (F : FnOk P w K mg base CX k f fd ps sp) :
    FnG P w K mg base CX k f fd ps sp := ⟨F.len, fun A _ => F.run A⟩
/-- the rule for such a def, no exception leaves it -/
theorem okG {x qual : Str} {st : Stmt} {f : Addr} {fd : FuncData} {N ps : List Str} {k : Nat} {sp : Sp} (F : Fun K x qual st f fd)
    (S : FnScope N ps (defScope st)) (len : ∀ vs H Q E, sp vs H Q E → vs.length = ps.length)
    (hbody : ∀ (cdv : Value) (A : Around), A.guards = some [] → ∀ (outer : List Env) (s : Shared) (H : Hp) (vs : List V) (Q : VK) (E : XK),
      Room k (A.deeper (envOfC qual (defScope st) s.heap.objs.size f cdv)) → sp vs H Q E →
      ∃ t, PSs (cxOf CX0 P w K mg base N qual (defScope st) f cdv A outer s H E).nox (defBody st) t ∧
        t { nx := fun _ H' => Q .non H', rt := Q } (start N vs) H) :
    FnG P w K mg base CX0 (k + 1) f fd ps sp := by
  obtain ⟨oc, od, kV, doc, pm, an, cdv, ct, osl, rfl, lk, hcd⟩ := F.ex
  refine ⟨len, fun A hg outer s H args us vs Q E hr e0 hb r hsp => ?_⟩
  obtain ⟨t, h, q⟩ := hbody cdv A hg outer s H vs Q E (hr.deeper _) hsp
  exact body_run lk hcd S (len _ _ _ _ hsp) hr e0 hb r h.nox q
end

section
variable {X : Cx} {CX : CXT} {k : Nat} {f : Addr} {fd : FuncData} {ps : List Str} {sp : Sp} {dvs : List V} {ds : List Value} {E : XK}
  {x : Str} {p pos : Pos} {e : Expr} {es : List Expr} {t : TA}
/-- a call of such a def -/
theorem pe_callG (hgd : X.A.guards = some []) (F : FnG X.prog X.w X.K X.mg X.base CX k f fd ps sp) (hr : Room k X.A) (hg : Gl X x)
    (hm : X.mg x = some (.ref f)) (hk : PySem.W.keepIn X.K (.ref f) = true) (hb : Binds X.K fd ps ds) (hd : Vals dvs ds)
    (hx : Passes CX X E) (ha : PA X (e :: es) t) (hdb : (x == ("__debug__" : Str)) = false := by decide)
    (he : starEach (e :: es) X.env = (false, eval e X.env) :: starEach es X.env := by rfl)
    (hpl : (backTo pos (starEach es X.env)).any (·.1) = false := by rfl) :
    PE X (.Call (.Name x p) (e :: es) [] pos) (tCall sp dvs E t) := by
  refine ⟨fun pins s σ H Q I h => wpAny_Call_Name_kw (ld_glob I hg hm ?_ hdb)⟩
  refine PySem.W.callWith_K (h₀ := X.base) I.ok.mod.kin hk ?_ he hpl
  refine thn (ha.run pos pins s σ H _ I h) ?_
  rintro us s1 ⟨vs, H1, J, r, q⟩
  have r2 := r.append hd
  have hl : (us ++ ds).length = ps.length := r2.length.symm.trans (F.len _ _ _ _ q)
  refine ⟨J.kIn, wpAny_call (codeAny_mono (F.run X.A hgd X.stack s1 H1 ⟨us, []⟩ _ _ Q E hr J.env0 (hb s1 us J.kIn hl) r2 q) ?_)⟩
  rintro (e | fl) s' hq
  · exact hx pins σ H1 s1 e s' J hq
  · cases fl with
    | ret u => exact J.after hq
    | next => exact hq.elim
    | brk => exact hq.elim
    | cont => exact hq.elim
end

/-! ### repr of data -/
def rRepr (K : PySem.W.Frag) : List V → Hp → VK → Prop := fun xs H Q => ∃ x d, xs = [x] ∧ Dp K H x d ∧ d.showable = true ∧ d.hasDict = false ∧
  d.depth ≤ 40 ∧ d.shown.length ≤ sizeLine ∧ Q (.str d.shown) H
theorem call_reprD {X : Cx} (hgd : X.A.guards = some []) (hu : X.A.units + 64 < cLine) : CallR X (.builtin "repr") (rRepr X.K) := by
  intro pins s σ H xs us Q I r h
  obtain ⟨x, d, rfl, hd, h1, h2, h3, h4, q⟩ := h
  obtain ⟨u, rfl, ru⟩ := vals1 r
  obtain ⟨as, rd⟩ := Dp.reads I d x u hd ru
  cases hd with
  | non =>
    cases ru
    exact PySem.P.repr_of_none ⟨.str _, H, I.tok _, ⟨_, rfl⟩, q⟩
  | bl b =>
    cases ru
    exact PySem.P.repr_of_bool ⟨.str _, H, I.tok _, ⟨_, rfl⟩, q⟩
  | int i =>
    obtain ⟨t, rfl⟩ := ru
    exact PySem.P.repr_of_int (by simpa [PyData.showable] using h1) ⟨.str _, H, I.tok _, ⟨_, rfl⟩, q⟩
  | str z =>
    obtain ⟨t, rfl⟩ := ru
    exact PySem.P.repr_of_str ⟨.str _, H, I.tok _, ⟨_, rfl⟩, q⟩ h4
  | lst hs ha =>
    cases ru
    exact repr_of_reads' rd h1 (fun z => absurd (z.symm.trans h2) (by decide)) hgd (by omega) (fun _ _ e => e)
      (fun h' u tk kp => ⟨.str _, H, I.kept kp, ⟨_, rfl⟩, q⟩) h4
  | tup hs ha =>
    cases ru
    exact repr_of_reads' rd h1 (fun z => absurd (z.symm.trans h2) (by decide)) hgd (by omega) (fun _ _ e => e)
      (fun h' u tk kp => ⟨.str _, H, I.kept kp, ⟨_, rfl⟩, q⟩) h4

end Ga

set_option maxRecDepth 100000
set_option maxHeartbeats 4000000
namespace Ga
open PySem PySem.Spec PyProof.Rows L2

/-- the law's call behind the top, from an abstract heap that tracks the script at most -/
theorem call_at {P : Program} {w : World} {K : PySem.W.Frag} {mg mb : Str → Option Value} {k : Nat} {fa a : Addr} {fd : FuncData} {x : Str}
    {sp : Sp} {s1 : Shared} {vs : List Value} {H : Hp} (KX : K.In s1.heap) (hns : s1.heap.Ns mainGlobals mg)
    (hb : s1.heap.Ns builtinsNs mb) (hbb : ∀ x : Str, x ≠ "__name__" → mb x = bootBuiltins x) (hlim : s1.heap.NoLimit) (hg : s1.gens = #[])
    (ha : s1.heap.get? a = some { cls := .type "list", data := .seq vs.toArray }) (hr : Room k callerA)
    (F : ∀ base : Heap, K.In base → base.Ns mainGlobals mg → FnG P w K mg base CX0 k fa fd [x] sp)
    (hbind : ∀ (s : Shared) (u : Value), BindsTo s fd ⟨[u], []⟩ [(x, u)])
    (hsp : sp [.ref a] H (fun v _ => v = .bl true) E0) (hO : Only H) (hok : HOk P w H s1.heap)
    (hA : ∀ b u, H b = some u → b = a ∧ K.lookup a = none) :
    codeAny (model P w) callerA (.call (.ref fa) ⟨[.ref a], []⟩)
      (fun r s' => r = .ok (.ret (.bool true)) ∧ OldK s1.heap s'.heap ∧ s'.os = s1.os ∧ AllBare s'.gens) s1 := by
  have other : ∀ {b : Addr} {o : Obj}, s1.heap.get? b = some o → (b = a → False) → (hidT s1.heap H).get? b = some o := by
    intro b o e n
    apply hidT_get e
    cases q : H b with
    | none => rfl
    | some u => exact (n (hA b u q).1).elim
  have spaces : ∀ {b : Addr} {m : Str → Option Value}, s1.heap.Ns b m → (hidT s1.heap H).Ns b m := by
    rintro b m ⟨o, es, ep, e, d, r⟩
    refine ⟨o, es, ep, other e fun z => ?_, d, r⟩
    subst z
    rw [ha] at e
    cases e
    cases d
  have hK : K.In (hidT s1.heap H) := by
    intro b o e
    apply hidT_get (KX b o e)
    cases q : H b with
    | none => rfl
    | some u =>
      obtain ⟨z, n⟩ := hA b u q
      subst z
      rw [n] at e
      cases e
  obtain ⟨mc, c1, c2⟩ := hlim
  have M : Mod K mg (hidT s1.heap H) := ⟨hK, spaces hns, ⟨mb, spaces hb, hbb⟩, mc, spaces c1, c2⟩
  have e0 : Env0 P w K mg (hidT s1.heap H) callerA [] s1 H :=
    { frames := rfl, mod := M, bs := fun b o => of_hidT, bsz := Nat.le_of_eq (hidT_size _ _), funs := trivial, frf := fun b z => (List.not_mem_nil z).elim,
      hok := hok, bare := .of_eq hg }
  have R := (F _ hK (spaces hns)).run callerA rfl [] s1 H ⟨[.ref a], []⟩ [.ref a] [.ref a] _ E0 hr e0 (hbind s1 _) (Paired.cons rfl .nil) hsp
  apply codeAny_mono R
  rintro (e | fl) s' h
  · exact h.elim
  · cases fl with
    | next => exact h.elim
    | brk => exact h.elim
    | cont => exact h.elim
    | ret u =>
      obtain ⟨v, H', os, bare, un, ok2, rv, rfl⟩ := h
      cases rv
      refine ⟨rfl, .of_keep fun b o e => ?_, os, bare⟩
      rcases hO b with n | ⟨ob, xs, y⟩
      · exact un.keep b o e n List.not_mem_nil List.not_mem_nil
      · have g1 := (hok b _ y).1
        have g2 := (ok2 b _ (un.frzs b ob _ y)).1
        rw [e] at g1
        cases g1
        exact g2

/-- what k_head leaves, from the promise of the law's def -/
theorem walk_G {l : PySem.W.OpenLaw} {n k : Nat} {q : Program} {loose : List Str} {XP : (Str → Option Value) → Heap → Prop}
    {YP : World → Heap → Prop} {d : DefRec} {K : Params → PySem.W.Frag} {sp : World → Sp} {x : Str}
    (hn : l.most = some n) (hz : n ≤ sizeLine) (hdf : d.params.defaults = []) (hr : Room k callerA)
    (hY : ∀ (w : World) (h : Heap), YP w h → (K w.params).In h)
    (F : ∀ (w : World) (mg : Str → Option Value) (fa : Addr) (h : Heap), (K w.params).In h → h.Ns mainGlobals mg → mg d.name = some (.ref fa) →
      ∃ fd : FuncData, (∀ (s : Shared) (u : Value), BindsTo s fd ⟨[u], []⟩ [(x, u)]) ∧ ∀ base : Heap, (K w.params).In base →
        base.Ns mainGlobals mg → FnG l.prog w (K w.params) mg base CX0 k fa fd [x] (sp w))
    (hsp : ∀ (w : World) (H : Hp) (a : Addr) (ns : List Int), ns.length ≤ n → Only H → SqL (K w.params) H a (ns.map V.int) →
      sp w [.ref a] H (fun v _ => v = .bl true) E0) :
    PySem.W.WalkO q loose XP YP l.row.toRowW d [] (fun f vs => PySem.call f vs) := by
  apply Att.attach_call hn hdf
  intro w s0 s1 mg mb fa o pm cd doc a vs ns G Y ho hd hcd hmg hobj hi hlen hg
  have KX := hY w _ Y
  obtain ⟨fd, hb, hF⟩ := F w mg fa _ KX G.T.g hmg
  have rv := vals_ints hi
  have hm : (ns.map V.int).length ≤ sizeLine := by rw [List.length_map]; omega
  cases hk : (K w.params).lookup a with
  | some ob =>
    have e := KX a ob hk
    rw [hobj] at e
    cases e
    refine call_at (H := fun _ => none) KX G.T.g G.T.b G.T.builtins G.T.nolimit hg hobj hr hF hb ?_ (fun _ => Or.inl rfl) (fun b u z => nomatch z) (fun b u z => nomatch z)
    refine hsp w _ a ns hlen (fun _ => Or.inl rfl) (Or.inr ⟨_, vs.toArray, _, hk, rfl, rfl, rfl, ?_, ?_⟩)
    · rw [List.size_toArray, hi.length]; omega
    · simpa using rv
  | none =>
    let ob : Obj := { cls := .type "list", data := .seq vs.toArray }
    let H : Hp := fun b => if b = a then some (.frz ob (.lst (ns.map V.int))) else none
    have at_a : ∀ b u, H b = some u → b = a ∧ u = .frz ob (.lst (ns.map V.int)) := by
      intro b u z
      by_cases hb : b = a
      · have z2 := (if_pos hb).symm.trans z
        cases z2
        exact ⟨hb, rfl⟩
      · have z2 := (if_neg hb).symm.trans z
        cases z2
    have only : Only H := by
      intro b
      by_cases hb : b = a
      · exact Or.inr ⟨ob, ns.map V.int, if_pos hb⟩
      · exact Or.inl (if_neg hb)
    refine call_at (H := H) KX G.T.g G.T.b G.T.builtins G.T.nolimit hg hobj hr hF hb ?_ only ?_ fun b u z => ⟨(at_a b u z).1, hk⟩
    · exact hsp w H a ns hlen only (Or.inl (Or.inr ⟨ob, if_pos rfl⟩))
    · intro b u z
      obtain ⟨rfl, rfl⟩ := at_a b u z
      exact ⟨hobj, hm, vs, _, rv, hobj⟩
end Ga

set_option maxRecDepth 100000
set_option maxHeartbeats 4000000
namespace Ga
open PySem PySem.Spec PyProof.Rows L2 TL

theorem same_upd {H : Hp} {p : Addr} {o : HO} (h : H p = none) : Same H (upd H p o) := fun b x e => by
  rw [upd_ne (ne_of_none e h)]; exact e
theorem _root_.L2.Same.mut {H H' : Hp} {p : Addr} {o : HO} (s : Same H H') (h : H p = none) : Same H (upd H' p o) := fun b x e => by
  rw [upd_ne (ne_of_none e h)]; exact s b x e
theorem _root_.L2.Same.lst {H H' : Hp} {p : Addr} {xs : List V} (s : Same H H') (h : H p = some (.lst xs)) : H' p = some (.lst xs) := s _ _ h
theorem _root_.L2.Same.seqT {K : PySem.W.Frag} {H H' : Hp} {a : Addr} {xs : List V} (e : Same H H') (h : SqT K H a xs) : SqT K H' a xs := by
  rcases h with (h | ⟨o, h⟩) | h
  · exact .inl (.inl (e _ _ h))
  · exact .inl (.inr ⟨o, e _ _ h⟩)
  · exact .inr h
theorem sqL {K : PySem.W.Frag} {H : Hp} {a : Addr} {xs : List V} (h : H a = some (.lst xs)) : SqL K H a xs := .inl (.inl h)
theorem sqT {K : PySem.W.Frag} {H : Hp} {a : Addr} {xs : List V} (h : H a = some (.tup xs)) : SqT K H a xs := .inl (.inl h)
theorem wipe_set (σ : L2.St) (i : Nat) (v : Option V) : wipe ((wipe σ [i]).set i v) [i] = wipe σ [i] := by
  show ((σ.set i none).set i v).set i none = σ.set i none
  rw [List.set_set, List.set_set]
theorem size_tl (z : Str) : z.cps.size = (tl z).length := by simp [tl]
theorem get_tl {z : Str} {i c : Nat} (h : z.cps[i]? = some c) : (tl z)[i]? = some c := by simpa [tl] using h
theorem take_map_succ {α : Type} {f : α → V} {l : List α} {i : Nat} {c : α} (h : l[i]? = some c) : (l.take (i + 1)).map f = (l.take i).map f ++ [f c] := by
  rw [List.take_add_one, h, List.map_append]; rfl

section
variable {K : PySem.W.Frag} {σ : L2.St} {H : Hp} {Q : VK} {te ta tb : TE}
/-- a comprehension [e for c in text] whose element is a value of the sign -/
theorem lc_str {z : Str} {i j : Nat} {f : Nat → V} (hz : (tl z).length ≤ 100000) (hj : σ[j]? = some (some (.str z)))
    (he : ∀ c ∈ tl z, ∀ (H2 : Hp) (R : VK), Same H H2 → (∀ H3, Same H2 H3 → R (f c) H3) → te ((wipe σ [i]).set i (some (.str ⟨#[c]⟩))) H2 R)
    (hq : ∀ D H', Same H H' → H D = none → H' D = some (.lst ((tl z).map f)) → Q (.ref D) H') :
    tLc (iStr (tVar j)) (gName i) tYes te [i] σ H Q := by
  refine ⟨_, hj, z, rfl, fun D nD => ?_⟩
  refine lc_it (walk_str (z := z)) (fun m H' => Same H H' ∧ H' D = some (.lst (((tl z).take m).map f))) ⟨same_upd nD, upd_same⟩ (fun _ _ _ _ => trivial) ?_ ?_
  · rintro m x H2 H3 hm ⟨s, d⟩ ⟨rfl, c, hc, rfl⟩
    have hg := get_tl hc
    refine ⟨wipe_set _ _ _, ?_⟩
    dsimp only [tYes]
    rw [if_pos rfl]
    refine he c (List.mem_of_getElem? hg) _ _ s fun H4 s4 => ?_
    refine ⟨_, s4 _ _ d, ?_, (s.trans s4).mut nD, ?_⟩
    · rw [List.length_map, List.length_take]
      exact Nat.lt_of_le_of_lt (Nat.le_trans (Nat.min_le_right _ _) hz) (by decide)
    · rw [upd_same, take_map_succ hg]
  · rintro H2 ⟨s, d⟩
    rw [size_tl, List.take_length] at d
    exact hq D _ s nD d
/-- the same over a list, a tuple -/
theorem lc_seq {xs : List V} {i : Nat} {f : V → V} {J : It} (w : Walk J xs.length (fun H' => Same H H') (YAt xs)) (hz : xs.length ≤ 100000)
    (he : ∀ c ∈ xs, ∀ (H2 : Hp) (R : VK), Same H H2 → (∀ H3, Same H2 H3 → R (f c) H3) → te ((wipe σ [i]).set i (some c)) H2 R)
    (hq : ∀ D H', Same H H' → H D = none → H' D = some (.lst (xs.map f)) → Q (.ref D) H') (D : Addr) (nD : H D = none) :
    ∃ W : Nat → Nat → Hp → Prop, (∃ m, W 0 m (upd H D (.lst []))) ∧ ∀ i' m H', W i' m H' →
      (J.stop i' H' ∧ Q (.ref D) H') ∨ (J.go i' H' ∧ ∃ Nx : Hp → Prop, (∀ H', Nx H' → ∃ m', m' < m ∧ W (i' + 1) m' H') ∧ ∀ x H2, J.yld i' H' x H2 → gName i x (wipe σ [i]) H2 fun σ2 H2 => wipe σ2 [i] = wipe σ [i] ∧ tYes σ2 H2 fun b H3 =>
        if b = true then te σ2 H3 fun y H4 => ∃ acc, H4 D = some (.lst acc) ∧ acc.length < sizeLine ∧ Nx (upd H4 D (.lst (acc ++ [y]))) else Nx H3) := by
  refine lc_it w (fun m H' => Same H H' ∧ H' D = some (.lst ((xs.take m).map f))) ⟨same_upd nD, upd_same⟩ (fun _ _ _ q => q.1) ?_ ?_
  · rintro m x H2 H3 hm ⟨s, d⟩ ⟨rfl, hg⟩
    refine ⟨wipe_set _ _ _, ?_⟩
    dsimp only [tYes]
    rw [if_pos rfl]
    refine he x (List.mem_of_getElem? hg) _ _ s fun H4 s4 => ?_
    refine ⟨_, s4 _ _ d, ?_, (s.trans s4).mut nD, ?_⟩
    · rw [List.length_map, List.length_take]
      exact Nat.lt_of_le_of_lt (Nat.le_trans (Nat.min_le_right _ _) hz) (by decide)
    · rw [upd_same, take_map_succ hg]
  · rintro H2 ⟨s, d⟩
    rw [List.take_length] at d
    exact hq D _ s nD d
theorem same_walkL {a : Addr} {xs : List V} (h : SqL K H a xs) : Walk (Itl K a) xs.length (fun H' => Same H H') (YAt xs) :=
  walk_list.mono (fun _ s => s.seq h) fun _ _ _ _ _ _ y => y
theorem same_walkT {a : Addr} {xs : List V} (h : SqT K H a xs) : Walk (Itt K a) xs.length (fun H' => Same H H') (YAt xs) :=
  walk_tup.mono (fun _ s => s.seqT h) fun _ _ _ _ _ _ y => y
/-- all([e for c in text]) -/
theorem all_str {z : Str} {i j : Nat} {p : Nat → Bool} (hz : (tl z).length ≤ 100000) (hj : σ[j]? = some (some (.str z)))
    (he : ∀ c ∈ tl z, ∀ (H2 : Hp) (R : VK), Same H H2 → (∀ H3, Same H2 H3 → R (.bl (p c)) H3) → te ((wipe σ [i]).set i (some (.str ⟨#[c]⟩))) H2 R)
    (hq : ∀ H', Same H H' → Q (.bl ((tl z).all p)) H') :
    tCB (rAll K) (tCons (tLc (iStr (tVar j)) (gName i) tYes te [i]) tNil) σ H Q := by
  show tLc (iStr (tVar j)) (gName i) tYes te [i] σ H fun x H1 => rAll K [x] H1 Q
  refine lc_str (f := fun c => .bl (p c)) hz hj he fun D H' s nD e => ?_
  refine ⟨D, (tl z).map p, rfl, sqL (by rw [e, List.map_map]; rfl), ?_⟩
  rw [List.all_map]
  exact hq _ s
/-- all([e for c in xs]), xs a list or a tuple -/
theorem all_list {a : Addr} {xs : List V} {i : Nat} {p : V → Bool} {tl0 : TE} (hl : ∀ R : VK, R (.ref a) H → tl0 σ H R) (hs : SqL K H a xs) (hz : xs.length ≤ 100000)
    (he : ∀ c ∈ xs, ∀ (H2 : Hp) (R : VK), Same H H2 → (∀ H3, Same H2 H3 → R (.bl (p c)) H3) → te ((wipe σ [i]).set i (some c)) H2 R)
    (hq : ∀ H', Same H H' → Q (.bl (xs.all p)) H') :
    tCB (rAll K) (tCons (tLc (iList K tl0) (gName i) tYes te [i]) tNil) σ H Q := by
  refine hl _ ⟨a, rfl, ⟨xs, hs⟩, fun D nD => ?_⟩
  refine lc_seq (f := fun c => .bl (p c)) (Q := fun x H1 => rAll K [x] H1 Q) (same_walkL hs) hz he (fun D H' s nD e => ?_) D nD
  refine ⟨D, xs.map p, rfl, sqL (by rw [e, List.map_map]; rfl), ?_⟩
  rw [List.all_map]
  exact hq _ s
theorem all_tup {a : Addr} {xs : List V} {i : Nat} {p : V → Bool} {tl0 : TE} (hl : ∀ R : VK, R (.ref a) H → tl0 σ H R) (hs : SqT K H a xs) (hz : xs.length ≤ 100000)
    (he : ∀ c ∈ xs, ∀ (H2 : Hp) (R : VK), Same H H2 → (∀ H3, Same H2 H3 → R (.bl (p c)) H3) → te ((wipe σ [i]).set i (some c)) H2 R)
    (hq : ∀ H', Same H H' → Q (.bl (xs.all p)) H') :
    tCB (rAll K) (tCons (tLc (iTup K tl0) (gName i) tYes te [i]) tNil) σ H Q := by
  refine hl _ ⟨a, rfl, ⟨xs, hs⟩, fun D nD => ?_⟩
  refine lc_seq (f := fun c => .bl (p c)) (Q := fun x H1 => rAll K [x] H1 Q) (same_walkT hs) hz he (fun D H' s nD e => ?_) D nD
  refine ⟨D, xs.map p, rfl, sqL (by rw [e, List.map_map]; rfl), ?_⟩
  rw [List.all_map]
  exact hq _ s
theorem var_is {i : Nat} {v : V} (h : σ[i]? = some (some v)) : ∀ R : VK, R v H → tVar i σ H R := fun R q => ⟨v, h, q⟩
end
end Ga

set_option maxRecDepth 100000
set_option maxHeartbeats 4000000
namespace Ga
open PySem PySem.Spec PyProof.Rows L2 TL
theorem spl_le (S : List Nat) : ∀ (l : List Nat) (k : Nat) (acc p : List Nat), p ∈ spl S k acc l → p.length ≤ acc.length + l.length
  | [], k, acc, p, h => by
    rw [spl_nil] at h
    cases List.mem_singleton.mp h
    exact Nat.le_add_right _ _
  | c :: r, 0, acc, p, h => by
    cases e : pre S (c :: r) with
    | true =>
      rw [spl_hit e] at h
      rcases List.mem_cons.mp h with rfl | h
      · exact Nat.le_add_right _ _
      · have := spl_le S r _ _ p h
        simp at this ⊢
        omega
    | false =>
      rw [spl_miss e] at h
      have := spl_le S r _ _ p h
      simp at this ⊢
      omega
  | c :: r, k + 1, acc, p, h => by
    have := spl_le S r k acc p h
    simp at this ⊢
    omega
theorem spl_len (S : List Nat) : ∀ (l : List Nat) (k : Nat) (acc : List Nat), (spl S k acc l).length ≤ l.length + 1
  | [], k, acc => by rw [spl_nil]; exact Nat.le_refl _
  | c :: r, 0, acc => by
    cases e : pre S (c :: r) with
    | true =>
      rw [spl_hit e]
      have := spl_len S r (S.length - 1) []
      simp
      omega
    | false =>
      rw [spl_miss e]
      have := spl_len S r 0 (acc ++ [c])
      simp
      omega
  | c :: r, k + 1, acc => by
    have := spl_len S r k acc
    show (spl S k acc r).length ≤ _
    simp
    omega
theorem spl_ne (S : List Nat) : ∀ (l : List Nat) (k : Nat) (acc : List Nat), spl S k acc l ≠ []
  | [], k, acc => by rw [spl_nil]; exact List.cons_ne_nil _ _
  | c :: r, 0, acc => by
    cases e : pre S (c :: r) with
    | true => rw [spl_hit e]; exact List.cons_ne_nil _ _
    | false => rw [spl_miss e]; exact spl_ne S r _ _
  | c :: r, k + 1, acc => spl_ne S r k acc
theorem spl_mem (S : List Nat) : ∀ (l : List Nat) (k : Nat) (acc p : List Nat), p ∈ spl S k acc l → ∀ c ∈ p, c ∈ acc ∨ c ∈ l
  | [], k, acc, p, h => by
    rw [spl_nil] at h
    cases List.mem_singleton.mp h
    exact fun c hc => .inl hc
  | d :: r, 0, acc, p, h => by
    cases e : pre S (d :: r) with
    | true =>
      rw [spl_hit e] at h
      rcases List.mem_cons.mp h with rfl | h
      · exact fun c hc => .inl hc
      · intro c hc
        rcases spl_mem S r _ _ p h c hc with h1 | h1
        · cases h1
        · exact .inr (List.mem_cons_of_mem _ h1)
    | false =>
      rw [spl_miss e] at h
      intro c hc
      rcases spl_mem S r _ _ p h c hc with h1 | h1
      · rcases List.mem_append.mp h1 with h2 | h2
        · exact .inl h2
        · cases List.mem_singleton.mp h2
          exact .inr List.mem_cons_self
      · exact .inr (List.mem_cons_of_mem _ h1)
  | d :: r, k + 1, acc, p, h => fun c hc => by
    rcases spl_mem S r k acc p h c hc with h1 | h1
    · exact .inl h1
    · exact .inr (List.mem_cons_of_mem _ h1)
abbrev sl : Str := "/"
theorem tl_sl : tl sl = [47] := by decide +kernel
theorem split_eq (x : Str) : (Txt.split x sl).map tl = spl (tl sl) 0 [] (tl x) := split_spl x sl (by rw [tl_sl]; exact List.cons_ne_nil _ _) (kind_ok (by decide +kernel))
theorem split_le {x p : Str} (h : p ∈ Txt.split x sl) : (tl p).length ≤ (tl x).length := by
  have h2 : tl p ∈ (Txt.split x sl).map tl := List.mem_map_of_mem h
  rw [split_eq] at h2
  have := spl_le _ _ _ _ _ h2
  simp at this
  omega
theorem splitLen (x : Str) : (Txt.split x sl).length ≤ (tl x).length + 1 := by
  have h := congrArg List.length (split_eq x)
  rw [List.length_map] at h
  rw [h]
  exact spl_len _ _ _ _
theorem split_ne (x : Str) : Txt.split x sl ≠ [] := fun e => by
  have h := split_eq x
  rw [e] at h
  exact spl_ne _ _ _ _ h.symm
theorem starts_pre (x y : Str) (hy : tl y ≠ []) : Txt.startswith x y = pre (tl y) (tl x) := by
  have h := at_iff (x := x) (y := y) hy 0
  rw [List.drop_zero] at h
  rw [Bool.eq_iff_iff, ← h]
  unfold Txt.startswith
  rw [Bool.and_eq_true, decide_eq_true_eq]
  exact Iff.rfl
/-- a path lies inside a place -/
def inside (path place : Str) : Bool := decide (place = "") || pre (tl (place ++ sl)) (tl path)
theorem tl_ps (place : Str) : tl (place ++ sl) = tl place ++ [47] := by rw [tl_append, tl_sl]
theorem inside_starts (path place : Str) : Txt.startswith path (place ++ sl) = pre (tl (place ++ sl)) (tl path) :=
  starts_pre _ _ (by rw [tl_ps]; simp)
theorem tl_cut (z : Str) (n : Nat) : tl (cutS z none (some (n : Int))) = (tl z).take n := by
  unfold cutS
  rw [HT.sIx_none, show HT.sIx z.length z.length (some (n : Int)) = min n z.length from HT.sIx_nat z.length z.length n, tl_mk, List.drop_zero, Nat.sub_zero]
  rw [len_tl]
  exact (List.take_eq_take_min).symm
theorem inside_cut (path place : Str) : decide (V.str (cutS path none (some ((place.length : Int) + 1))) = V.str (place ++ sl)) = pre (tl (place ++ sl)) (tl path) := by
  have e1 : ((place.length : Int) + 1) = ((place.length + 1 : Nat) : Int) := by omega
  have e2 : (tl (place ++ sl)).length = place.length + 1 := by rw [tl_ps, List.length_append, ← len_tl]; rfl
  rw [Bool.eq_iff_iff, decide_eq_true_eq, e1]
  unfold pre
  rw [e2, beq_iff_eq, ← tl_cut]
  exact ⟨fun h => by rw [V.str.inj h], fun h => by rw [ext_tl h]⟩
end Ga

set_option maxRecDepth 100000
set_option maxHeartbeats 4000000
namespace Ga
open PySem PySem.Spec PyProof.Rows L2 TL
/-- all but the object at B stays -/
def Kp (B : Addr) (H H' : Hp) : Prop := ∀ b o, b ≠ B → H b = some o → H' b = some o
theorem Kp.refl (B : Addr) (H : Hp) : Kp B H H := fun _ _ _ h => h
theorem Kp.trans {B : Addr} {H H1 H2 : Hp} (a : Kp B H H1) (b : Kp B H1 H2) : Kp B H H2 := fun c o n h => b c o n (a c o n h)
theorem Kp.same {B : Addr} {H H1 : Hp} (a : Same H H1) : Kp B H H1 := fun c o _ h => a c o h
theorem Kp.new {B l : Addr} {H H1 : Hp} {o : HO} (h : H l = none) (a : Kp B (upd H l o) H1) : Kp B H H1 := fun c u n e =>
  a c u n (by rw [upd_ne (ne_of_none e h)]; exact e)
theorem Kp.back {B l : Addr} {H H1 : Hp} {o : HO} (a : Kp B H H1) (h : H l = none) : Kp B H (upd H1 l o) := fun c u n e => by
  rw [upd_ne (ne_of_none e h)]; exact a c u n e
theorem Kp.seqL {K : PySem.W.Frag} {B a : Addr} {H H' : Hp} {xs : List V} (k : Kp B H H') (n : a ≠ B) (h : SqL K H a xs) : SqL K H' a xs := by
  rcases h with (h | ⟨o, h⟩) | h
  · exact .inl (.inl (k _ _ n h))
  · exact .inl (.inr ⟨o, k _ _ n h⟩)
  · exact .inr h
theorem Kp.seqT {K : PySem.W.Frag} {B a : Addr} {H H' : Hp} {xs : List V} (k : Kp B H H') (n : a ≠ B) (h : SqT K H a xs) : SqT K H' a xs := by
  rcases h with (h | ⟨o, h⟩) | h
  · exact .inl (.inl (k _ _ n h))
  · exact .inl (.inr ⟨o, k _ _ n h⟩)
  · exact .inr h
/-- the box of the law at B: its digits, how many are drawn -/
structure Box (H : Hp) (B D : Addr) : Prop where
  ex : ∃ (ds : List Int) (i : Int), H B = some (.lst [.ref D, .int i]) ∧ 0 ≤ i ∧ D ≠ B ∧ H D = some (.lst (ds.map V.int))
theorem Box.same {H H' : Hp} {B D : Addr} (b : Box H B D) (s : Same H H') : Box H' B D := by
  obtain ⟨ds, i, h1, h2, h3, h4⟩ := b.ex
  exact ⟨ds, i, s _ _ h1, h2, h3, s _ _ h4⟩
theorem Box.ne {H : Hp} {B D l : Addr} (b : Box H B D) (h : H l = none) : l ≠ B := fun e => by
  obtain ⟨ds, i, h1, h2, h3, h4⟩ := b.ex
  rw [← e, h] at h1
  cases h1
theorem Box.neD {H : Hp} {B D l : Addr} (b : Box H B D) (h : H l = none) : l ≠ D := fun e => by
  obtain ⟨ds, i, h1, h2, h3, h4⟩ := b.ex
  rw [← e, h] at h4
  cases h4
theorem Box.put {H : Hp} {B D l : Addr} {o : HO} (b : Box H B D) (h1 : l ≠ B) (h2 : l ≠ D) : Box (upd H l o) B D := by
  obtain ⟨ds, i, g1, g2, g3, g4⟩ := b.ex
  exact ⟨ds, i, by rw [upd_ne h1.symm]; exact g1, g2, g3, by rw [upd_ne h2.symm]; exact g4⟩
theorem Box.new {H : Hp} {B D l : Addr} {o : HO} (b : Box H B D) (h : H l = none) : Box (upd H l o) B D := b.same (same_upd h)
/-- a draw below m -/
def spDraw : Sp := fun vs H Q _ => ∃ (B D : Addr) (m : Int), vs = [.ref B, .int m] ∧ 0 < m ∧ Box H B D ∧ ∀ (r : Int) (H' : Hp), 0 ≤ r → r < m → Kp B H H' → Box H' B D → Q (.int r) H'
/-- a value out of the box -/
def spBox (R : Hp → V → Hp → Prop) : Sp := fun vs H Q _ => ∃ B D : Addr, vs = [.ref B] ∧ Box H B D ∧ ∀ (v : V) (H' : Hp), R H v H' → Kp B H H' → Box H' B D → Q v H'

/-! ### displays of constants -/
def constsOf : List Expr → Option (List V)
  | [] => some []
  | .Constant (.str z) _ _ :: r => (constsOf r).map (V.str z :: ·)
  | .Constant (.int i) _ _ :: r => (constsOf r).map (V.int i :: ·)
  | _ => none
def tVals (vs : List V) : TA := fun _ H Q => Q vs H
theorem pa_consts {X : Cx} : ∀ {es : List Expr} {vs : List V}, constsOf es = some vs → PA X es (tVals vs)
  | [], vs, h => by
    cases h
    exact pa_nil
  | .Constant (.str z) k p :: r, vs, h => by
    have h2 : (constsOf r).map (V.str z :: ·) = some vs := h
    cases e : constsOf r with
    | none => rw [e] at h2; cases h2
    | some l =>
      rw [e] at h2
      cases h2
      exact pa_cons pe_str (pa_consts e)
  | .Constant (.int i) k p :: r, vs, h => by
    have h2 : (constsOf r).map (V.int i :: ·) = some vs := h
    cases e : constsOf r with
    | none => rw [e] at h2; cases h2
    | some l =>
      rw [e] at h2
      cases h2
      exact pa_cons pe_int (pa_consts e)
/-! ### text * number -/
def rMulS : R2 := fun x y H Q => ∃ (z : Str) (n : Int), x = .str z ∧ y = .int n ∧ 0 ≤ n ∧ n ≤ 1000 ∧ (tl z).length ≤ 1000 ∧ ∀ r : Str, tl r = (List.replicate n.toNat (tl z)).flatten → Q (.str r) H
theorem flat_arr (z : Array Nat) : ∀ (n : Nat) (acc : Array Nat), ((List.replicate n z).foldl (· ++ ·) acc).toList = acc.toList ++ (List.replicate n z.toList).flatten
  | 0, acc => by simp
  | n + 1, acc => by
    rw [List.replicate_succ, List.foldl_cons, flat_arr z n, List.replicate_succ, List.flatten_cons, Array.toList_append, List.append_assoc]
theorem flat_len {α : Type} (l : List α) : ∀ n : Nat, (List.replicate n l).flatten.length = n * l.length
  | 0 => by simp
  | n + 1 => by rw [List.replicate_succ, List.flatten_cons, List.length_append, flat_len l n, Nat.succ_mul, Nat.add_comm]
theorem op_mulS {X : Cx} : OpR X (binaryOp .Mult) rMulS := by
  intro pins s σ H x y v u Q I rx ry h
  obtain ⟨z, n, rfl, rfl, h0, h1, hz, q⟩ := h
  obtain ⟨t, rfl⟩ := rx
  obtain ⟨t2, rfl⟩ := ry
  have hl : z.length = (tl z).length := len_tl z
  have e63 : (2 : Int) ^ 63 = 9223372036854775808 := by decide
  refine PySem.P.mul_str ?_ (fun a b => ?_) (fun a b => ?_) ?_
  · rw [decide_eq_false (by omega), decide_eq_false (by omega)]
    rfl
  · have : (2 ^ 63 - 1 : Int) / n ≥ (2 ^ 63 - 1 : Int) / 1000 := by
      rw [e63]
      apply Int.le_ediv_of_mul_le (by omega)
      have : (9223372036854775808 - 1 : Int) / 1000 = 9223372036854775 := by decide
      rw [this]
      have := Int.mul_le_mul_of_nonneg_left h1 (show (0 : Int) ≤ 9223372036854775 by decide)
      omega
    have e2 : (2 ^ 63 - 1 : Int) / 1000 = 9223372036854775 := by decide
    omega
  · have : z.length * n.toNat ≤ 1000 * 1000 := Nat.mul_le_mul (by omega) (by omega)
    have s1 : sizeLine = 16777216 := by decide
    exact decide_eq_false (by omega)
  · split
    · have e0 : n.toNat = 0 := by omega
      refine ⟨by decide, .str Str.empty, H, I.tok _, ⟨_, rfl⟩, q _ ?_⟩
      rw [e0]
      rfl
    · split
      · rename_i g1 g2
        refine ⟨.str z, H, I, ⟨_, rfl⟩, q z ?_⟩
        rw [Bool.or_eq_true, beq_iff_eq, beq_iff_eq] at g2
        rcases g2 with g2 | g2
        · rw [g2]
          show tl z = tl z ++ []
          rw [List.append_nil]
        · have e0 : tl z = [] := List.length_eq_zero_iff.mp (by rw [← hl]; exact g2)
          have := flat_len (tl z) n.toNat
          rw [e0] at this ⊢
          exact (List.length_eq_zero_iff.mp (by simpa using this)).symm
      · have e : tl ⟨(List.replicate n.toNat z.cps).foldl (· ++ ·) #[]⟩ = (List.replicate n.toNat (tl z)).flatten := flat_arr z.cps n.toNat #[]
        have s1 : sizeLine = 16777216 := by decide
        refine ⟨?_, .str _, H, I.tok _, ⟨_, rfl⟩, q _ e⟩
        rw [len_tl, e, flat_len]
        have : n.toNat * (tl z).length ≤ 1000 * 1000 := Nat.mul_le_mul (by omega) (by omega)
        omega
/-! ### picks out of a written list -/
section
variable {K : PySem.W.Frag} {σ : L2.St} {H : Hp} {Q : VK} {i : Nat} {B D : Addr} {n : Int} {vs : List V}
theorem draw_is (h0 : 0 < n) (hB : σ[i]? = some (some (.ref B))) (bx : Box H B D) (hq : ∀ (r : Int) (H' : Hp), 0 ≤ r → r < n → Kp B H H' → Box H' B D → Q (.int r) H') :
    tCall spDraw [] E0 (tCons (tVar i) (tCons (tC (.int n)) tNil)) σ H Q := ⟨_, hB, B, D, n, rfl, h0, bx, hq⟩
theorem pick_at {l : Addr} (hn : n = (vs.length : Int)) (h0 : 0 < n) (hl : H l = some (.lst vs)) (ne : l ≠ B) (hB : σ[i]? = some (some (.ref B))) (bx : Box H B D)
    (hq : ∀ v ∈ vs, ∀ H', Kp B H H' → Box H' B D → Q v H') :
    tCall spDraw [] E0 (tCons (tVar i) (tCons (tC (.int n)) tNil)) σ H fun y H2 => rIxL K (.ref l) y H2 Q := by
  refine draw_is h0 hB bx fun r H' r0 rn kp bx' => ?_
  have hr : r.toNat < vs.length := by omega
  have er : r = ((r.toNat : Nat) : Int) := by omega
  refine ⟨l, vs, r, vs[r.toNat], rfl, rfl, sqL (kp l _ ne hl), ?_, hq _ (List.getElem_mem hr) H' kp bx'⟩
  exact at_of er (List.getElem?_eq_getElem hr)
theorem pick (hn : n = (vs.length : Int)) (h0 : 0 < n) (hz : vs.length ≤ 1000) (hB : σ[i]? = some (some (.ref B))) (bx : Box H B D)
    (hq : ∀ v ∈ vs, ∀ H', Kp B H H' → Box H' B D → Q v H') :
    tOp (rIxL K) (tLst (tVals vs)) (tCall spDraw [] E0 (tCons (tVar i) (tCons (tC (.int n)) tNil))) σ H Q := by
  refine ⟨Nat.le_of_lt (small1000 hz), fun l nl => ?_⟩
  exact pick_at hn h0 upd_same (bx.ne nl) hB (bx.new nl) fun v hv H' kp b => hq v hv H' (kp.new nl) b
end
end Ga

set_option maxRecDepth 100000
set_option maxHeartbeats 4000000
namespace Ga
open PySem PySem.Spec PyProof.Rows L2 TL
section
variable {K : PySem.W.Frag} {σ : L2.St} {H : Hp} {Q : VK} {B Dg : Addr} {te : TE}
/-- [e for k in range(n)], e drawn out of the box -/
theorem lc_rng_box {n i : Nat} {R : V → Prop} {Qd : Hp → Prop} {D : Addr} (nD : H D = none) (bx : Box H B Dg) (hz : n ≤ 100000)
    (he : ∀ (m : Nat) (H2 : Hp) (Q2 : VK), m < n → Box H2 B Dg → Kp B H H2 → (∀ v H3, R v → Kp B H2 H3 → Box H3 B Dg → Q2 v H3) → te ((wipe σ [i]).set i (some (.int (0 + m)))) H2 Q2)
    (hq : ∀ H' vs, Kp B H H' → Box H' B Dg → H' D = some (.lst vs) → vs.length = n → (∀ v ∈ vs, R v) → Qd H') :
    ∃ W : Nat → Nat → Hp → Prop, (∃ m, W 0 m (upd H D (.lst []))) ∧ ∀ i' m H', W i' m H' →
      ((Itr 0 n).stop i' H' ∧ Qd H') ∨ ((Itr 0 n).go i' H' ∧ ∃ Nx : Hp → Prop, (∀ H', Nx H' → ∃ m', m' < m ∧ W (i' + 1) m' H') ∧ ∀ x H2, (Itr 0 n).yld i' H' x H2 → gName i x (wipe σ [i]) H2 fun σ2 H2 => wipe σ2 [i] = wipe σ [i] ∧ tYes σ2 H2 fun b H3 =>
        if b = true then te σ2 H3 fun y H4 => ∃ acc, H4 D = some (.lst acc) ∧ acc.length < sizeLine ∧ Nx (upd H4 D (.lst (acc ++ [y]))) else Nx H3) := by
  have neD : D ≠ B := bx.ne nD
  refine lc_it (walk_range (lo := 0) (n := n)) (fun m H' => Kp B H H' ∧ Box H' B Dg ∧ ∃ vs, H' D = some (.lst vs) ∧ vs.length = m ∧ ∀ v ∈ vs, R v)
    ⟨fun b o _ e => same_upd nD b o e, bx.new nD, [], upd_same, rfl, fun _ h => nomatch h⟩ (fun _ _ _ _ => trivial) ?_ ?_
  · rintro m x H2 H3 hm ⟨kp, b2, vs, hD, hl, hR⟩ ⟨rfl, rfl⟩
    refine ⟨wipe_set _ _ _, ?_⟩
    dsimp only [tYes]
    rw [if_pos rfl]
    refine he m H3 _ hm b2 kp fun v H4 rv kp4 b4 => ?_
    refine ⟨vs, kp4 _ _ neD hD, Nat.lt_of_le_of_lt (show vs.length ≤ 100000 by omega) (by decide), (kp.trans kp4).back nD, b4.put neD (bx.neD nD), vs ++ [v], upd_same, by rw [List.length_append, hl]; rfl, ?_⟩
    · intro u hu
      rcases List.mem_append.mp hu with h | h
      · exact hR u h
      · cases List.mem_singleton.mp h
        exact rv
  · rintro H2 ⟨kp, b2, vs, hD, hl, hR⟩
    exact hq H2 vs kp b2 hD hl hR
end
theorem ixL {X : Cx} {K : PySem.W.Frag} (h : X.K = K) : IxR X (rIxL K) := by
  subst h
  exact ix_list
/-! ### lists of texts as data -/
theorem canAll : ∀ l : List Str, (∀ z ∈ l, PyData.strOk z = true) → PyData.canLayAll0 (l.map PyData.str) = true
  | [], _ => rfl
  | z :: r, h => by
    show (PyData.strOk z && PyData.canLayAll0 (r.map PyData.str)) = true
    rw [h z List.mem_cons_self, canAll r fun y hy => h y (List.mem_cons_of_mem _ hy)]
    rfl
theorem depthAll0 : ∀ l : List Str, PyData.depthAll (l.map PyData.str) = 0
  | [] => rfl
  | z :: r => by
    show max 0 (PyData.depthAll (r.map PyData.str)) = 0
    rw [depthAll0 r]
    rfl
theorem shaped_strs {l : List Str} (h : ∀ z ∈ l, PyData.strOk z = true) : SeqAt.shaped (.list (l.map PyData.str)) = true := by
  unfold SeqAt.shaped
  rw [show PyData.canLay0 (.list (l.map PyData.str)) = PyData.canLayAll0 (l.map PyData.str) from rfl, canAll l h,
    show PyData.depth (.list (l.map PyData.str)) = PyData.depthAll (l.map PyData.str) + 1 from rfl, depthAll0]
  rfl
theorem dpAll_strs {K : PySem.W.Frag} {H : Hp} : ∀ l : List Str, DpAll K H (l.map V.str) (l.map PyData.str)
  | [] => .nil
  | z :: r => .cons (.str z) (dpAll_strs r)
theorem eqv_nil : ∀ l : List PyData, PyData.eqv (.list l) (.list []) = l.isEmpty
  | [] => rfl
  | _ :: _ => rfl
end Ga

set_option maxRecDepth 100000
set_option maxHeartbeats 4000000
/-! Gs: set(xs) of a list of texts, as many as there are. -/
namespace Ga
open PySem PySem.Spec PyProof.Rows L2 TL
/-- how many different ones stand among the first i -/
def cnt (xs : List Str) : Nat → Nat
  | 0 => 0
  | i + 1 => if xs.getD i Str.empty ∈ xs.take i then cnt xs i else cnt xs i + 1
theorem cnt_le (xs : List Str) : ∀ i, cnt xs i ≤ i
  | 0 => Nat.le_refl _
  | i + 1 => by
    have := cnt_le xs i
    unfold cnt
    split <;> omega
theorem getD_get {xs : List Str} {i : Nat} (h : i < xs.length) : xs.getD i Str.empty = xs[i] := by
  rw [List.getD_eq_getElem?_getD, List.getElem?_eq_getElem h]; rfl
theorem take_snoc {xs : List Str} {i : Nat} (h : i < xs.length) : xs.take (i + 1) = xs.take i ++ [xs.getD i Str.empty] := by
  rw [getD_get h, List.take_add_one, List.getElem?_eq_getElem h]; rfl
theorem cnt_nodup (xs : List Str) : ∀ i, i ≤ xs.length → (cnt xs i = i ↔ (xs.take i).Nodup)
  | 0, _ => ⟨fun _ => List.nodup_nil, fun _ => rfl⟩
  | i + 1, hi => by
    have ih := cnt_nodup xs i (by omega)
    have hle := cnt_le xs i
    rw [take_snoc hi, List.nodup_append]
    unfold cnt
    by_cases hm : xs.getD i Str.empty ∈ xs.take i
    · rw [if_pos hm]
      refine ⟨fun e => by omega, fun ⟨_, _, h⟩ => absurd rfl (h _ hm _ List.mem_cons_self)⟩
    · rw [if_neg hm]
      refine ⟨fun e => ⟨ih.mp (by omega), by simp, fun a ha b hb e2 => hm ?_⟩, fun ⟨h, _, _⟩ => by rw [ih.mpr h]⟩
      rw [← List.mem_singleton.mp hb, ← e2]
      exact ha
theorem TL_strs : ∀ {ys : List Str} {us : List Value}, Vals (ys.map V.str) us → StrsAre us ys
  | [], _, .nil => .nil
  | y :: r, _, .cons h t => by
    obtain ⟨k, rfl⟩ := h
    exact .cons y k (TL_strs t)
abbrev inTake (xs : List Str) (i : Nat) : Str → Bool := fun k => decide (k ∈ xs.take i)
section
variable {prog : Program} {w : World} {A : Around} {R : Result → Shared → Prop} {J : Addr} {fp wr : List Addr} {G : Array GenState → Array GenState → Prop}
  {n : Nat} {P : Nat → Value → Prop} {St : Nat → Shared → Prop}
theorem txt_at : ∀ {us : List Value} {xs : List Str}, StrsAre us xs → ∀ (i : Nat) (v : Value), us[i]? = some v → ∃ t, v = .str (xs.getD i Str.empty) t := by
  intro us xs h
  induction h with
  | nil => intro i v e; simp at e
  | cons x t r ih =>
    intro i v e
    cases i with
    | zero => exact ⟨t, by simp at e; rw [← e]; rfl⟩
    | succ i =>
      obtain ⟨u, q⟩ := ih i v (by simpa using e)
      exact ⟨u, q⟩
theorem upd_loop (W : WalksS prog w A.in1 J fp wr G n P St) (Z : Addr) (nf : Z ∉ fp) (xs : List Str) (hx : xs.length = n)
    (hv : ∀ i v, P i v → ∃ t, v = .str (xs.getD i Str.empty) t) (hb : n + 1 < scanBound) (m : Nat) :
    ∀ (i : Nat) (s : Shared), n - i = m → i ≤ n → St i s → s.heap.SetOf (PySem.strKind prog w) Z (inTake xs i) (cnt xs i) →
      (∀ s', Moved (Z :: wr) G s s' → s'.heap.SetOf (PySem.strKind prog w) Z (inTake xs n) (cnt xs n) → R (.ok (.ret .none)) s') →
      codeAny (model prog w) A (.builtin "set.update.loop" ⟨[.ref Z, .ref J], []⟩) R s := by
  have nw : Z ∉ wr := fun z => nf (W.sub _ z)
  have more : ∀ b ∈ wr, b ∈ Z :: wr := fun b => List.mem_cons_of_mem _
  induction m with
  | zero =>
    intro i s e1 e2 st SZ fin
    obtain rfl : i = n := by omega
    apply codeAny_builtin PyProof.Rows.F.entry_set_update_loop
    rw [Around.under_plainId PyProof.Rows.F.plain_set_update_loop]
    change wpAny _ A.in1 (pyNext (.ref J) >>= _) _ _ s
    apply wpAny_bind
    refine W.done s _ _ st fun s' mv => ?_
    refine wpAny_pure (fin s' (mv.mono more) ?_)
    obtain ⟨o, es, ep, t, ho, r⟩ := SZ
    exact ⟨o, es, ep, t, mv.heap Z _ nw ho, r⟩
  | succ m ih =>
    intro i s e1 e2 st SZ fin
    have lt : i < n := by omega
    apply codeAny_builtin PyProof.Rows.F.entry_set_update_loop
    rw [Around.under_plainId PyProof.Rows.F.plain_set_update_loop]
    change wpAny _ A.in1 (pyNext (.ref J) >>= _) _ _ s
    apply wpAny_bind
    refine W.item i s _ _ lt st fun v s' pv' st' mv => ?_
    obtain ⟨t, rfl⟩ := hv i v pv'
    have SZ' : s'.heap.SetOf (PySem.strKind prog w) Z (inTake xs i) (cnt xs i) := by
      obtain ⟨o, es, ep, tb, ho, r⟩ := SZ
      exact ⟨o, es, ep, tb, mv.heap Z _ nw ho, r⟩
    change wpAny _ A.in1 (holding [Value.str (xs.getD i Str.empty) t] (setAdd Z (.str (xs.getD i Str.empty) t)) >>= _) _ _ s'
    apply wpAny_bind
    apply wpAny_holding
    unfold setAdd
    apply wpAny_holding
    apply wpAny_bind
    refine (PySem.strKind prog w).pyHash (k := xs.getD i Str.empty) (strKind_is _ _ _ _) ?_
    have room : cnt xs i + 1 < scanBound := by have := cnt_le xs i; omega
    refine wpAny_setAddHashed_of (knd := PySem.strKind prog w) (s := { s' with toks := s'.toks + 1 }) (strKind_is _ _ _ _) rfl SZ' room fun h' sb S2 => ?_
    have S3 : h'.SetOf (PySem.strKind prog w) Z (inTake xs (i + 1)) (cnt xs (i + 1)) := by
      refine SetOf_congr S2 (fun k => ?_) ?_
      · show (decide (k ∈ xs.take i) || decide (k = xs.getD i Str.empty)) = decide (k ∈ xs.take (i + 1))
        rw [take_snoc (by omega), Bool.eq_iff_iff, Bool.or_eq_true, decide_eq_true_eq, decide_eq_true_eq, decide_eq_true_eq, List.mem_append, List.mem_singleton]
      · show (if decide (xs.getD i Str.empty ∈ xs.take i) = true then cnt xs i else cnt xs i + 1) = cnt xs (i + 1)
        simp only [decide_eq_true_eq]
        rfl
    have apart : ∀ b ∈ fp, b ≠ Z := fun b hb e => nf (e ▸ hb)
    refine wpAny_pure ⟨plainId_quiet PyProof.Rows.F.plain_set_update_loop _, ih (i + 1) _ (by omega) lt ?_ S3 fun s2 mv2 SN => ?_⟩
    · exact W.frame _ s' _ _ st' (Nat.le_succ _) fun b hb o e => (sb.2 b (apart b hb)).trans e
    · exact fin s2 (Moved.trans W.gtrans ((mv.mono more).then_heap (Nat.le_succ _) fun b o hb e => (sb.2 b fun z => hb (z ▸ List.mem_cons_self)).trans e) mv2) SN
end
section
open PyProof.Rows
variable {prog : Program} {w : World} {A : Around} {E : Value → Shared → Prop} {s : Shared}
set_option maxHeartbeats 6400000 in
/-- set(xs) -/
theorem set_txt {l : Addr} {its : Array Value} {xs : List Str} {Q : Value → Shared → Prop} (hh : A.handled = none) (hl : s.heap.IsList l its)
    (hx : StrsAre its.toList xs) (hb : its.size + 1 < scanBound)
    (fin : ∀ (h' : Heap) (tk : Nat), h'.SetOf (PySem.strKind prog w) s.heap.objs.size (inTake xs its.size) (cnt xs its.size) →
      (∀ b o, b < s.heap.objs.size → s.heap.get? b = some o → h'.get? b = some o) → Q (.ref s.heap.objs.size) { s with heap := h', toks := tk }) :
    wpAny (model prog w) A (call (.type "set") [.ref l]) Q E s := by
  obtain ⟨c0, tl0, mro0⟩ := PySem.F.called_set.mro
  have made := PySem.F.called_set.made
  have subs := PySem.F.called_set.sub
  have ntyp := PySem.F.called_set.notType
  have cans := PySem.F.called_set.canCreate
  have tcal := PySem.F.typeCall_set_1 (.ref l)
  have len : xs.length = its.size := by rw [← Array.length_toList]; exact (hx.length).symm
  apply wpAny_call
  apply codeAny_of_tree
  change wpAny _ _ (callAny (.type "set") _) _ _ _
  refine wpAny_pure ⟨Code.quiet_builtin _ (by decide +kernel), codeAny_builtin PySem.F.entry_type_call ?_⟩
  rw [Around.under_plain (weight_type_call_type "set" [.ref l] []) rfl]
  repeat (any_goals (first | assumption | wp_step))
  let Z : Addr := s.heap.objs.size
  let fresh : Bool → Obj := fun led => { cls := .type "set", dict := none, data := .set #[] 0 (.fresh 0 0 led) }
  refine codeAny_mono (code_set_new_1 (.ref l) (E := E) (Q₁ := fun ob s1 => ∃ led : Bool, ob = .ref Z ∧ s1 = { s with heap := s.heap.push (fresh led) })
    fun led => ⟨led, rfl, rfl⟩) ?_
  rintro (e | fl) s1 hr
  · exact hr
  cases fl with
  | next => exact hr.elim
  | brk => exact hr.elim
  | cont => exact hr.elim
  | ret ob =>
    obtain ⟨led, rfl, rfl⟩ := hr
    have atZ : (s.heap.push (fresh led)).get? Z = some (fresh led) := Heap.get?_push_size _ rfl
    have tyZ : Shared.TypeIs { s with heap := s.heap.push (fresh led) } (.ref Z) "set" := ⟨_, atZ, rfl⟩
    have ini := PySem.F.called_set.init.lookup
    have bnd := PySem.F.called_set.init.bind (.ref Z)
    repeat (any_goals (first | assumption | wp_step))
    refine codeAny_mono (codeAny_call_builtin (R := wants (fun r s2 => r = .none ∧ ∃ h' tk, s2 = { s with heap := h', toks := tk } ∧
        h'.SetOf (PySem.strKind prog w) Z (inTake xs its.size) (cnt xs its.size) ∧ (∀ b o, b < Z → s.heap.get? b = some o → h'.get? b = some o)) E)
      PySem.F.called_set.init.plain PySem.F.entry_set_init (check_set_init_1 tyZ ?_)) ?_
    · obtain ⟨⟨cl, dd, da, sl⟩, hol, hcl, nl, hdl⟩ := hl
      simp only at hcl hdl
      subst hcl
      subst hdl
      have hol1 : (s.heap.push (fresh led)).get? l = some { cls := .type "list", dict := dd, data := .seq its nl, slots := sl } := Heap.get?_push_of_some _ hol
      have n1 := PySem.F.sub_list_set
      have n2 := PySem.F.sub_list_frozenset
      have n3 : (Value.type "list" == Value.type "dict") = false := by decide
      have isl : (s.heap.push (fresh led)).IsList l its := ⟨_, hol1, rfl, nl, rfl⟩
      unfold Builtin.«set.__init__» noKeywords Builtin.Frozenset.updateFrom
      generalize hPI : pyIter = PI
      wp_walk
      subst hPI
      apply wpAny_pyIter_list isl
      apply wpAny_bind
      apply wpAny_runValue
      have lZ : l < Z := Heap.lt_size hol
      have size1 : (s.heap.push (fresh led)).objs.size = Z + 1 := Heap.size_push _ _
      have calm : A.in1.in1.in1.handled = none := by simp [hh]
      have neJ : l ≠ (s.heap.push (fresh led)).objs.size := by rw [size1]; exact Nat.ne_of_lt (Nat.lt_succ_of_lt lZ)
      have notin : Z ∉ [(s.heap.push (fresh led)).objs.size, l] := by
        rw [size1]
        simp only [List.mem_cons, List.not_mem_nil, or_false, not_or]
        exact ⟨Nat.ne_of_lt (Nat.lt_succ_self _), Nat.ne_of_gt lZ⟩
      refine upd_loop (Walks.list calm _ l neJ its).toS Z notin xs len (fun i v hv => txt_at hx i v (by rw [Array.getElem?_toList]; exact hv)) hb (its.size - 0) 0 _
        (by omega) (Nat.zero_le _) ⟨⟨_, Heap.get?_push_size _ rfl, rfl, rfl⟩, isl.push _⟩ ?zero ?last
      case zero =>
        have g := Heap.get?_push_of_some ({ cls := .type "list_iterator", data := .fields #[.ref l, .int 0 0] } : Obj) atZ
        exact SetOf_congr ((setObjOf_fresh (knd := PySem.strKind prog w) led).setOf g (by unfold scanBound; omega)) (fun _ => rfl) rfl
      case last =>
        rintro ⟨h', g', d', tk', os'⟩ mv SN
        obtain rfl : g' = s.gens := mv.gens
        obtain rfl : d' = s.drawn := mv.drawn
        obtain rfl : os' = s.os := mv.os
        change wpAny _ _ _ _ _ _
        apply wpAny_pure
        change wpAny _ _ (ret Value.none) _ _ _
        refine wpAny_pure ⟨rfl, h', tk', rfl, SN, fun b o hb e => mv.heap b o ?_ (Heap.get?_push_of_some _ (Heap.get?_push_of_some _ e))⟩
        simp only [List.mem_cons, List.not_mem_nil, or_false, not_or]
        rw [size1]
        exact ⟨Nat.ne_of_lt hb, Nat.ne_of_lt (Nat.lt_succ_of_lt hb)⟩
    · rintro (e | fl2) s2 hr2
      · exact hr2
      cases fl2 with
      | next => exact hr2.elim
      | brk => exact hr2.elim
      | cont => exact hr2.elim
      | ret r =>
        obtain ⟨rfl, h', tk, rfl, SN, kp⟩ := hr2
        repeat (any_goals (first | assumption | wp_step))
        exact fin _ _ SN kp
end
/-- len(set(xs)) of a list of texts -/
def tLenSetT (K : PySem.W.Frag) (ta : TE) : TE := fun σ H Q => ta σ H fun x H1 => ∃ (l : Addr) (xs : List Str), x = .ref l ∧ SqL K H1 l (xs.map V.str) ∧ xs.length ≤ 4000 ∧ Q (.int (cnt xs xs.length : Nat)) H1
theorem pe_lenSetT {X : Cx} {a : Expr} {ta : TE} {p p2 q pos : Pos} (hg : Gl X "len") (hm : X.mg "len" = none) (gs : Gl X "set") (ms : X.mg "set" = none)
    (ha : PE X a ta) (hc : X.calm = true := by rfl) (na : starEach [a] X.env = (false, eval a X.env) :: starEach [] X.env := by rfl) :
    PE X (.Call (.Name "len" p) [.Call (.Name "set" p2) [a] [] q] [] pos) (tLenSetT X.K ta) := by
  refine ⟨fun pins s σ H Q I h => Call_ (ld_blt I hg hm boot_len ?_)⟩
  refine callWith_builtin1 (args_cons (Call_ (ld_blt I gs ms boot_set ?_)) rfl) rfl rfl
  refine callWith_type1 (args_cons (thn (ha.run pins s σ H _ I h) ?_) na) na rfl
  rintro v s1 ⟨x, H1, I1, r1, l, xs, rfl, hq, hl, q1⟩
  apply args_nil
  cases r1
  obtain ⟨its, r, pl, hz⟩ := I1.list hq
  have size : its.toArray.size = xs.length := by rw [List.size_toArray, ← r.length, List.length_map]
  refine set_txt (I1.ok.hd hc) pl.isList (by simpa using TL_strs r) (by rw [size]; unfold scanBound; omega) fun h' tk hS hk => ?_
  apply args_nil
  rw [size] at hS
  obtain ⟨o, es, ep, t, ho, hex, hd, _, _, _, hf, hn⟩ := hS
  have I2 : Inv X pins σ H1 { s1 with heap := h', toks := tk } := I1.kept fun b o e => hk b o (Heap.lt_size e) e
  have := cnt_le xs xs.length
  exact call_len_set ho hex hd hf (by rw [hn]; omega) ⟨.int (cnt xs xs.length : Nat), H1, I2.tok _, ⟨_, by rw [hn]⟩, q1⟩
end Ga

set_option maxRecDepth 100000
set_option maxHeartbeats 4000000
/-! Gt: rows of (path, lines), comprehensions over them, tables of them. -/
namespace Ga
open PySem PySem.Spec PyProof.Rows L2 TL
/-- all tuples stay -/
def SameT (H H' : Hp) : Prop := ∀ b xs, (H b = some (.tup xs) → H' b = some (.tup xs)) ∧ ∀ o, H b = some (.frz o (.tup xs)) → H' b = some (.frz o (.tup xs))
theorem SameT.refl (H : Hp) : SameT H H := fun _ _ => ⟨id, fun _ => id⟩
theorem SameT.trans {H H1 H2 : Hp} (a : SameT H H1) (b : SameT H1 H2) : SameT H H2 := fun c xs => ⟨fun h => (b c xs).1 ((a c xs).1 h), fun o h => (b c xs).2 o ((a c xs).2 o h)⟩
theorem _root_.L2.Same.t {H H' : Hp} (s : Same H H') : SameT H H' := fun b xs => ⟨fun h => s _ _ h, fun o h => s _ _ h⟩
/-- what is written here is no tuple -/
def NoTup : HO → Bool
  | .tup _ => false
  | .frz _ (.tup _) => false
  | _ => true
theorem SameT.put {H : Hp} {a : Addr} {u v : HO} (h : H a = some u) (n : NoTup u = true) : SameT H (upd H a v) := fun b xs => by
  refine ⟨fun e => ?_, fun o e => ?_⟩
  all_goals
    have ne : b ≠ a := fun z => by
      subst z
      rw [h] at e
      cases e
      cases n
    rw [upd_ne ne]
    exact e
theorem SameT.new {H : Hp} {a : Addr} {v : HO} (h : H a = none) : SameT H (upd H a v) := (same_upd h).t
theorem SameT.box {H H' : Hp} {B D : Addr} (k : Kp B H H') (bx : Box H B D) : SameT H H' := fun b xs => by
  obtain ⟨ds, i, h1, _⟩ := bx.ex
  refine ⟨fun e => ?_, fun o e => ?_⟩
  all_goals
    refine k b _ (fun z => ?_) e
    rw [z, h1] at e
    cases e
section
variable {K : PySem.W.Frag} {H H' : Hp}
theorem SameT.sq {a : Addr} {xs : List V} (e : SameT H H') (h : SqT K H a xs) : SqT K H' a xs := by
  rcases h with (h | ⟨o, h⟩) | h
  · exact .inl (.inl ((e a xs).1 h))
  · exact .inl (.inr ⟨o, (e a xs).2 o h⟩)
  · exact .inr h
abbrev File := Str × List Str
/-- the lines of a file, a tuple of texts -/
def LinesAt (K : PySem.W.Frag) (H : Hp) (v : V) (l : List Str) : Prop := ∃ a, v = .ref a ∧ SqT K H a (l.map V.str)
/-- a row: (path, lines) -/
def RowAt (K : PySem.W.Frag) (H : Hp) (v : V) (f : File) : Prop := ∃ t w, v = .ref t ∧ SqT K H t [.str f.1, w] ∧ LinesAt K H w f.2
theorem LinesAt.st {v : V} {l : List Str} (h : LinesAt K H v l) (e : SameT H H') : LinesAt K H' v l := by
  obtain ⟨a, rfl, h⟩ := h
  exact ⟨a, rfl, e.sq h⟩
theorem RowAt.st {v : V} {f : File} (h : RowAt K H v f) (e : SameT H H') : RowAt K H' v f := by
  obtain ⟨t, w, rfl, h, l⟩ := h
  exact ⟨t, w, rfl, e.sq h, l.st e⟩
def dL (l : List Str) : PyData := .tuple (l.map PyData.str)
def dF (f : File) : PyData := .tuple [.str f.1, dL f.2]
theorem LinesAt.dp {v : V} {l : List Str} (h : LinesAt K H v l) : Dp K H v (dL l) := by
  obtain ⟨a, rfl, h⟩ := h
  exact .tup h (dpAll_strs l)
theorem RowAt.dp {v : V} {f : File} (h : RowAt K H v f) : Dp K H v (dF f) := by
  obtain ⟨t, w, rfl, h, l⟩ := h
  exact .tup h (.cons (.str _) (.cons l.dp .nil))
abbrev RowsAt (K : PySem.W.Frag) (H : Hp) (vs : List V) (fs : List File) : Prop := Paired (RowAt K H) vs fs
theorem RowsAt.dp {vs : List V} {fs : List File} (h : RowsAt K H vs fs) : DpAll K H vs (fs.map dF) := by
  induction h with
  | nil => exact .nil
  | cons a _ ih => exact .cons a.dp ih
theorem RowsAt.st {vs : List V} {fs : List File} (h : RowsAt K H vs fs) (e : SameT H H') : RowsAt K H' vs fs := h.mono fun _ _ r => r.st e
theorem paired_get {α β : Type} {F : α → β → Prop} : ∀ {l : List α} {m : List β}, Paired F l m → ∀ (i : Nat) (a : α), l[i]? = some a → ∃ b, m[i]? = some b ∧ F a b
  | _, _, .nil, i, a, e => by simp at e
  | _, _, .cons h t, 0, a, e => by
    cases e
    exact ⟨_, rfl, h⟩
  | _, _, .cons h t, i + 1, a, e => paired_get t i a (by simpa using e)
theorem paired_get2 {α β : Type} {F : α → β → Prop} : ∀ {l : List α} {m : List β}, Paired F l m → ∀ (i : Nat) (b : β), m[i]? = some b → ∃ a, l[i]? = some a ∧ F a b
  | _, _, .nil, i, a, e => by simp at e
  | _, _, .cons h t, 0, a, e => by
    cases e
    exact ⟨_, rfl, h⟩
  | _, _, .cons h t, i + 1, a, e => paired_get2 t i a (by simpa using e)
theorem paired_mem {α β : Type} {F : α → β → Prop} {l : List α} {m : List β} (h : Paired F l m) {a : α} (e : a ∈ l) : ∃ b ∈ m, F a b := by
  obtain ⟨i, hi⟩ := List.getElem?_of_mem e
  obtain ⟨b, hb, f⟩ := paired_get h i a hi
  exact ⟨b, List.mem_of_getElem? hb, f⟩
theorem paired_take {α β : Type} {F : α → β → Prop} : ∀ {l : List α} {m : List β}, Paired F l m → ∀ n, Paired F (l.take n) (m.take n)
  | _, _, .nil, n => by simp; exact .nil
  | _, _, .cons h t, 0 => .nil
  | _, _, .cons h t, n + 1 => .cons h (paired_take t n)
/-! ### comprehensions over a list or a tuple of anything -/
variable {σ : L2.St}
theorem filter_take_succ {α : Type} {p : α → Bool} {l : List α} {i : Nat} {c : α} (h : l[i]? = some c) : (l.take (i + 1)).filter p = (l.take i).filter p ++ if p c = true then [c] else [] := by
  rw [List.take_add_one, h, List.filter_append]
  cases hp : p c <;> simp [hp]
theorem lc_rel {α : Type} {J : It} {xs : List V} {as : List α} {g : TG} {tt : TT} {te : TE} {vs : List Nat} {R : Hp → α → V → Prop} {p : α → Bool} {Qd : Hp → Prop} {D : Addr} (nD : H D = none) (w : Walk J xs.length (fun H' => Same H H') (YAt xs)) (hal : xs.length = as.length) (hz : xs.length ≤ 100000)
    (hR : ∀ {H1 H2 : Hp} {c : α} {y : V}, SameT H1 H2 → R H1 c y → R H2 c y)
    (he : ∀ (i : Nat) (c : V) (a : α), xs[i]? = some c → as[i]? = some a → ∀ (H2 : Hp) (Rk : VK) (Rn : Hp → Prop), Same H H2 → (∀ y H3, p a = true → Same H2 H3 → R H3 a y → Rk y H3) → (∀ H3, p a = false → Same H2 H3 → Rn H3) →
      g c (wipe σ vs) H2 fun σ2 H3 => wipe σ2 vs = wipe σ vs ∧ tt σ2 H3 fun b H4 => if b = true then te σ2 H4 Rk else Rn H4)
    (hq : ∀ H' ys, Same H H' → H' D = some (.lst ys) → Paired (R H') (as.filter p) ys → Qd H') :
    ∃ W : Nat → Nat → Hp → Prop, (∃ m, W 0 m (upd H D (.lst []))) ∧ ∀ i' m H', W i' m H' →
      (J.stop i' H' ∧ Qd H') ∨ (J.go i' H' ∧ ∃ Nx : Hp → Prop, (∀ H', Nx H' → ∃ m', m' < m ∧ W (i' + 1) m' H') ∧ ∀ x H2, J.yld i' H' x H2 → g x (wipe σ vs) H2 fun σ2 H2 => wipe σ2 vs = wipe σ vs ∧ tt σ2 H2 fun b H3 =>
        if b = true then te σ2 H3 fun y H4 => ∃ acc, H4 D = some (.lst acc) ∧ acc.length < sizeLine ∧ Nx (upd H4 D (.lst (acc ++ [y]))) else Nx H3) := by
  refine lc_it w (fun m H' => Same H H' ∧ ∃ ys, H' D = some (.lst ys) ∧ Paired (R H') ((as.take m).filter p) ys) ⟨same_upd nD, [], upd_same, by simp; exact .nil⟩ (fun _ _ _ q => q.1) ?_ ?_
  · rintro m x H2 H3 hm ⟨s, ys, d, pr⟩ ⟨rfl, hg⟩
    obtain ⟨a, ha⟩ : ∃ a, as[m]? = some a := ⟨_, List.getElem?_eq_getElem (by omega)⟩
    refine he m x a hg ha H3 _ _ s (fun y H4 px s4 r => ?_) (fun H4 px s4 => ?_)
    · refine ⟨ys, s4 _ _ d, ?_, (s.trans s4).mut nD, ys ++ [y], upd_same, ?_⟩
      · rw [← pr.length]
        refine Nat.lt_of_le_of_lt (Nat.le_trans (List.length_filter_le _ _) (Nat.le_trans ?_ hz)) (by decide)
        rw [List.length_take, hal]
        exact Nat.min_le_right _ _
      · rw [filter_take_succ ha, if_pos px]
        have st : SameT H4 (upd H4 D (.lst (ys ++ [y]))) := .put (s4 _ _ d) rfl
        exact Paired.snoc (pr.mono fun _ _ q => hR (s4.t.trans st) q) (hR st r)
    · refine ⟨s.trans s4, ys, s4 _ _ d, ?_⟩
      rw [filter_take_succ ha, px, if_neg Bool.false_ne_true, List.append_nil]
      exact pr.mono fun _ _ q => hR s4.t q
  · rintro H2 ⟨s, ys, d, pr⟩
    rw [hal, List.take_length] at pr
    exact hq H2 ys s d pr
/-- {k: v for target in tuple or list} : keys are texts of R -/
theorem dc_rel {α : Type} {J : It} {xs : List V} {as : List α} {g : TG} {tt : TT} {tk tv : TE} {vs : List Nat} {R : Hp → α → Key × V → Prop} {p : α → Bool} {Qd : Hp → Prop} {D : Addr} (nD : H D = none) (w : Walk J xs.length (fun H' => Same H H') (YAt xs)) (hal : xs.length = as.length) (hz : xs.length ≤ 100000)
    (hR : ∀ {H1 H2 : Hp} {c : α} {y : Key × V}, SameT H1 H2 → R H1 c y → R H2 c y) (ky : α → Key) (hky : ∀ {H1 : Hp} {c : α} {y : Key × V}, R H1 c y → y.1 = ky c) (hnd : ((as.filter p).map ky).Nodup)
    (he : ∀ (i : Nat) (c : V) (a : α), xs[i]? = some c → as[i]? = some a → ∀ (H2 : Hp) (Rk : V → V → Hp → Prop) (Rn : Hp → Prop), Same H H2 → (∀ y H3, p a = true → Same H2 H3 → R H3 a y → Rk (kV y.1) y.2 H3) → (∀ H3, p a = false → Same H2 H3 → Rn H3) →
      g c (wipe σ vs) H2 fun σ2 H3 => wipe σ2 vs = wipe σ vs ∧ tt σ2 H3 fun b H4 => if b = true then tk σ2 H4 fun y H5 => tv σ2 H5 fun z H6 => Rk y z H6 else Rn H4)
    (hq : ∀ H' ys, Same H H' → H' D = some (.dK ys) → Paired (R H') (as.filter p) ys → Qd H') :
    ∃ W : Nat → Nat → Hp → Prop, (∃ m, W 0 m (upd H D (.dK []))) ∧ ∀ i' m H', W i' m H' →
      (J.stop i' H' ∧ Qd H') ∨ (J.go i' H' ∧ ∃ Nx : Hp → Prop, (∀ H', Nx H' → ∃ m', m' < m ∧ W (i' + 1) m' H') ∧ ∀ x H2, J.yld i' H' x H2 → g x (wipe σ vs) H2 fun σ2 H2 => wipe σ2 vs = wipe σ vs ∧ tt σ2 H2 fun b H3 =>
        if b = true then tk σ2 H3 fun y H4 => tv σ2 H4 fun z H5 => ∃ kvs k, y = kV k ∧ H5 D = some (.dK kvs) ∧ kvs.length < sizeLine ∧ Nx (upd H5 D (.dK (putK kvs k z))) else Nx H3) := by
  have keyOf : ∀ {H1 : Hp} {l : List α} {ys : List (Key × V)}, Paired (R H1) l ys → ys.map (·.1) = l.map ky := by
    intro H1 l ys h
    induction h with
    | nil => rfl
    | cons a _ ih => rw [List.map_cons, List.map_cons, ih, hky a]
  refine ⟨fun i m H' => m = xs.length - i ∧ i ≤ xs.length ∧ Same H H' ∧ ∃ ys, H' D = some (.dK ys) ∧ Paired (R H') ((as.take i).filter p) ys, ⟨xs.length, by simp, Nat.zero_le _, same_upd nD, [], upd_same, by simp; exact .nil⟩, ?_⟩
  rintro i m H2 ⟨rfl, hi, s, ys, d, pr⟩
  by_cases hlt : i < xs.length
  · refine .inr ⟨w.goes i H2 hlt s, fun H' => i + 1 ≤ xs.length ∧ Same H H' ∧ ∃ ys, H' D = some (.dK ys) ∧ Paired (R H') ((as.take (i + 1)).filter p) ys, fun H' q => ⟨xs.length - (i + 1), by omega, rfl, q.1, q.2⟩, fun x H3 y => ?_⟩
    obtain ⟨rfl, hg⟩ := w.yields i H2 x H3 hlt s y
    obtain ⟨a, ha⟩ : ∃ a, as[i]? = some a := ⟨_, List.getElem?_eq_getElem (by omega)⟩
    refine he i x a hg ha H3 (fun a b H5 => ∃ kvs k, a = kV k ∧ H5 D = some (.dK kvs) ∧ kvs.length < sizeLine ∧ _) _ s (fun y H4 px s4 r => ?_) (fun H4 px s4 => ?_)
    · have hl : ys.length ≤ i := by
        rw [← pr.length]
        refine Nat.le_trans (List.length_filter_le _ _) ?_
        rw [List.length_take]
        exact Nat.min_le_left _ _
      have hn : valV ys y.1 = none := by
        cases e : valV ys y.1 with
        | none => rfl
        | some v =>
          have m1 := valV_in e
          rw [keyOf pr, hky r] at m1
          exfalso
          have nd2 : (((as.take (i + 1)).filter p).map ky).Nodup := hnd.sublist (List.Sublist.map ky (List.Sublist.filter p (List.take_sublist _ _)))
          rw [filter_take_succ ha, if_pos px, List.map_append, List.nodup_append] at nd2
          exact nd2.2.2 _ m1 _ (List.mem_singleton.mpr rfl) rfl
      refine ⟨ys, y.1, rfl, s4 _ _ d, Nat.lt_of_le_of_lt (Nat.le_trans hl (Nat.le_trans hi hz)) (by decide), hlt, (s.trans s4).mut nD, ys ++ [y], ?_, ?_⟩
      · rw [upd_same, putK_new _ hn]
      · rw [filter_take_succ ha, if_pos px]
        have st : SameT H4 (upd H4 D (.dK (putK ys y.1 y.2))) := .put (s4 _ _ d) rfl
        exact Paired.snoc (pr.mono fun _ _ q => hR (s4.t.trans st) q) (hR st r)
    · refine ⟨hlt, s.trans s4, ys, s4 _ _ d, ?_⟩
      rw [filter_take_succ ha, px, if_neg Bool.false_ne_true, List.append_nil]
      exact pr.mono fun _ _ q => hR s4.t q
  · have e : i = xs.length := by omega
    rw [e, hal, List.take_length] at pr
    exact .inl ⟨e ▸ w.stops H2 s, hq H2 ys s d pr⟩
/-- [e for a in xs for b in xs], e a truth of a and b -/
theorem wipe2 {i j : Nat} {v : Option V} (ij : i ≠ j) : wipe ((wipe σ [i, j]).set i v) [i, j] = wipe σ [i, j] := by
  show ((((σ.set j none).set i none).set i v).set j none).set i none = (σ.set j none).set i none
  rw [List.set_set, List.set_comm _ _ ij, List.set_set, List.set_set]
theorem lc2_bl {J J1 : It} {xs : List V} {wi1 : TI} {te : TE} {i j : Nat} {p : V → V → Bool} {Qd : Hp → Prop} {D : Addr} (nD : H D = none) (w : Walk J xs.length (fun H' => Same H H') (YAt xs)) (w1 : Walk J1 xs.length (fun H' => Same H H') (YAt xs)) (hz : xs.length ≤ 300) (ij : i ≠ j)
    (hi : ∀ (c : V) (H2 : Hp) (R : It → Hp → Prop), c ∈ xs → Same H H2 → R J1 H2 → wi1 ((wipe σ [i, j]).set i (some c)) H2 R)
    (he : ∀ a ∈ xs, ∀ b ∈ xs, ∀ (H2 : Hp) (R : VK), Same H H2 → (∀ H3, Same H2 H3 → R (.bl (p a b)) H3) → te ((wipe ((wipe σ [i, j]).set i (some a)) [j]).set j (some b)) H2 R)
    (hq : ∀ H', Same H H' → H' D = some (.lst ((xs.flatMap fun a => xs.map fun b => p a b).map V.bl)) → Qd H') :
    ∃ W : Nat → Nat → Hp → Prop, (∃ m, W 0 m (upd H D (.lst []))) ∧ ∀ i' m H', W i' m H' →
      (J.stop i' H' ∧ Qd H') ∨ (J.go i' H' ∧ ∃ Nx : Hp → Prop, (∀ H', Nx H' → ∃ m', m' < m ∧ W (i' + 1) m' H') ∧ ∀ x H2, J.yld i' H' x H2 → gName i x (wipe σ [i, j]) H2 fun σ2 H2 => wipe σ2 [i, j] = wipe σ [i, j] ∧ tYes σ2 H2 fun b H3 =>
        if b = true then wi1 σ2 H3 fun J1 H4 => ∃ W1 : Nat → Nat → Hp → Prop, (∃ m, W1 0 m H4) ∧ ∀ j' k H, W1 j' k H →
          (J1.stop j' H ∧ Nx H) ∨ (J1.go j' H ∧ ∃ Nx1 : Hp → Prop, (∀ H', Nx1 H' → ∃ k', k' < k ∧ W1 (j' + 1) k' H') ∧ ∀ x H', J1.yld j' H x H' → gName j x (wipe σ2 [j]) H' fun σ3 H5 => wipe σ3 [j] = wipe σ2 [j] ∧ tYes σ3 H5 fun b H6 =>
            if b = true then te σ3 H6 fun y H7 => ∃ acc, H7 D = some (.lst acc) ∧ acc.length < sizeLine ∧ Nx1 (upd H7 D (.lst (acc ++ [y]))) else Nx1 H6)
        else Nx H3) := by
  let row : V → List V := fun a => xs.map fun b => .bl (p a b)
  have lenRow : ∀ l : List V, (l.flatMap row).length = l.length * xs.length := by
    intro l
    induction l with
    | nil => simp
    | cons a r ih =>
      rw [List.flatMap_cons, List.length_append, ih, List.length_cons, Nat.succ_mul, Nat.add_comm]
      simp [row]
  refine ⟨fun a m H' => m = xs.length - a ∧ a ≤ xs.length ∧ Same H H' ∧ H' D = some (.lst ((xs.take a).flatMap row)), ⟨xs.length, by simp, Nat.zero_le _, same_upd nD, by rw [upd_same]; rfl⟩, ?_⟩
  rintro a m H2 ⟨rfl, ha, s, d⟩
  by_cases hlt : a < xs.length
  · refine .inr ⟨w.goes a H2 hlt s, fun H' => a + 1 ≤ xs.length ∧ Same H H' ∧ H' D = some (.lst ((xs.take (a + 1)).flatMap row)), fun H' q => ⟨xs.length - (a + 1), by omega, rfl, q.1, q.2⟩, fun x H3 y => ?_⟩
    obtain ⟨rfl, hg⟩ := w.yields a H2 x H3 hlt s y
    have hx := List.mem_of_getElem? hg
    refine ⟨?_, ?_⟩
    · exact wipe2 ij
    · dsimp only [tYes]
      rw [if_pos rfl]
      refine hi x H3 _ hx s ⟨fun b k H' => k = xs.length - b ∧ b ≤ xs.length ∧ Same H H' ∧ H' D = some (.lst ((xs.take a).flatMap row ++ (xs.take b).map fun c => .bl (p x c))), ⟨xs.length, by simp, Nat.zero_le _, s, by rw [d]; simp⟩, ?_⟩
      rintro b k H4 ⟨rfl, hb, s4, d4⟩
      by_cases hlb : b < xs.length
      · refine .inr ⟨w1.goes b H4 hlb s4, fun H' => b + 1 ≤ xs.length ∧ Same H H' ∧ H' D = some (.lst ((xs.take a).flatMap row ++ (xs.take (b + 1)).map fun c => .bl (p x c))), fun H' q => ⟨xs.length - (b + 1), by omega, rfl, q.1, q.2⟩, fun z H5 y5 => ?_⟩
        obtain ⟨rfl, hg5⟩ := w1.yields b H4 z H5 hlb s4 y5
        refine ⟨wipe_set _ _ _, ?_⟩
        dsimp only [tYes]
        rw [if_pos rfl]
        refine he x hx z (List.mem_of_getElem? hg5) H5 _ s4 fun H6 s6 => ?_
        refine ⟨_, s6 _ _ d4, ?_, hlb, (s4.trans s6).mut nD, ?_⟩
        · rw [List.length_append, lenRow, List.length_map, List.length_take, List.length_take]
          have h1 : min a xs.length ≤ 300 := Nat.le_trans (Nat.min_le_right _ _) hz
          have h2 : min b xs.length ≤ 300 := Nat.le_trans (Nat.min_le_right _ _) hz
          have h3 : min a xs.length * xs.length ≤ 300 * 300 := Nat.mul_le_mul h1 hz
          have : sizeLine = 16777216 := by decide
          omega
        · rw [upd_same, List.append_assoc, take_map_succ (f := fun c => V.bl (p x c)) hg5]
      · have e : b = xs.length := by omega
        subst e
        refine .inl ⟨w1.stops H4 s4, hlt, s4, ?_⟩
        rw [d4, List.take_add_one, hg, List.take_length, List.flatMap_append]
        simp [row]
  · have e : a = xs.length := by omega
    subst e
    rw [List.take_length] at d
    refine .inl ⟨w.stops H2 s, hq H2 s ?_⟩
    rw [d, List.map_flatMap]
    simp [row, Function.comp_def]
end
section
variable {X : Cx} {K : PySem.W.Frag}
theorem piL (h : X.K = K) {tg l : Expr} {tl : TE} (hl : PE X l tl) : PI X tg l (iList K tl) := by
  subst h
  exact pi_list hl
theorem piT (h : X.K = K) {tg l : Expr} {tl : TE} (hl : PE X l tl) : PI X tg l (iTup K tl) := by
  subst h
  exact pi_tup hl
theorem peF (h : X.K = K) {e : Expr} {f : Str} {ta : TE} {pos : Pos} (he : PE X e ta) (hb : attributeBase e f X.env (eval e X.env) = eval e X.env := by rfl) : PE X (.Attribute e f pos) (tFld K ta f) := by
  subst h
  exact pe_fld he hb
theorem pgT (h : X.K = K) {es : List Expr} {k : Nat} {t : TGs} {n : Nat} {pos : Pos} (hc : X.calm = true) (hg : PGs X es t)
    (hn : (assignEach es X.env).length = n := by rfl) (hst : (assignEach es X.env).findIdx? (·.1) = none := by rfl) : PG X (.Tuple es k pos) (gTup K n t) := by
  subst h
  exact pg_tup hc hg hn hst
theorem ixT (h : X.K = K) : IxR X (rIxT K) := by
  subst h
  exact ix_tup
/-- tuple(xs) -/
def rTupOf (K : PySem.W.Frag) : List V → Hp → VK → Prop := fun xs H Q => ∃ p ys, xs = [.ref p] ∧ ((SqL K H p ys ∧ ∀ l, H l = none → Q (.ref l) (upd H l (.tup ys))) ∨ (SqT K H p ys ∧ Q (.ref p) H))
theorem callTup (h : X.K = K) : CallR X (.type "tuple") (rTupOf K) := by
  subst h
  exact call_tuple_of
/-- a list or a tuple in slot i, walked -/
theorem src {H : Hp} {i : Nat} {a : Addr} {vs : List V} (h : SqL K H a vs ∨ SqT K H a vs) : ∃ (wi : TI) (J : It), (∀ (X : Cx) (tg l : Expr), X.K = K → PE X l (tVar i) → PI X tg l wi) ∧
    (∀ (σ : L2.St) (H2 : Hp) (R : It → Hp → Prop), Same H H2 → σ[i]? = some (some (.ref a)) → R J H2 → wi σ H2 R) ∧ ∀ H2, Same H H2 → Walk J vs.length (fun H' => Same H2 H') (YAt vs) := by
  rcases h with h | h
  · exact ⟨iList K (tVar i), Itl K a, fun X tg l e p => piL e p, fun σ H2 R s e r => ⟨_, e, a, rfl, ⟨_, s.seq h⟩, r⟩, fun H2 s => same_walkL (s.seq h)⟩
  · exact ⟨iTup K (tVar i), Itt K a, fun X tg l e p => piT e p, fun σ H2 R s e r => ⟨_, e, a, rfl, ⟨_, s.seqT h⟩, r⟩, fun H2 s => same_walkT (s.seqT h)⟩
/-- a comprehension over a walk -/
theorem lcR {α : Type} {H : Hp} {σ : L2.St} {Q : VK} {wi : TI} {J : It} {xs : List V} {as : List α} {g : TG} {tt : TT} {te : TE} {vs : List Nat} {R : Hp → α → V → Prop} {p : α → Bool} (hwi : ∀ R : It → Hp → Prop, R J H → wi σ H R)
    (w : Walk J xs.length (fun H' => Same H H') (YAt xs)) (hal : xs.length = as.length) (hz : xs.length ≤ 100000) (hR : ∀ {H1 H2 : Hp} {c : α} {y : V}, SameT H1 H2 → R H1 c y → R H2 c y)
    (he : ∀ (i : Nat) (c : V) (a : α), xs[i]? = some c → as[i]? = some a → ∀ (H2 : Hp) (Rk : VK) (Rn : Hp → Prop), Same H H2 → (∀ y H3, p a = true → Same H2 H3 → R H3 a y → Rk y H3) → (∀ H3, p a = false → Same H2 H3 → Rn H3) →
      g c (wipe σ vs) H2 fun σ2 H3 => wipe σ2 vs = wipe σ vs ∧ tt σ2 H3 fun b H4 => if b = true then te σ2 H4 Rk else Rn H4)
    (hq : ∀ D H' ys, Same H H' → H D = none → H' D = some (.lst ys) → Paired (R H') (as.filter p) ys → Q (.ref D) H') : tLc wi g tt te vs σ H Q :=
  hwi _ fun D nD => lc_rel (R := R) (p := p) (Qd := fun H1 => Q (.ref D) H1) nD w hal hz hR he fun H' ys s d pr => hq D H' ys s nD d pr
theorem dcR {α : Type} {H : Hp} {σ : L2.St} {Q : VK} {wi : TI} {J : It} {xs : List V} {as : List α} {g : TG} {tt : TT} {tk tv : TE} {vs : List Nat} {R : Hp → α → Key × V → Prop} {p : α → Bool} (hwi : ∀ R : It → Hp → Prop, R J H → wi σ H R)
    (w : Walk J xs.length (fun H' => Same H H') (YAt xs)) (hal : xs.length = as.length) (hz : xs.length ≤ 100000)
    (hR : ∀ {H1 H2 : Hp} {c : α} {y : Key × V}, SameT H1 H2 → R H1 c y → R H2 c y) (ky : α → Key) (hky : ∀ {H1 : Hp} {c : α} {y : Key × V}, R H1 c y → y.1 = ky c) (hnd : ((as.filter p).map ky).Nodup)
    (he : ∀ (i : Nat) (c : V) (a : α), xs[i]? = some c → as[i]? = some a → ∀ (H2 : Hp) (Rk : V → V → Hp → Prop) (Rn : Hp → Prop), Same H H2 → (∀ y H3, p a = true → Same H2 H3 → R H3 a y → Rk (kV y.1) y.2 H3) → (∀ H3, p a = false → Same H2 H3 → Rn H3) →
      g c (wipe σ vs) H2 fun σ2 H3 => wipe σ2 vs = wipe σ vs ∧ tt σ2 H3 fun b H4 => if b = true then tk σ2 H4 fun y H5 => tv σ2 H5 fun z H6 => Rk y z H6 else Rn H4)
    (hq : ∀ D H' ys, Same H H' → H D = none → H' D = some (.dK ys) → Paired (R H') (as.filter p) ys → Q (.ref D) H') : tDc wi g tt tk tv vs σ H Q :=
  hwi _ fun D nD => dc_rel (R := R) (p := p) (Qd := fun H1 => Q (.ref D) H1) nD w hal hz hR ky hky hnd he fun H' ys s d pr => hq D H' ys s nD d pr
theorem filterY {α : Type} {xs : List α} : xs.filter (fun _ => true) = xs := by simp
theorem paired_map {α β : Type} {f : α → β} : ∀ {l : List α} {m : List β}, Paired (fun a b => b = f a) l m → m = l.map f
  | _, _, .nil => rfl
  | _, _, .cons h t => by rw [h, paired_map t]; rfl
/-- ... each element a value of its own -/
theorem lcF {α : Type} {H : Hp} {σ : L2.St} {Q : VK} {wi : TI} {J : It} {xs : List V} {as : List α} {g : TG} {te : TE} {vs : List Nat} {f : α → V} (hwi : ∀ R : It → Hp → Prop, R J H → wi σ H R)
    (w : Walk J xs.length (fun H' => Same H H') (YAt xs)) (hal : xs.length = as.length) (hz : xs.length ≤ 100000)
    (he : ∀ (i : Nat) (c : V) (a : α), xs[i]? = some c → as[i]? = some a → ∀ (H2 : Hp) (Rk : VK), Same H H2 → (∀ H3, Same H2 H3 → Rk (f a) H3) → g c (wipe σ vs) H2 fun σ2 H3 => wipe σ2 vs = wipe σ vs ∧ te σ2 H3 Rk)
    (hq : ∀ D H', Same H H' → H D = none → H' D = some (.lst (as.map f)) → Q (.ref D) H') : tLc wi g tYes te vs σ H Q := by
  refine lcR (R := fun _ a y => y = f a) (p := fun _ => true) hwi w hal hz (fun _ h => h) (fun i c a hc ha H2 Rk Rn s k _ => ?_) fun D H' ys s nD d pr => ?_
  · have := he i c a hc ha H2 Rk s fun H3 s3 => k _ H3 rfl s3 rfl
    exact this
  · rw [filterY] at pr
    rw [paired_map pr] at d
    exact hq D H' s nD d
theorem lcF1 {α : Type} {H : Hp} {σ : L2.St} {J : It} {xs : List V} {as : List α} {g : TG} {te : TE} {vs : List Nat} {f : α → V} {Qd : Hp → Prop} {D : Addr} (nD : H D = none)
    (w : Walk J xs.length (fun H' => Same H H') (YAt xs)) (hal : xs.length = as.length) (hz : xs.length ≤ 100000)
    (he : ∀ (i : Nat) (c : V) (a : α), xs[i]? = some c → as[i]? = some a → ∀ (H2 : Hp) (Rk : VK), Same H H2 → (∀ H3, Same H2 H3 → Rk (f a) H3) → g c (wipe σ vs) H2 fun σ2 H3 => wipe σ2 vs = wipe σ vs ∧ te σ2 H3 Rk)
    (hq : ∀ H', Same H H' → H' D = some (.lst (as.map f)) → Qd H') :
    ∃ W : Nat → Nat → Hp → Prop, (∃ m, W 0 m (upd H D (.lst []))) ∧ ∀ i' m H', W i' m H' →
      (J.stop i' H' ∧ Qd H') ∨ (J.go i' H' ∧ ∃ Nx : Hp → Prop, (∀ H', Nx H' → ∃ m', m' < m ∧ W (i' + 1) m' H') ∧ ∀ x H2, J.yld i' H' x H2 → g x (wipe σ vs) H2 fun σ2 H2 => wipe σ2 vs = wipe σ vs ∧ tYes σ2 H2 fun b H3 =>
        if b = true then te σ2 H3 fun y H4 => ∃ acc, H4 D = some (.lst acc) ∧ acc.length < sizeLine ∧ Nx (upd H4 D (.lst (acc ++ [y]))) else Nx H3) := by
  refine lc_rel (R := fun _ a y => y = f a) (p := fun _ => true) nD w hal hz (fun _ h => h) (fun i c a hc ha H2 Rk Rn s k _ => ?_) fun H' ys s d pr => ?_
  · exact he i c a hc ha H2 Rk s fun H3 s3 => k _ H3 rfl s3 rfl
  · rw [filterY] at pr
    rw [paired_map pr] at d
    exact hq H' s d
/-- for path, lines in rows: the target of a row -/
theorem g_row {H : Hp} {σ : L2.St} {i j : Nat} {c : V} {f : File} {Q : L2.St → Hp → Prop} (h : RowAt K H c f) (hq : ∀ w, LinesAt K H w f.2 → Q ((σ.set i (some (.str f.1))).set j (some w)) H) :
    gTup K 2 (gCons (gName i) (gCons (gName j) gNil)) c σ H Q := by
  obtain ⟨t, w, rfl, ht, hl⟩ := h
  exact ⟨t, _, rfl, ht, rfl, _, _, rfl, _, _, rfl, rfl, hq w hl⟩
/-- the keys of a locked dict, walked -/
theorem same_walkK {H : Hp} {d : Addr} {o : Obj} {kvs : List (Key × V)} (h : H d = some (.frz o (.dK kvs))) : Walk (Itk d o kvs) (kvs.map fun kv => kV kv.1).length (fun H' => Same H H') (YAt (kvs.map fun kv => kV kv.1)) := by
  rw [List.length_map]
  refine walk_keys.mono (fun _ s => s _ _ h) fun i H1 x H2 _ _ y => ?_
  obtain ⟨e, k, v, e1, e2⟩ := y
  exact ⟨e, by rw [List.getElem?_map, e1, e2]; rfl⟩
theorem unlock {H H' : Hp} {d : Addr} {u : HO} {od : Obj} (s : Same (upd H d (.frz od u)) H') (h : H d = some u) : Same H (upd H' d u) := fun b o e => by
  by_cases hb : b = d
  · rw [hb, upd_same, ← h, ← hb, e]
  · rw [upd_ne hb]
    exact s b o (by rw [upd_ne hb]; exact e)
theorem same_at {H H' : Hp} (s : Same H H') {b : Addr} (n : H' b = none) : H b = none := by
  cases e : H b with
  | none => rfl
  | some o => rw [s _ _ e] at n; cases n
theorem passF {X : Cx} : Passes (L2.CX X.prog X.w) X (fun _ _ _ => False) := fun _ _ _ _ _ _ _ h => by
  obtain ⟨_, _, _, _, _, _, _, _, _, _, _, _, z⟩ := h
  exact z.elim
end
end Ga

set_option maxRecDepth 100000
set_option maxHeartbeats 4000000
/-! Go: files in the order of their paths. -/
namespace Ga
open PySem PySem.Spec PyProof.Rows L2 TL
/-- x is not behind y -/
def leS (x y : Str) : Prop := ltCps y.cps.toList x.cps.toList = false
instance (x y : Str) : Decidable (leS x y) := inferInstanceAs (Decidable (_ = _))
theorem leS_iff {x y : Str} : leS x y ↔ tl x ≤ tl y := by
  unfold leS
  rw [ltCps_eq, decide_eq_false_iff_not]
  exact Iff.rfl
theorem leS_total (x y : Str) : leS x y ∨ leS y x := by
  rw [leS_iff, leS_iff]
  exact List.le_total _ _
theorem leS_trans {x y z : Str} (a : leS x y) (b : leS y z) : leS x z := by
  rw [leS_iff] at *
  exact List.le_trans a b
theorem leS_anti {x y : Str} (a : leS x y) (b : leS y x) : x = y := by
  rw [leS_iff] at *
  have e : tl x = tl y := List.le_antisymm a b
  cases x with
  | mk x =>
    cases y with
    | mk y =>
      have e2 : x.toList = y.toList := e
      rw [Array.toList_inj.mp e2]
theorem leS_refl (x : Str) : leS x x := (leS_total x x).elim id id
theorem perm_eq {α : Type} {r : α → α → Prop} (anti : ∀ a b, r a b → r b a → a = b) : ∀ {l m : List α}, l.Perm m → l.Pairwise r → m.Pairwise r → l = m
  | [], m, p, _, _ => p.nil_eq
  | a :: l, [], p, _, _ => p.symm.nil_eq.symm
  | a :: l, b :: m, p, h1, h2 => by
    have c1 := List.pairwise_cons.mp h1
    have c2 := List.pairwise_cons.mp h2
    have e : a = b := by
      have m1 : a ∈ b :: m := p.mem_iff.mp List.mem_cons_self
      have m2 : b ∈ a :: l := p.mem_iff.mpr List.mem_cons_self
      rcases List.mem_cons.mp m1 with e | m1
      · exact e
      · rcases List.mem_cons.mp m2 with e | m2
        · exact e.symm
        · exact anti _ _ (c1.1 _ m2) (c2.1 _ m1)
    subst e
    rw [perm_eq anti (List.Perm.cons_inv p) c1.2 c2.2]
theorem rising_pw : ∀ (p : Str) (l : List Str), risingS p l = true → (p :: l).Pairwise leS
  | p, [], _ => List.pairwise_singleton _ _
  | p, x :: r, h => by
    obtain ⟨h1, h2⟩ := Bool.and_eq_true_iff.mp h
    have ih := rising_pw x r h2
    have px : leS p x := by
      unfold leS
      cases e : ltCps x.cps.toList p.cps.toList with
      | false => rfl
      | true => rw [e] at h1; cases h1
    refine List.pairwise_cons.mpr ⟨fun y hy => ?_, ih⟩
    rcases List.mem_cons.mp hy with rfl | hy
    · exact px
    · exact leS_trans px ((List.pairwise_cons.mp ih).1 y hy)
theorem sorted_pw : ∀ {l : List Str}, sortedS l = true → l.Pairwise leS
  | [], _ => List.Pairwise.nil
  | x :: r, h => rising_pw x r h
/-- put in its place -/
def insF (f : File) : List File → List File
  | [] => [f]
  | g :: r => if leS f.1 g.1 then f :: g :: r else g :: insF f r
def srtF : List File → List File
  | [] => []
  | f :: r => insF f (srtF r)
theorem insF_perm (f : File) : ∀ l : List File, (insF f l).Perm (f :: l)
  | [] => List.Perm.refl _
  | g :: r => by
    unfold insF
    split
    · exact List.Perm.refl _
    · exact ((insF_perm f r).cons g).trans (List.Perm.swap f g r)
theorem srtF_perm : ∀ l : List File, (srtF l).Perm l
  | [] => List.Perm.refl _
  | f :: r => (insF_perm f (srtF r)).trans ((srtF_perm r).cons f)
abbrev leF (f g : File) : Prop := leS f.1 g.1
theorem insF_pw (f : File) : ∀ {l : List File}, l.Pairwise leF → (insF f l).Pairwise leF
  | [], _ => List.pairwise_singleton _ _
  | g :: r, h => by
    have c := List.pairwise_cons.mp h
    unfold insF
    split
    · rename_i e
      refine List.pairwise_cons.mpr ⟨fun y hy => ?_, h⟩
      rcases List.mem_cons.mp hy with rfl | hy
      · exact e
      · exact leS_trans e (c.1 y hy)
    · rename_i e
      refine List.pairwise_cons.mpr ⟨fun y hy => ?_, insF_pw f c.2⟩
      rcases List.mem_cons.mp ((insF_perm f r).mem_iff.mp hy) with rfl | hy
      · exact (leS_total _ _).resolve_left e
      · exact c.1 y hy
theorem srtF_pw : ∀ l : List File, (srtF l).Pairwise leF
  | [] => List.Pairwise.nil
  | f :: r => insF_pw f (srtF_pw r)
theorem srtF_len (l : List File) : (srtF l).length = l.length := (srtF_perm l).length_eq
/-- the one way to sort them -/
theorem sorted_is {ys : List Str} {fs : List File} (p : ys.Perm (fs.map (·.1))) (h : sortedS ys = true) : ys = (srtF fs).map (·.1) :=
  perm_eq (fun _ _ => leS_anti) (p.trans ((srtF_perm fs).symm.map _)) (sorted_pw h) (List.pairwise_map.mpr (srtF_pw fs))
theorem file_eq : ∀ {l : List File}, (l.map (·.1)).Nodup → ∀ {f g : File}, f ∈ l → g ∈ l → f.1 = g.1 → f = g := by
  intro l
  induction l with
  | nil => intro _ f g h; cases h
  | cons a l ih =>
    intro nd f g hf hg e
    have nd2 := List.nodup_cons.mp nd
    rcases List.mem_cons.mp hf with rfl | hf1
    · rcases List.mem_cons.mp hg with rfl | hg1
      · rfl
      · exact (nd2.1 (List.mem_map.mpr ⟨g, hg1, e.symm⟩)).elim
    · rcases List.mem_cons.mp hg with rfl | hg1
      · exact (nd2.1 (List.mem_map.mpr ⟨f, hf1, e⟩)).elim
      · exact ih nd2.2 hf1 hg1 e
/-- files of different paths are sorted in one way only -/
theorem sortedF_is {gs fs : List File} (p : gs.Perm fs) (nd : (fs.map (·.1)).Nodup) (h : gs.Pairwise leF) : gs = srtF fs := by
  have eqp : gs.map (·.1) = (srtF fs).map (·.1) := perm_eq (fun _ _ => leS_anti) ((p.trans (srtF_perm fs).symm).map _) (List.pairwise_map.mpr h) (List.pairwise_map.mpr (srtF_pw fs))
  have key : ∀ {f g : File}, f ∈ fs → g ∈ fs → f.1 = g.1 → f = g := fun hf hg e => file_eq nd hf hg e
  have : ∀ {l m : List File}, (∀ f ∈ l, f ∈ fs) → (∀ f ∈ m, f ∈ fs) → l.map (·.1) = m.map (·.1) → l = m := by
    intro l
    induction l with
    | nil => intro m _ _ e; cases m with | nil => rfl | cons _ _ => cases e
    | cons a l ih =>
      intro m h1 h2 e
      cases m with
      | nil => cases e
      | cons b m =>
        have e1 := List.cons.inj e
        rw [key (h1 a List.mem_cons_self) (h2 b List.mem_cons_self) e1.1, ih (fun f hf => h1 f (List.mem_cons_of_mem _ hf)) (fun f hf => h2 f (List.mem_cons_of_mem _ hf)) e1.2]
  exact this (fun f hf => p.mem_iff.mp hf) (fun f hf => (srtF_perm fs).mem_iff.mp hf) eqp
end Ga

set_option maxRecDepth 100000
set_option maxHeartbeats 4000000
/-! Gw: rows sorted: no two have the same path. -/
namespace Ga
open PySem PySem.Spec PyProof.Rows L2 TL SrtO Srt
/-- a tuple whose first item is this text -/
def RowO (h : Heap) (v : Value) (x : Str) : Prop := ∃ a o t u n, v = .ref a ∧ h.get? a = some o ∧ o.cls = .type "tuple" ∧ o.data = .seq #[.str x t, u] n
theorem RowO.keeps {h h' : Heap} {v : Value} {x : Str} (p : RowO h v x) (k : ∀ b o, h.get? b = some o → o.cls = .type "tuple" → h'.get? b = some o) : RowO h' v x := by
  obtain ⟨a, o, t, u, n, e, ho, hc, hd⟩ := p
  exact ⟨a, o, t, u, n, e, k _ _ ho hc, hc, hd⟩
abbrev ltS (x y : Str) : Bool := decide (x.cps.toList < y.cps.toList)
theorem ltS_no {x y : Str} : ltS x y = false ↔ leS y x := by
  unfold leS
  rw [ltCps_eq]
theorem swo_rows (k : Value → Str) : Swo fun v u => ltS (k v) (k u) := by
  refine ⟨fun x y h => ?_, fun x y z h1 h2 => ?_⟩
  · rw [ltS_no]
    refine (leS_total _ _).resolve_right fun z => ?_
    rw [← ltS_no, h] at z
    cases z
  · rw [ltS_no] at *
    exact leS_trans h1 h2
section
variable {prog : Program} {w : World} {A : Around} {E : Value → Shared → Prop} {s : Shared}
theorem row_cmp {vs : List Value} {k : Value → Str} (hp : ∀ v ∈ vs, RowO s.heap v (k v)) (inj : ∀ v ∈ vs, ∀ u ∈ vs, k v = k u → v = u) : Cmp prog w A s (tuples' true) (fun p => p.1 ∈ vs) (lt2 fun v u => ltS (k v) (k u)) := by
  intro p q hm hm'
  have h1 := hp _ hm
  have h2 := hp _ hm'
  have ij := inj _ hm _ hm'
  show wpAny (model prog w) A (keyLt' (tuples' true) p.1 q.1) (fun r s' => s' = s ∧ r = ltS (k p.1) (k q.1)) (fun _ _ => False) s
  generalize k p.1 = x at h1 ij ⊢
  generalize k q.1 = y at h2 ij ⊢
  obtain ⟨a, o, t, u, n, e, ho, hc, hd⟩ := h1
  obtain ⟨a', o', t', u', n', e', ho', hc', hd'⟩ := h2
  rw [e, e'] at ij ⊢
  refine PySem.W.kat_lt ho hd ho' hd' ?_
  show PySem.W.KatLex prog w A true (decide (2 < 2)) _ [(.str x t, .str y t'), (u, u')] 0 s
  refine PySem.W.kat_cons (SeqAt.EqAt.str_str x t y t' prog w _ _ ?_)
  refine PySem.W.kat_go (fun e1 => ?_) (fun e1 => ?_)
  · have ex : x = y := by simpa using e1
    have ea := Value.ref.inj (ij ex)
    subst ea
    rw [ho] at ho'
    cases ho'
    rw [hd] at hd'
    have eu : u = u' := by
      have z := Data.seq.inj hd'
      have z2 := congrArg Array.toList z.1
      exact (List.cons.inj (List.cons.inj z2).2).1
    subst eu
    refine PySem.W.kat_yes (PySem.W.kat_cons (SeqAt.EqAt.same u prog w _ _ ?_))
    refine PySem.W.kat_go (fun _ => PySem.W.kat_yes (PySem.W.kat_nil ⟨rfl, ?_⟩)) fun z => nomatch z
    rw [ex]
    exact (ltS_no.mpr (leS_refl y)).symm
  · exact PySem.W.kat_no (oneLt_str ⟨rfl, rfl⟩)
theorem firstsR {h : Heap} : ∀ {vs : List Value}, (∀ v ∈ vs, ∃ x, RowO h v x) → ∃ fs : List Value, PySem.W.KatTups h vs fs ∧ fs.length = vs.length ∧ ∀ f ∈ fs, ∃ x t, f = Value.str x t
  | [], _ => ⟨[], PySem.W.KatTups.nil, rfl, fun _ hm => by cases hm⟩
  | v :: vs, hp => by
    obtain ⟨fs, h1, h2, h3⟩ := firstsR (vs := vs) fun v' hm => hp v' (List.mem_cons_of_mem _ hm)
    obtain ⟨x, a, o, t, u, n, e, ho, hc, hd⟩ := hp v List.mem_cons_self
    subst e
    refine ⟨.str x t :: fs, PySem.W.KatTups.cons ho hc hd rfl h1, congrArg Nat.succ h2, fun f hm => ?_⟩
    rcases List.mem_cons.mp hm with rfl | hm
    · exact ⟨x, t, rfl⟩
    · exact h3 f hm
theorem rows_sortable {a : Addr} {vs : List Value} {k : Value → Str} (h0 : 0 < vs.length) (hp : ∀ v ∈ vs, RowO s.heap v (k v)) (inj : ∀ v ∈ vs, ∀ u ∈ vs, k v = k u → v = u) (ha : ∀ o, s.heap.get? a = some o → o.cls ≠ .type "tuple") :
    SortableO prog w A s a vs fun v u => ltS (k v) (k u) := by
  intro h' keep
  have hp' : ∀ v ∈ vs, RowO h' v (k v) := fun v hm => (hp v hm).keeps fun b o e c => keep b o (fun z => ha o (z ▸ e) c) e
  obtain ⟨fs, h1, h2, h3⟩ := firstsR fun v hm => ⟨_, hp' v hm⟩
  refine ⟨tuples' true, fun Q E hq => ?_, row_cmp hp' inj⟩
  refine PySem.W.kat_kind (T := .type "str") h1 (by omega) (fun f hm => ?_) (by rfl) ?_
  · obtain ⟨x, t, rfl⟩ := h3 f hm
    exact PySem.W.Looks.now
  · have e : (Value.type "str" != Value.type "tuple") = true := by first | decide +kernel | rfl | decide
    rw [e]
    exact hq
/-- sorted of a tuple: its items are put into a list first -/
theorem collectT {l : Addr} {vs : List Value} {Q : List Value → Shared → Prop} (hl : s.heap.IsTuple l vs.toArray) (hz : vs.length ≤ sizeLine)
    (h : Q vs { s with heap := (s.heap.push (seqObj "list" #[] 0)).update s.heap.objs.size (Obj.mapSeq (· ++ vs.toArray)) }) : wpAny (model prog w) A (collect (.ref l)) Q E s := by
  obtain ⟨o, ho, hc, n, hd⟩ := hl
  have ho' : (s.heap.push (seqObj "list" #[] 0)).get? l = some o := Heap.get?_push_of_some _ ho
  have hN : (s.heap.push (seqObj "list" #[] 0)).get? s.heap.objs.size = some (seqObj "list" #[] 0) := Heap.get?_push_size _ rfl
  unfold collect
  refine wpAny_bind (wpAny_runValue (codeAny_builtin entry_proto_collect' ?_))
  refine wpAny_bind (wpAny_newList (wpAny_pure ⟨Code.quiet_builtin _ (by decide +kernel), codeAny_builtin entry_list_iadd' ?_⟩))
  show wpAny _ _ (Builtin.List.listExtendWith (.ref s.heap.objs.size) (.ref l) (.ref s.heap.objs.size)) _ _ { s with heap := s.heap.push (seqObj "list" #[] 0) }
  unfold Builtin.List.listExtendWith
  refine wpAny_bind (wpAny_typeOf (T := "tuple") ⟨o, ho', hc⟩ ?_)
  rw [if_pos (by rw [Bool.or_eq_true]; exact .inr rfl)]
  refine wpAny_bind (listItems_at ho' hd (wpAny_bind (listItems_at (xs := #[]) (n := 0) hN rfl ?_)))
  rw [if_neg (by simp)]
  refine wpAny_bind (listUpdate_at (xs := #[]) (n := 0) hN rfl ?_ (Nat.zero_le _) (by show (#[] ++ vs.toArray).size ≤ sizeLine + 1; simp only [Array.size_append, List.size_toArray, List.length_nil]; omega))
  refine wpAny_pure ?_
  refine wpAny_bind (wpAny_load (get?_update_seq hN _) ?_)
  show wpAny _ _ (pure ((#[] : Array Value) ++ vs.toArray).toList) Q E _
  rw [show ((#[] : Array Value) ++ vs.toArray).toList = vs by simp]
  exact wpAny_pure h
theorem sortedT_ord {l : Addr} {vs : List Value} {ltv : Value → Value → Bool} {Q : Value → Shared → Prop} (O : Swo ltv) (hl : s.heap.IsTuple l vs.toArray) (hz : vs.length ≤ sizeLine)
    (hS : 2 ≤ vs.length → ∀ (h₁ : Heap) (a : Addr), h₁.get? a = some (seqObj "list" vs.toArray 0) → (∀ b o, s.heap.get? b = some o → b ≠ a ∧ h₁.get? b = some o) → SortableO prog w A.in1.in1 { s with heap := h₁ } a vs ltv)
    (h : ∀ out : List Value, Srtd ltv out → Stb ltv out vs → Q (.ref (s.heap.objs.size + 1)) { s with heap := sortedAll s.heap vs out.toArray }) :
    wpAny (model prog w) A (call (.builtin "sorted") [.ref l]) Q E s := by
  refine Calls.call_function_entry kind_sorted plain_sorted entry_sorted (args_sorted1 _) ?_
  unfold Builtin.«sorted»
  refine wpAny_bind (m := checkCount "sorted" 1 1 _) (wpAny_pure ?_)
  refine wpAny_bind (collectT hl hz ?_)
  refine wpAny_bind (wpAny_newList ?_ hz)
  let g : Heap := (s.heap.push (seqObj "list" #[] 0)).update s.heap.objs.size (Obj.mapSeq (· ++ vs.toArray))
  have hsz : g.objs.size = s.heap.objs.size + 1 := by show (Heap.update _ _ _).objs.size = _; rw [Heap.size_update, size_push']
  have hoL : (g.push (seqObj "list" vs.toArray 0)).get? (s.heap.objs.size + 1) = some (seqObj "list" vs.toArray 0) := by
    rw [← hsz]
    exact Heap.get?_push_size _ rfl
  have kk : ∀ b o, s.heap.get? b = some o → b ≠ s.heap.objs.size + 1 ∧ (g.push (seqObj "list" vs.toArray 0)).get? b = some o := fun b o q => by
    have lt := Heap.lt_size q
    refine ⟨Nat.ne_of_lt (Nat.lt_succ_of_lt lt), Heap.get?_push_of_some _ ((Heap.get?_update_ne _ _ _ _ (Nat.ne_of_lt lt)).trans (Heap.get?_push_of_some _ q))⟩
  show wpAny _ _ _ _ _ { s with heap := g.push (seqObj "list" vs.toArray 0) }
  rw [show ((s.heap.push (seqObj "list" #[] 0)).update s.heap.objs.size (Obj.mapSeq (· ++ vs.toArray))).objs.size = s.heap.objs.size + 1 from hsz]
  refine wpAny_bind (wpAny_holding (wpAny_call_entry slot_list_sort ⟨_, hoL, rfl⟩ entry_list_sort (list_sort_ord O hoL hz (fun h2 => hS h2 _ _ hoL kk) fun out hs hb => ⟨_, rfl, ?_⟩) (args_list_sort _)))
  exact wpAny_pure ⟨_, rfl, h out hs hb⟩
end
/-! ### the rows themselves -/
theorem perm_paired {α β : Type} {R : α → β → Prop} : ∀ {l l' : List α}, l'.Perm l → ∀ {m : List β}, Paired R l m → ∃ m', m'.Perm m ∧ Paired R l' m' := by
  intro l l' p
  induction p with
  | nil => intro m h; cases h; exact ⟨[], List.Perm.refl _, .nil⟩
  | cons x p ih =>
    intro m h
    cases h with
    | cons a t =>
      obtain ⟨m', p1, p2⟩ := ih t
      exact ⟨_ :: m', p1.cons _, .cons a p2⟩
  | swap x y l =>
    intro m h
    cases h with
    | cons a t =>
      cases t with
      | cons b u => exact ⟨_ :: _ :: _, List.Perm.swap _ _ _, .cons b (.cons a u)⟩
  | trans p1 p2 ih1 ih2 =>
    intro m h
    obtain ⟨m1, q1, r1⟩ := ih2 h
    obtain ⟨m2, q2, r2⟩ := ih1 r1
    exact ⟨m2, q2.trans q1, r2⟩
theorem pw_paired {α β : Type} {R : α → β → Prop} {r : α → α → Prop} {q : β → β → Prop} (h : ∀ a b c d, R a c → R b d → r a b → q c d) : ∀ {l : List α} {m : List β}, Paired R l m → l.Pairwise r → m.Pairwise q
  | _, _, .nil, _ => List.Pairwise.nil
  | _, _, .cons (a := a) a0 t, p => by
    obtain ⟨p1, p2⟩ := List.pairwise_cons.mp p
    refine List.pairwise_cons.mpr ⟨fun d hd => ?_, pw_paired (q := q) h t p2⟩
    obtain ⟨b, hb, e⟩ : ∃ b ∈ _, R b d := by
      obtain ⟨i, hi⟩ := List.getElem?_of_mem hd
      obtain ⟨b, hb, f⟩ := paired_get2 t i d hi
      exact ⟨b, List.mem_of_getElem? hb, f⟩
    exact h _ _ _ _ a0 e (p1 b hb)
open Classical in
/-- the first item, where there is one -/
noncomputable def pathOf (h : Heap) (v : Value) : Str := if e : ∃ x, RowO h v x then e.choose else ""
theorem RowO.inj {h : Heap} {v : Value} {x y : Str} (a : RowO h v x) (b : RowO h v y) : x = y := by
  obtain ⟨p, o, t, u, n, e, ho, _, hd⟩ := a
  obtain ⟨p', o', t', u', n', e', ho', _, hd'⟩ := b
  rw [e] at e'
  cases e'
  rw [ho] at ho'
  cases ho'
  rw [hd] at hd'
  have z := congrArg Array.toList (Data.seq.inj hd').1
  have z2 := (List.cons.inj z).1
  cases z2
  rfl
theorem pathOf_is {h : Heap} {v : Value} {x : Str} (a : RowO h v x) : pathOf h v = x := by
  unfold pathOf
  have e : ∃ x, RowO h v x := ⟨x, a⟩
  rw [dif_pos e]
  exact e.choose_spec.inj a
theorem row_obj {X : Cx} {pins : List (Addr × Obj)} {σ : L2.St} {H : Hp} {s : Shared} (I : Inv X pins σ H s) {v : V} {u : Value} {f : File} (h : RowAt X.K H v f) (r : RelV v u) : RowO s.heap u f.1 := by
  obtain ⟨t, w, rfl, ht, _⟩ := h
  obtain ⟨its, rv, ⟨o, ho, hc, n, hd⟩, _⟩ := I.tuple ht
  obtain ⟨u1, u2, rfl, ri, _⟩ := vals2 rv
  obtain ⟨t1, rfl⟩ := ri
  cases r
  exact ⟨t, o, t1, u2, n, rfl, ho, hc, hd⟩
/-- sorted(rows), rows a list or a tuple, no two of the same path: a new list -/
def rSortF (K : PySem.W.Frag) : List V → Hp → VK → Prop := fun vs H Q => ∃ (a : Addr) (ws : List V) (gs : List File), vs = [.ref a] ∧ (SqL K H a ws ∨ SqT K H a ws) ∧ RowsAt K H ws gs ∧ (gs.map (·.1)).Nodup ∧ gs.length ≤ 1000 ∧
  ∀ p ys, H p = none → RowsAt K (upd H p (.lst ys)) ys (srtF gs) → Q (.ref p) (upd H p (.lst ys))
theorem call_sortF {X : Cx} {K : PySem.W.Frag} (hK : X.K = K) : CallR X (.builtin "sorted") (rSortF K) := by
  subst hK
  intro pins s σ H xs us Q I r h
  obtain ⟨a, ws, gs, rfl, hS, hR, nd, hl, q⟩ := h
  obtain ⟨u, rfl, ru⟩ := vals1 r
  obtain rfl : u = Value.ref a := ru
  obtain ⟨its, rv, hz, hrun⟩ : ∃ its : List Value, Vals ws its ∧ ws.length ≤ sizeLine ∧ (s.heap.IsList a its.toArray ∨ s.heap.IsTuple a its.toArray) := by
    rcases hS with hS | hS
    · obtain ⟨its, rv, hi, hz⟩ := I.list hS
      exact ⟨its, rv, hz, .inl hi.isList⟩
    · obtain ⟨its, rv, hi, hz⟩ := I.tuple hS
      exact ⟨its, rv, hz, .inr hi⟩
  have hz2 : its.length ≤ sizeLine := by rw [← rv.length]; exact hz
  -- each item is a row
  have both : Paired (fun (u : Value) (f : File) => RowO s.heap u f.1 ∧ RowAt X.K H (backV u) f ∧ ∃ t, u = .ref t) its gs := by
    clear hz hrun hz2 q nd hl hS
    induction rv generalizing gs with
    | nil => cases hR; exact .nil
    | cons r _ ih =>
      cases hR with
      | cons h t =>
        refine .cons ⟨row_obj I h r, ?_⟩ (ih _ t)
        obtain ⟨t0, w0, rfl, e⟩ := id h
        cases r
        exact ⟨h, t0, rfl⟩
  have hp : ∀ v ∈ its, RowO s.heap v (pathOf s.heap v) := fun v hv => by
    obtain ⟨f, _, e, _⟩ := paired_mem both hv
    rw [pathOf_is e]
    exact e
  have inj : ∀ v ∈ its, ∀ u ∈ its, pathOf s.heap v = pathOf s.heap u → v = u := fun v hv u hu e => by
    obtain ⟨i, hi⟩ := List.getElem?_of_mem hv
    obtain ⟨j, hj⟩ := List.getElem?_of_mem hu
    obtain ⟨f, hf, e1, _⟩ := paired_get both i v hi
    obtain ⟨g, hg, e2, _⟩ := paired_get both j u hj
    rw [pathOf_is e1, pathOf_is e2] at e
    have e3 : (gs.map (·.1))[i]? = some f.1 := by rw [List.getElem?_map, hf]; rfl
    have e4 : (gs.map (·.1))[j]? = some f.1 := by rw [List.getElem?_map, hg, e]; rfl
    have ij : i = j := nodup_ix nd e3 e4
    rw [ij, hj] at hi
    exact (Option.some.inj hi).symm
  have fin : ∀ out : List Value, Srtd (fun v u => ltS (pathOf s.heap v) (pathOf s.heap u)) out → Stb (fun v u => ltS (pathOf s.heap v) (pathOf s.heap u)) out its →
      EP X pins σ Q (.ref (s.heap.objs.size + 1)) { s with heap := sortedAll s.heap its out.toArray } := fun out h1 h2 => by
    obtain ⟨gs', p1, p2⟩ := perm_paired h2.perm both
    have pw : gs'.Pairwise leF := pw_paired (fun v u f g ef eg z => by
      have z : ltS (pathOf s.heap u) (pathOf s.heap v) = false := z
      rw [pathOf_is ef.1, pathOf_is eg.1] at z
      exact ltS_no.mp z) p2 h1
    have eg := sortedF_is p1 nd pw
    subst eg
    have refs : ∀ u ∈ out, ∃ t, u = Value.ref t := fun u hu => by
      obtain ⟨f, _, _, _, t, e⟩ := paired_mem p2 hu
      exact ⟨t, e⟩
    obtain ⟨n, hn⟩ := sortedAll_at s.heap its out.toArray
    have nw : H (s.heap.objs.size + 1) = none := I.hok.fresh (Nat.le_succ _)
    have hl2 : (out.map backV).length ≤ sizeLine := by rw [List.length_map, h2.perm.length_eq]; exact hz2
    have J : Inv X pins σ (upd H (s.heap.objs.size + 1) (.lst (out.map backV))) { s with heap := sortedAll s.heap its out.toArray } :=
      I.laid (t' := s.toks) (fun b o e => sortedAll_old e) (Nat.le_succ _) ⟨hl2, out, n, vals_back refs, hn⟩
    refine ⟨.ref (s.heap.objs.size + 1), _, J, rfl, q _ _ nw ?_⟩
    have rows : ∀ {l : List Value} {m : List File}, Paired (fun (u : Value) (f : File) => RowO s.heap u f.1 ∧ RowAt X.K H (backV u) f ∧ ∃ t, u = .ref t) l m → RowsAt X.K H (l.map backV) m := by
      intro l m h
      induction h with
      | nil => exact .nil
      | cons a _ ih => exact .cons a.2.1 ih
    exact (rows p2).st (same_upd nw).t
  have sortable : 2 ≤ its.length → ∀ (h₁ : Heap) (b : Addr), h₁.get? b = some (seqObj "list" its.toArray 0) → (∀ c o, s.heap.get? c = some o → c ≠ b ∧ h₁.get? c = some o) →
      SortableO X.prog X.w X.A.in1.in1 { s with heap := h₁ } b its (fun v u => ltS (pathOf s.heap v) (pathOf s.heap u)) := fun h2 h₁ b hb kk => by
    refine rows_sortable (s := { s with heap := h₁ }) (by omega) (fun v hm => (hp v hm).keeps fun c o e _ => (kk c o e).2) inj fun o e => ?_
    have e' : some o = some (seqObj "list" its.toArray 0) := e.symm.trans hb
    cases e'
    intro c
    exact absurd (Value.type.inj c) (by decide)
  rcases hrun with hi | hi
  · exact sorted_ord (swo_rows _) hi hz2 sortable fin
  · exact sortedT_ord (swo_rows _) hi hz2 sortable fin
end Ga

set_option maxRecDepth 100000
set_option maxHeartbeats 4000000
/-! Gx: an own exception's __init__ that says super().__init__(..) first. -/
namespace Ga
open PySem PySem.Spec PyProof.Rows L2 TL NdefX
/-- what the top has left of such an __init__ -/
structure SupIn (P : Program) (K : PySem.W.Frag) (f C : Addr) (F : NF) (fd : FuncData) : Prop where
  ex : ∃ (oc ccl cl : Value) (od cdd cld : Option Addr) (osl ccs csl : Array (Option Value)) (doc pm ctv : Value) (vs : Array Value) (file : Str) (tf : Tok) (cc : Addr), fd = F.fd doc pm ctv ∧
    K.lookup f = some ⟨oc, od, .func (F.fd doc pm ctv), osl⟩ ∧ PySem.W.codeIn K (.ref F.c) F.qual = true ∧ K.lookup F.c = some ⟨ccl, cdd, .fields vs, ccs⟩ ∧ vs[2]? = some (.str file tf) ∧
    ((P.main.file : Str) == file) = true ∧ F.cl = [(("__class__" : Str), cc)] ∧ K.lookup cc = some ⟨cl, cld, .cell (some (.ref C)), csl⟩
/-- what the written part says of its class -/
structure SupC (K : PySem.W.Frag) (C : Addr) : Prop extends OexC K C where
  self : PySem.W.mroIn K C (.ref C) = some true
  sup : PySem.W.ks_superIn K C C "__init__" = some (some (.builtin "ValueError.__init__"))
  ve : PySem.W.subIn K (.ref C) (.type "ValueError") = some true
  any : PySem.W.nsIn K cStatics "thirdparty.any" = some none
/-- what its text says -/
structure SupT (P : Program) (F : NF) (N ps : List Str) (ar : Arg) : Prop where
  scope : NScope N ps ["__class__"] F.scope
  head : (F.params.posonlyargs ++ F.params.args).head? = some ar
  name : ps[0]? = some ar.arg
  ks : F.scope.names.lookup ("super" : Str) = some .globalImplicit
  top : (P.main.scope.names.lookup ("super" : Str)).isSome = false
section
variable {P : Program} {w : World} {K : PySem.W.Frag} {mg : Str → Option Value} {base : Heap}
theorem ok_sup {k : Nat} {f C : Addr} {F : NF} {fd : FuncData} {N ps : List Str} {sp : Sp} {ar : Arg} {e : Expr} {es : List Expr} {rest : List Stmt} {p0 p1 p2 p3 p4 : Pos}
    (SI : SupIn P K f C F fd) (SC : SupC K C) (ST : SupT P F N ps ar) (hsuper : mg "super" = none)
    (hbody : F.body = .Expr (.Call (.Attribute (.Call (.Name "super" p0) [] [] p1) "__init__" p2) (e :: es) [] p3) p4 :: rest)
    (len : ∀ vs H Q E, sp vs H Q E → vs.length = ps.length)
    (hi : ∀ L, interactive (envF F f L) = false) (hsw : ∀ L, swapsWith (.Call (.Attribute (.Call (.Name "super" p0) [] [] p1) "__init__" p2) (e :: es) [] p3) none p4.line (envF F f L) = pure false)
    (hev : ∀ L, ∃ pl : Sem Bool, eval (.Call (.Attribute (.Call (.Name "super" p0) [] [] p1) "__init__" p2) (e :: es) [] p3) (envF F f L) = (do
      let ov ← attributeBase (.Call (.Name "super" p0) [] [] p1) "__init__" (envF F f L) (eval (.Call (.Name "super" p0) [] [] p1) (envF F f L))
      standAt p2.atName
      let (f', first) ← holding [ov] (getMethod ov "__init__" pl)
      callWith p3 f' first (backTo p3 (starEach (e :: es) (envF F f L))) []))
    (he : ∀ L, starEach (e :: es) (envF F f L) = (false, eval e (envF F f L)) :: starEach es (envF F f L)) (hpl : ∀ L, (backTo p3 (starEach es (envF F f L))).any (·.1) = false)
    (hb : ∀ (A : Around) (outer : List Env) (s : Shared) (H : Hp) (vs : List V) (Q : VK) (E : XK), Room k (A.deeper (envF F f s.heap.objs.size)) → sp vs H Q E →
      ∃ (a : Addr) (tA : TA) (t : TS), vs[0]? = some (.ref a) ∧ H a = some (exo a C none) ∧ PA (ncx CX0 P w K mg base N F f A outer s H E) (e :: es) tA ∧ PSs (ncx CX0 P w K mg base N F f A outer s H E) rest t ∧
        tA (startF N vs [none]) H fun ws H1 => ws.length ≤ 1000 ∧ H1 a = some (exo a C none) ∧ t { nx := fun _ H' => Q .non H', rt := Q } (startF N vs [none]) H1) :
    FnOk P w K mg base CX0 (k + 1) f fd ps sp := by
  obtain ⟨oc, ccl, cl, od, cdd, cld, osl, ccs, csl, doc, pm, ctv, vs2, file, tf, cc, rfl, lk, hcd, lc, hvs, hfile, hcl, lcell⟩ := SI.ex
  obtain ⟨nm, qn, N', bs, bm, sn, sub, ab, col, dd, k0, k1, k2, k3, k5, hC, hbm⟩ := SC.cls
  have S := ST.scope
  refine ⟨len, fun A outer s H args us vs Q E hr e0 hbi r hsp => ?_⟩
  have hl := len _ _ _ _ hsp
  have keep : ∀ b o, base.get? b = some o → s.heap.get? b = some o := fun b o e => (e0.bs b o e).1
  have KX := e0.mod.kin.keeps keep
  have lim := e0.mod.nolimit.keeps keep
  have CC : CellsAt F.cl ["__class__"] [none] s.heap H := by
    rw [hcl]
    have one : ∀ {y : Str} {c : Addr}, List.lookup y [(("__class__" : Str), cc)] = some c → y = "__class__" ∧ c = cc := by
      intro y c e
      by_cases q : y = "__class__"
      · subst q
        simp [List.lookup] at e
        exact ⟨rfl, e.symm⟩
      · have q2 : (y == ("__class__" : Str)) = false := by simpa using q
        simp [List.lookup, q2] at e
    refine ⟨rfl, fun y c e => ?_, fun x y c e1 e2 => (one e1).1.trans (one e2).1.symm, fun i y e => ?_⟩
    · obtain ⟨rfl, rfl⟩ := one e
      exact ⟨(e0.bs _ _ (e0.mod.kin _ _ lcell)).2, _, _, KX _ _ lcell, rfl⟩
    · cases i with
      | zero =>
        cases e
        exact ⟨cc, by simp [List.lookup], fun v z => by cases z⟩
      | succ i => cases e
  refine ks_codeAny_call_defAt (fd := F.fd doc pm ctv) (body := F.body) (binds := ps.zip us) hr.depth (KX _ _ lk) rfl lim (PySem.W.codeRec_of KX hcd) rfl hbi S.nocell (fun y hy => S.par y.1 (List.of_mem_zip (a := y.1) (b := y.2) hy).1) (fun h₁ hns kp => ?_) S.co S.gen S.kind
  have I : Inv (ncx CX0 P w K mg base N F f A outer s H E) [] (startF N vs [none]) H { s with heap := h₁, toks := s.toks + (ps.zip us).length } := inv_startN S hr.hd e0 hl r CC hns kp
  obtain ⟨a, tA, t, hv0, ea, hA, hR, hq⟩ := hb A outer s H vs Q E (hr.deeper _) hsp
  show _root_.PySem.wpAt (model P w) (A.deeper (envF F f s.heap.objs.size)) (.func F.body (envF F f s.heap.objs.size)) (execs F.body (envF F f s.heap.objs.size)) _ _ _
  have X1 : K.In h₁ := I.kIn
  obtain ⟨u0, hu0, ru0⟩ := r.get hv0
  obtain rfl : u0 = Value.ref a := ru0
  have hself : (ps.zip us).reverse.lookup ar.arg = some (.ref a) := by
    have ndP : ps.Nodup := by
      have q : (ps ++ [("__class__" : Str)]).Nodup := by
        rw [← S.pre]
        exact S.nd.sublist (List.take_sublist _ N)
      exact (List.nodup_append.mp q).1
    exact zip_look ndP ST.name hu0
  have hka : F.scope.names.lookup ar.arg = some .local := S.par _ (List.mem_of_getElem? ST.name)
  have hkc : F.scope.names.lookup ("__class__" : Str) = some .free := S.frk _ (by simp)
  rw [hbody]
  obtain ⟨pl, hpl1⟩ := hev s.heap.objs.size
  refine ks_wpAt_execs_cons (ks_wpAt_Expr_any (ks_wpAt_MethodCall (pl := pl) ?_ hpl1) (hi _) (hsw _))
  refine ks_wpAt_super_base (env := envF F f s.heap.objs.size) ST.ks hkc (by decide) rfl (X1 _ _ lk) rfl ST.head rfl (X1 _ _ lc) rfl hvs hfile ST.top ?_
  obtain ⟨mb, hb1, hb2⟩ := I.mod.blt
  refine PySem.W.ks_loadName_global S.kind ST.ks (Calls.loadGlobal_builtin (env := envF F f s.heap.objs.size) (I.mod.glob.keeps I.bk) hsuper (hb1.keeps I.bk) ((hb2 _ (by decide)).trans (show bootBuiltins "super" = some (.type "super") by decide +kernel)) ⟨rfl, ?_⟩)
  refine wpAny_loadName_free S.kind hkc (c := cc) (by show F.cl.lookup _ = _; rw [hcl]; simp [List.lookup]) ⟨_, X1 _ _ lcell, rfl⟩ ?_
  refine wpAny_loadName_local S.kind hka hns hself ?_
  obtain ⟨t1, ho⟩ := exo_at I.hok ea
  have hc1 := X1 _ _ hC
  refine ks_wpAny_isType_cls hc1 rfl ⟨rfl, ?_⟩
  refine ks_wpAny_call_super hc1 rfl ho rfl (fun c z => by cases z) (PySem.W.looks_mroIn X1 SC.self) (fun h2 hso kp2 => ?_)
  have X2 : K.In h2 := X1.keeps kp2
  have I2 := I.kept (t' := s.toks + (ps.zip us).length) kp2
  have ho2 := kp2 _ _ ho
  have hsupA := SC.sup
  have I0 : PySem.W.InstAt h2 a _ C none := ⟨ho2, rfl, rfl, trivial⟩
  have hIn : PySem.W.Looks (model P w) h2 (isInstance (.ref a) (.type "ValueError")) true := I0.type.andThen (PySem.W.looks_subIn X2 SC.ve)
  have hcl1 : PySem.W.clsIn K C = some { name := nm, bases := bs, mro := .ref C :: bm, ns := N', qualname := qn, hasDict := true, slotNames := sn, subclasses := sub, abstract := ab, collection := col, hasDel := false } := by unfold PySem.W.clsIn; rw [hC] <;> rfl
  unfold PySem.W.ks_superIn at hsupA
  rw [hcl1] at hsupA
  refine PySem.W.kxs_getMethod PySem.W.kxs_ValueError hso (PySem.W.looks_opaque X2 SC.any) (l₀ := .ref C :: bm) ?_ rfl X2 hsupA hIn (PySem.W.ks_ne X2 I0 hcl1) (by decide) ?_
  · exact fun A Q E s k q => wpAny_bind ((PySem.W.looks_clsIn X2 hcl1) A _ E s k (wpAny_pure q))
  let u : Addr := h2.objs.size
  have hu : (h2.push (PySem.W.kxs_mw "ValueError.__init__" a)).get? u = some (PySem.W.kxs_mw "ValueError.__init__" a) := Heap.get?_push_at rfl rfl
  have I3 := I2.kept (h' := h2.push (PySem.W.kxs_mw "ValueError.__init__" a)) (t' := s.toks + (ps.zip us).length + 1) (fun b o z => Heap.get?_push_of_some _ z)
  have I4 : Inv (ncx CX0 P w K mg base N F f A outer s H E) [(u, PySem.W.kxs_mw "ValueError.__init__" a)] _ H _ := I3.pins_of fun p hp => by
    obtain rfl := List.mem_singleton.mp hp
    have f0 := I2.fpOk (b := u) (Nat.le_refl _) (I2.hok.fresh (Nat.le_refl _))
    exact ⟨hu, f0.1, f0.2.1, f0.2.2.1, fun v z => by cases z⟩
  show wpAny (model P w) _ (callWith p3 (.ref u) [] (backTo p3 (starEach (e :: es) (envF F f s.heap.objs.size))) []) _ _ _
  rw [he]
  refine PySem.W.kxs_callWith (i := "ValueError.__init__") (x := a) (by show (false || (backTo p3 (starEach es (envF F f s.heap.objs.size))).any (·.1)) = false; rw [hpl]; rfl) (PySem.Calls.evalArgs_plain ?_)
  have A1 := hA.run p3 _ _ _ _ _ I4 hq
  rw [show starEach (e :: es) (ncx CX0 P w K mg base N F f A outer s H E).env = _ from he _] at A1
  refine thn A1 fun ws s2 hws => ?_
  obtain ⟨vs', H1, I5, r5, hz, ea1, q⟩ := hws
  have hu5 := (I5.pin (u, PySem.W.kxs_mw "ValueError.__init__" a) (List.mem_append_right _ (List.mem_singleton.mpr rfl))).1
  refine ⟨hu5, ?_⟩
  have hlen : ws.length ≤ sizeLine := by
    rw [← r5.length, sizeLine_eq]
    omega
  obtain ⟨t2, ho5⟩ := exo_at I5.hok ea1
  have hc5 := I5.kIn _ _ hC
  obtain ⟨hh, g, d, tk, os⟩ := s2
  show wpAny _ _ (call (.ref u) ws) _ _ _
  refine wpAny_call (codeAny_of_tree ?_)
  show wpAny _ (Around.in1 _) (callAny (.ref u) ⟨ws, []⟩) _ _ _
  simp only [callAny]
  refine wpAny_bind (wpAny_load hu5 ?_)
  simp only [PySem.W.kxs_mw, show (Value.type "method-wrapper" == Value.type "method" || Value.type "method-wrapper" == Value.type "builtin_function_or_method" || Value.type "method-wrapper" == Value.type "method-wrapper") = true by decide, if_true]
  refine PySem.W.KFB.if_so (by decide) ?_
  refine wpAny_bind (PySem.W.check_bound_init PySem.F.excBase_ValueError.toExcCallFacts hc5 ho5 rfl ?_)
  refine wpAny_bind (wpAny_pure (wpAny_pure ?_))
  refine ⟨plainId_quiet PySem.F.excBase_ValueError.init.plain _, codeAny_builtin PySem.F.excBase_ValueError.initEntry ?_⟩
  refine PySem.W.exc_init_tree (cls := .ref C) (t0 := t2) (dv := none) (c2 := .none) (c3 := .none) (b4 := .bool false) ho5 hlen (fun h' k6 e6 _ => ?_)
  have J := I5.write (t' := tk) (x := a) (e := a) (o := exo a C none) (by rw [ea1]; exact True.intro) (.inl rfl) k6 ⟨_, e6⟩ (exo_ok e6)
  have eu : upd H1 a (exo a C none) = H1 := by
    funext b
    by_cases hb : b = a
    · rw [hb, upd_same, ea1]
    · rw [upd_ne hb]
  rw [eu] at J
  have J2 : Inv (ncx CX0 P w K mg base N F f A outer s H E) [] (startF N vs [none]) H1 ⟨h', g, d, tk, os⟩ := J.pins_of fun p hp => by cases hp
  refine wpAt_of_wpAny (wpAny_mono (hR.run [] _ _ H1 _ J2 q) (fun fl s' hs => ?_) fun e s' hs => hs)
  have fin : ∀ {σ' : L2.St} {H' : Hp} {v : V} {u : Value}, Inv (ncx CX0 P w K mg base N F f A outer s H E) [] σ' H' s' → L2.RelV v u → Q v H' → CE outer P w H s Q u s' :=
    fun {σ' H' v u} J rv q => ⟨v, H', J.os, J.bare, J.base, J.hok, rv, q⟩
  cases fl with
  | ret u =>
    obtain ⟨v, σ', H', J, rv, q⟩ := hs
    exact fin J rv q
  | next =>
    obtain ⟨σ', H', J, q⟩ := hs
    exact fin (v := V.non) (u := Value.none) J rfl q
  | brk =>
    obtain ⟨_, _, _, q⟩ := hs
    exact False.elim q
  | cont =>
    obtain ⟨_, _, _, q⟩ := hs
    exact False.elim q
end
end Ga

set_option maxRecDepth 100000
set_option maxHeartbeats 4000000
/-! Gy: making an instance in a try; isinstance of a caught error that has its dict. -/
namespace Ga
open PySem PySem.Spec PyProof.Rows L2 TL
def tMakeS (C : Addr) (sp : Sp) (dvs : List V) (E : L2.St → XK) (t : TA) : TE := fun σ H Q => t σ H fun vs H1 => ∀ x dx, H1 x = none → H1 dx = none → dx ≠ x → sp (.ref x :: (vs ++ dvs)) (upd (upd H1 dx (.own x)) x (.ins C dx [])) (fun v H2 => v = .non ∧ Q (.ref x) H2) (E σ)
section
variable {X : Cx} {CX : CXT} {k : Nat} {f C : Addr} {fd : FuncData} {ps : List Str} {sp : Sp} {E : L2.St → XK} {x : Str} {p pos : Pos} {e : Expr} {es : List Expr} {t : TA} {dvs : List V} {ds : List Value}
theorem pe_makeS (M : Mk X.K C f) (F : FnOk X.prog X.w X.K X.mg X.base CX k f fd ps sp) (hr : Room (k + 1) X.A) (hg : Gl X x) (hm : X.mg x = some (.ref C)) (hb : Binds X.K fd ps ds) (hd : Vals dvs ds) (hx : ∀ σ, PassesAt CX X σ (E σ))
    (ha : PA X (e :: es) t) (hdb : (x == ("__debug__" : Str)) = false := by decide) (he : starEach (e :: es) X.env = (false, eval e X.env) :: starEach es X.env := by rfl) (hpl : (backTo pos (starEach es X.env)).any (·.1) = false := by rfl) :
    PE X (.Call (.Name x p) (e :: es) [] pos) (tMakeS C sp dvs E t) := by
  refine ⟨fun pins s σ H Q I h => ?_⟩
  refine wpAny_Call_Name_kw (ld_glob I hg hm ?_ hdb)
  refine PySem.W.callWith_K (h₀ := X.base) I.ok.mod.kin M.kp (thn (ha.run pos pins s σ H _ I h) fun us s1 ⟨vs, H1, I1, r, q⟩ => ⟨I1.kIn, ?_⟩) he hpl
  have n1 : H1 (s1.heap.objs.size + 1) = none := I1.hok.fresh (Nat.le_succ _)
  have n2 : H1 s1.heap.objs.size = none := I1.hok.fresh (Nat.le_refl _)
  have asked := q _ _ n1 n2 (Nat.ne_of_lt (Nat.lt_succ_self _))
  have J := Inv.made (C := C) I1
  have vals : Vals (V.ref (s1.heap.objs.size + 1) :: (vs ++ dvs)) (Value.ref (s1.heap.objs.size + 1) :: (us ++ ds)) := .cons rfl (r.append hd)
  have len : (Value.ref (s1.heap.objs.size + 1) :: us ++ ds).length = ps.length := vals.length.symm.trans (F.len _ _ _ _ asked)
  show wpAny _ _ (call (.ref C) us) _ _ _
  refine wpAny_call (make_map (f := f) I1.kIn M.makes M.init (beq_iff_eq.mp M.fn) (codeAny_mono (F.run _ X.stack _ _ ⟨Value.ref (s1.heap.objs.size + 1) :: us, []⟩ _ _ _ (E σ) (hr.make C us [])
    (J.env0.make C us []) (hb _ (Value.ref (s1.heap.objs.size + 1) :: us) J.kIn len) vals asked) fun r s' h' => ?_))
  match r, h' with
  | .error e, h' => exact hx σ pins _ _ e s' J h'
  | .ok (.ret u), h' =>
    obtain ⟨v, H', J2, rv, ev, q3⟩ := J.after h'
    subst ev
    exact ⟨rv, V.ref (s1.heap.objs.size + 1), H', J2, rfl, q3⟩
  | .ok .next, h' => exact h'.elim
  | .ok .brk, h' => exact h'.elim
  | .ok .cont, h' => exact h'.elim
end
/-- isinstance(e, c), e the exception that the suite holds, with its dict -/
def rIsX (K : PySem.W.Frag) (a : Addr) (cls : Value) (d : Option Addr) : List V → Hp → VK → Prop := fun xs H Q => ∃ (D dd : Addr) (fs : List (Str × V)) (c : V) (cv : Value) (b : Bool), cls = .ref D ∧ d = some dd ∧ H dd = some (.xd fs) ∧ ExcC K D ∧
  xs = [.ref a, c] ∧ (∀ u, RelV c u → u = cv) ∧ PySem.W.kitOne K (.ref D) cv = some b ∧ Q (.bl b) H
theorem call_isX {X : Cx} {a : Addr} {oe : Obj} {cls : Value} {d : Option Addr} {pn : List (Addr × Obj)} (hz : Zc cls d oe) (hf : ∃ vs, oe.data = .fields vs) : CallR (X.suite a ((a, oe) :: pn)) (.builtin "isinstance") (rIsX X.K a cls d) := by
  intro pins s σ H xs us Q I r h
  obtain ⟨D, dd, fs, c, cv, b, rfl, rfl, hdd, T, rfl, hcv, e, q⟩ := h
  cases r with
  | cons rx rr =>
    cases rr with
    | cons rt rr =>
      cases rr
      cases rx
      have ec := hcv _ rt
      subst ec
      have hget := (I.pin (a, oe) (List.mem_append_left _ List.mem_cons_self)).1
      obtain ⟨vs, hv⟩ := hf
      have hx : ObjOk X.prog X.w H s.heap dd (.xd fs) := I.hok dd _ hdd
      obtain ⟨mA, hns, _⟩ := hx
      obtain ⟨od, ho, _⟩ := lookIn_ns hns
      have J : PySem.W.InstAt s.heap a oe D (some od) := ⟨hget, hz.1, by unfold PySem.W.notCls; rw [hv] <;> rfl, by rw [hz.2]; exact ho⟩
      have hcl : (PySem.W.clsIn X.K D).isSome = true := by
        obtain ⟨cd, hc, _⟩ := PySem.W.any_some T.hd
        rw [hc]
        rfl
      exact PySem.W.kia_one (PySem.W.kitx_exc hcl T.hg T.hk T.hs T.ha T.hn T.ht T.hm) I.kIn J e (fun z => nomatch z) fun tk => ⟨.bl b, H, I.kept (t' := tk) fun _ _ z => z, rfl, q⟩
end Ga

set_option maxRecDepth 100000
set_option maxHeartbeats 4000000
/-! Gz: a tuple times 0 or 1. -/
namespace Ga
open PySem PySem.Spec PyProof.Rows L2 TL
theorem mul_one (l : Addr) (items : Array Value) (n : Nat) (dd : Option Addr) (sl : Array (Option Value)) (u : Tok) :
    Meets (Builtin.«tuple.__mul__» ⟨[.ref l, .int 1 u], []⟩) (fun _ R s => s.heap.get? l = some { cls := .type "tuple", dict := dd, data := .seq items n, slots := sl } ∧ R (.ok (.ret (.ref l))) s) :=
  .of_wp fun prog w A R s h => by
    obtain ⟨hp, g, d, tk, os⟩ := s
    obtain ⟨hl, h⟩ := h
    have f1 := AutoSeq1.idx_int
    have c1 : (items.isEmpty || (1 : Int) == 1) = true := by rw [Bool.or_eq_true]; exact .inr rfl
    have ty : (⟨hp, g, d, tk, os⟩ : Shared).TypeIs (.ref l) "tuple" := ⟨_, hl, rfl⟩
    wp_walk using wpAny_loadPart' hl
    repeat (first
      | (refine wpAny_ite_true (decide_eq_true c1) ?_; wp_walk using wpAny_loadPart' hl)
      | (refine wpAny_typeOf ty ?_; wp_walk using wpAny_loadPart' hl))
    all_goals first | exact ⟨_, rfl, h⟩ | exact h | skip
theorem mul_zero (l : Addr) (items : Array Value) (n : Nat) (dd : Option Addr) (sl : Array (Option Value)) (u : Tok) (hne : items.isEmpty = false) :
    Meets (Builtin.«tuple.__mul__» ⟨[.ref l, .int 0 u], []⟩) (fun _ R s => s.heap.get? l = some { cls := .type "tuple", dict := dd, data := .seq items n, slots := sl } ∧
      R (.ok (.ret (Value.ref s.heap.objs.size))) { s with heap := s.heap.push { cls := Value.type "tuple", data := Data.seq #[] }, toks := s.toks }) :=
  .of_wp fun prog w A R s h => by
    obtain ⟨hp, g, d, tk, os⟩ := s
    obtain ⟨hl, h⟩ := h
    have f1 := AutoSeq1.idx_int
    have c1 : (items.isEmpty || (0 : Int) == 1) = false := by rw [hne]; rfl
    have c2 : (decide ((0 : Int) ≤ 0) || items.isEmpty) = true := rfl
    wp_walk using wpAny_loadPart' hl
    repeat (first
      | (refine wpAny_ite_false (decide_eq_false (by rw [c1]; exact Bool.false_ne_true)) ?_; wp_walk using wpAny_loadPart' hl)
      | (refine wpAny_ite_true (decide_eq_true c2) ?_; wp_walk using wpAny_loadPart' hl))
    all_goals first | exact ⟨_, rfl, h⟩ | exact h | skip
/-- a tuple of some items, a few times -/
def rRepS (K : PySem.W.Frag) : R2 := fun x y H Q => ∃ l k xs, x = .ref l ∧ y = .int k ∧ SqT K H l xs ∧ xs ≠ [] ∧ 0 ≤ k ∧ k ≤ 1000 ∧ xs.length ≤ 1000 ∧ ∀ p H', Same H H' → SqT K H' p (List.replicate k.toNat xs).flatten → Q (.ref p) H'
theorem op_repS {X : Cx} {K : PySem.W.Frag} (hK : X.K = K) : OpR X (binaryOp .Mult) (rRepS K) := by
  subst hK
  intro pins s σ H x y v u Q I rx ry h
  obtain ⟨l, k, xs, rfl, rfl, hT, hne, h0, h1, hz, q⟩ := h
  by_cases h2 : 2 ≤ k
  · exact op_repT pins s σ H _ _ v u Q I rx ry ⟨l, k, xs, rfl, rfl, hT, hne, h2, h1, hz, fun p np => q p _ (same_upd np) (sqT upd_same)⟩
  · cases rx
    obtain ⟨t, rfl⟩ := ry
    obtain ⟨its, r, ⟨⟨cls, dd, data, sl⟩, ho, hc, n, hd⟩, hs⟩ := I.tuple hT
    simp only at hc hd
    subst hc hd
    have hi : its.toArray.isEmpty = false := by
      cases its with
      | nil => cases r; exact absurd rfl hne
      | cons a b => rfl
    rcases (show k = 0 ∨ k = 1 by omega) with rfl | rfl
    · refine wpAny_binaryOp_repeat_ref (T := "tuple") (U := "int") (by decide) ⟨_, ho, rfl⟩ (fun s' => typeIs_int s' 0 t) noFill_tuple_mul F.fills_int_mul F.slot_int_rmul repeat_tuple F.slot_int_index.lookup
        (call_meets F.slot_int_rmul (typeIs_int s 0 t) F.entry_int_rmul (F.args_int_rmul_2 _ _) (int_rmul_tuple 0 t l its.toArray n dd sl)
          ⟨ho, rfl, ⟨_, ho, rfl⟩, call_meets F.slot_tuple_mul ⟨_, ho, rfl⟩ F.entry_tuple_mul (F.args_tuple_mul_2 _ _) (mul_zero l its.toArray n dd sl t hi) ⟨ho, ?_⟩⟩)
      have nw := I.hok.fresh (Nat.le_refl s.heap.objs.size)
      refine ⟨.ref s.heap.objs.size, _, I.laid (t' := s.toks) (o := .tup []) (fun b ob q => Heap.get?_push_of_some _ q) (Nat.le_refl _) ?_, rfl, q _ _ (same_upd nw) (sqT upd_same)⟩
      exact ⟨Nat.zero_le _, [], .nil, IsTup.new _ _⟩
    · refine wpAny_binaryOp_repeat_ref (T := "tuple") (U := "int") (by decide) ⟨_, ho, rfl⟩ (fun s' => typeIs_int s' 1 t) noFill_tuple_mul F.fills_int_mul F.slot_int_rmul repeat_tuple F.slot_int_index.lookup
        (call_meets F.slot_int_rmul (typeIs_int s 1 t) F.entry_int_rmul (F.args_int_rmul_2 _ _) (int_rmul_tuple 1 t l its.toArray n dd sl)
          ⟨ho, rfl, ⟨_, ho, rfl⟩, call_meets F.slot_tuple_mul ⟨_, ho, rfl⟩ F.entry_tuple_mul (F.args_tuple_mul_2 _ _) (mul_one l its.toArray n dd sl t) ⟨ho, ?_⟩⟩)
      refine ⟨.ref l, H, I, rfl, q l H (.refl _) ?_⟩
      have : (List.replicate (1 : Int).toNat xs).flatten = xs := by simp
      rw [this]
      exact hT
end Ga

set_option maxRecDepth 100000
set_option maxHeartbeats 4000000
namespace KX
open PySem PySem.Spec PyProof.Rows L2 TL Ga
def top (i : Nat) : Stmt := PySem.Challenge.pw_sameanswers_k25_feet_and_their_stand.main.body.getD i (.Pass ⟨0, 0, 0, 0⟩)
/-- the statements of a class -/
def clsB : Stmt → List Stmt
  | .ClassDef _ _ _ b _ _ _ _ _ _ _ => b
  | _ => []
def meth (c : Stmt) (i : Nat) : Stmt := (clsB c).getD i (.Pass ⟨0, 0, 0, 0⟩)
/-- what the module's names hold -/
structure Tx (mg : Str → Option Value) : Prop where
  len : mg "len" = none
  all : mg "all" = none
  any : mg "any" = none
  ord : mg "ord" = none
  int : mg "int" = none
  range : mg "range" = none
  repr : mg "repr" = none
  tuple : mg "tuple" = none
  list : mg "list" = none
  dict : mg "dict" = none
  set : mg "set" = none
  sorted : mg "sorted" = none
  str : mg "str" = none
  isinstance : mg "isinstance" = none
  min : mg "min" = none
  max : mg "max" = none
  sum : mg "sum" = none
  bool : mg "bool" = none
  enumerate : mg "enumerate" = none
  zip : mg "zip" = none
  reversed : mg "reversed" = none
  abs : mg "abs" = none
  c_NAME_MOST : ∃ t, mg "NAME_MOST" = some (.int 8 t)
  c_DEPTH_MOST : ∃ t, mg "DEPTH_MOST" = some (.int 3 t)
  c_LINE_MOST : ∃ t, mg "LINE_MOST" = some (.int 20 t)
  c_LINES_MOST : ∃ t, mg "LINES_MOST" = some (.int 12 t)
  c_WORD_MOST : ∃ t, mg "WORD_MOST" = some (.int 12 t)
  c_NAME_SIGNS : ∃ t, mg "NAME_SIGNS" = some (.str "abcdefghijklmnopqrstuvwxyz0123456789" t)
  c_PERCENT : ∃ t, mg "PERCENT" = some (.int 37 t)
  c_FILES_MOST : ∃ t, mg "FILES_MOST" = some (.int 20 t)
abbrev s_TrunkError : Stmt := top 2
abbrev s_OutOfRange : Stmt := top 3
abbrev sOorInit : Stmt := meth s_OutOfRange 0
abbrev sIsName : Stmt := top 12
theorem scIsName : FnScope ["text", "sign"] ["text"] (defScope sIsName) := ⟨rfl, rfl, rfl, by decide +kernel, rfl, by decide +kernel, by decide +kernel⟩
abbrev nIsName : List Str := ["text", "sign"]
abbrev sIsPath : Stmt := top 13
theorem scIsPath : FnScope ["text", "names", "name"] ["text"] (defScope sIsPath) := ⟨rfl, rfl, rfl, by decide +kernel, rfl, by decide +kernel, by decide +kernel⟩
abbrev nIsPath : List Str := ["text", "names", "name"]
abbrev sIsPlace : Stmt := top 14
theorem scIsPlace : FnScope ["text"] ["text"] (defScope sIsPlace) := ⟨rfl, rfl, rfl, by decide +kernel, rfl, by decide +kernel, by decide +kernel⟩
abbrev nIsPlace : List Str := ["text"]
abbrev sSign : Stmt := top 15
theorem scSign : FnScope ["sign"] ["sign"] (defScope sSign) := ⟨rfl, rfl, rfl, by decide +kernel, rfl, by decide +kernel, by decide +kernel⟩
abbrev nSign : List Str := ["sign"]
abbrev sIsLine : Stmt := top 16
theorem scIsLine : FnScope ["text", "sign"] ["text"] (defScope sIsLine) := ⟨rfl, rfl, rfl, by decide +kernel, rfl, by decide +kernel, by decide +kernel⟩
abbrev nIsLine : List Str := ["text", "sign"]
abbrev sIsWord : Stmt := top 17
theorem scIsWord : FnScope ["text", "sign"] ["text"] (defScope sIsWord) := ⟨rfl, rfl, rfl, by decide +kernel, rfl, by decide +kernel, by decide +kernel⟩
abbrev nIsWord : List Str := ["text", "sign"]
abbrev sIsLines : Stmt := top 18
theorem scIsLines : FnScope ["lines", "line"] ["lines"] (defScope sIsLines) := ⟨rfl, rfl, rfl, by decide +kernel, rfl, by decide +kernel, by decide +kernel⟩
abbrev nIsLines : List Str := ["lines", "line"]
abbrev sIsInside : Stmt := top 19
theorem scIsInside : FnScope ["path", "place"] ["path", "place"] (defScope sIsInside) := ⟨rfl, rfl, rfl, by decide +kernel, rfl, by decide +kernel, by decide +kernel⟩
abbrev nIsInside : List Str := ["path", "place"]
abbrev sApart : Stmt := top 22
theorem scApart : FnScope ["paths", "path", "place"] ["paths"] (defScope sApart) := ⟨rfl, rfl, rfl, by decide +kernel, rfl, by decide +kernel, by decide +kernel⟩
abbrev nApart : List Str := ["paths", "path", "place"]
abbrev sFiles : Stmt := top 23
theorem scFiles : FnScope ["files", "path", "lines", "_"] ["files"] (defScope sFiles) := ⟨rfl, rfl, rfl, by decide +kernel, rfl, by decide +kernel, by decide +kernel⟩
abbrev nFiles : List Str := ["files", "path", "lines", "_"]
abbrev sTree : Stmt := top 24
abbrev sInit : Stmt := meth sTree 0
theorem scInit : FnScope ["self", "files", "path", "lines"] ["self", "files"] (defScope sInit) := ⟨rfl, rfl, rfl, by decide +kernel, rfl, by decide +kernel, by decide +kernel⟩
abbrev nInit : List Str := ["self", "files", "path", "lines"]
abbrev sTFiles : Stmt := meth sTree 1
theorem scTFiles : FnScope ["self", "path"] ["self"] (defScope sTFiles) := ⟨rfl, rfl, rfl, by decide +kernel, rfl, by decide +kernel, by decide +kernel⟩
abbrev nTFiles : List Str := ["self", "path"]
abbrev sTLines : Stmt := meth sTree 2
theorem scTLines : FnScope ["self", "path"] ["self", "path"] (defScope sTLines) := ⟨rfl, rfl, rfl, by decide +kernel, rfl, by decide +kernel, by decide +kernel⟩
abbrev nTLines : List Str := ["self", "path"]
abbrev sTPaths : Stmt := meth sTree 3
theorem scTPaths : FnScope ["self", "place", "path"] ["self", "place"] (defScope sTPaths) := ⟨rfl, rfl, rfl, by decide +kernel, rfl, by decide +kernel, by decide +kernel⟩
abbrev nTPaths : List Str := ["self", "place", "path"]
abbrev sTIsFolder : Stmt := meth sTree 4
theorem scTIsFolder : FnScope ["self", "place"] ["self", "place"] (defScope sTIsFolder) := ⟨rfl, rfl, rfl, by decide +kernel, rfl, by decide +kernel, by decide +kernel⟩
abbrev nTIsFolder : List Str := ["self", "place"]
abbrev sTWith : Stmt := meth sTree 5
theorem scTWith : FnScope ["self", "path", "lines", "table"] ["self", "path", "lines"] (defScope sTWith) := ⟨rfl, rfl, rfl, by decide +kernel, rfl, by decide +kernel, by decide +kernel⟩
abbrev nTWith : List Str := ["self", "path", "lines", "table"]
abbrev sTWithout : Stmt := meth sTree 6
theorem scTWithout : FnScope ["self", "path", "kept"] ["self", "path"] (defScope sTWithout) := ⟨rfl, rfl, rfl, by decide +kernel, rfl, by decide +kernel, by decide +kernel⟩
abbrev nTWithout : List Str := ["self", "path", "kept"]
abbrev sTreeOf : Stmt := top 25
theorem scTreeOf : FnScope ["table", "tree"] ["table"] (defScope sTreeOf) := ⟨rfl, rfl, rfl, by decide +kernel, rfl, by decide +kernel, by decide +kernel⟩
abbrev nTreeOf : List Str := ["table", "tree"]
abbrev s_paths_under : Stmt := top 26
theorem sc_paths_under : FnScope ["tree", "place", "own"] ["tree", "place"] (defScope s_paths_under) := ⟨rfl, rfl, rfl, by decide +kernel, rfl, by decide +kernel, by decide +kernel⟩
abbrev n_paths_under : List Str := ["tree", "place", "own"]
abbrev s_paths_above : Stmt := top 27
theorem sc_paths_above : FnScope ["tree", "path", "place"] ["tree", "path"] (defScope s_paths_above) := ⟨rfl, rfl, rfl, by decide +kernel, rfl, by decide +kernel, by decide +kernel⟩
abbrev n_paths_above : List Str := ["tree", "path", "place"]
abbrev s_is_question : Stmt := top 31
theorem sc_is_question : FnScope ["action"] ["action"] (defScope s_is_question) := ⟨rfl, rfl, rfl, by decide +kernel, rfl, by decide +kernel, by decide +kernel⟩
abbrev n_is_question : List Str := ["action"]
abbrev s_is_within : Stmt := top 32
theorem sc_is_within : FnScope ["name", "item"] ["name", "item"] (defScope s_is_within) := ⟨rfl, rfl, rfl, by decide +kernel, rfl, by decide +kernel, by decide +kernel⟩
abbrev n_is_within : List Str := ["name", "item"]
abbrev s_check_action : Stmt := top 33
theorem sc_check_action : FnScope ["action", "name", "item"] ["action"] (defScope s_check_action) := ⟨rfl, rfl, rfl, by decide +kernel, rfl, by decide +kernel, by decide +kernel⟩
abbrev n_check_action : List Str := ["action", "name", "item"]
abbrev s_places_of : Stmt := top 34
theorem sc_places_of : FnScope ["lines", "part", "many", "at"] ["lines", "part"] (defScope s_places_of) := ⟨rfl, rfl, rfl, by decide +kernel, rfl, by decide +kernel, by decide +kernel⟩
abbrev n_places_of : List Str := ["lines", "part", "many", "at"]
abbrev s_answer_read : Stmt := top 35
theorem sc_answer_read : FnScope ["tree", "path", "lines"] ["tree", "path"] (defScope s_answer_read) := ⟨rfl, rfl, rfl, by decide +kernel, rfl, by decide +kernel, by decide +kernel⟩
abbrev n_answer_read : List Str := ["tree", "path", "lines"]
abbrev s_answer_kind : Stmt := top 36
theorem sc_answer_kind : FnScope ["tree", "place"] ["tree", "place"] (defScope s_answer_kind) := ⟨rfl, rfl, rfl, by decide +kernel, rfl, by decide +kernel, by decide +kernel⟩
abbrev n_answer_kind : List Str := ["tree", "place"]
abbrev s_first_name : Stmt := top 37
theorem sc_first_name : FnScope ["path", "name", "slash", "_"] ["path"] (defScope s_first_name) := ⟨rfl, rfl, rfl, by decide +kernel, rfl, by decide +kernel, by decide +kernel⟩
abbrev n_first_name : List Str := ["path", "name", "slash", "_"]
abbrev s_answer_list : Stmt := top 38
theorem sc_answer_list : FnScope ["tree", "place", "start", "path"] ["tree", "place"] (defScope s_answer_list) := ⟨rfl, rfl, rfl, by decide +kernel, rfl, by decide +kernel, by decide +kernel⟩
abbrev n_answer_list : List Str := ["tree", "place", "start", "path"]
abbrev s_answer_find : Stmt := top 39
theorem sc_answer_find : FnScope ["tree", "place", "word", "paths", "rows", "path", "at", "line"] ["tree", "place", "word"] (defScope s_answer_find) := ⟨rfl, rfl, rfl, by decide +kernel, rfl, by decide +kernel, by decide +kernel⟩
abbrev n_answer_find : List Str := ["tree", "place", "word", "paths", "rows", "path", "at", "line"]
abbrev s_answer_count : Stmt := top 40
theorem sc_answer_count : FnScope ["tree", "place"] ["tree", "place"] (defScope s_answer_count) := ⟨rfl, rfl, rfl, by decide +kernel, rfl, by decide +kernel, by decide +kernel⟩
abbrev n_answer_count : List Str := ["tree", "place"]
abbrev s_do_write : Stmt := top 41
theorem sc_do_write : FnScope ["tree", "path", "lines"] ["tree", "path", "lines"] (defScope s_do_write) := ⟨rfl, rfl, rfl, by decide +kernel, rfl, by decide +kernel, by decide +kernel⟩
abbrev n_do_write : List Str := ["tree", "path", "lines"]
abbrev s_do_remove : Stmt := top 42
theorem sc_do_remove : FnScope ["tree", "path"] ["tree", "path"] (defScope s_do_remove) := ⟨rfl, rfl, rfl, by decide +kernel, rfl, by decide +kernel, by decide +kernel⟩
abbrev n_do_remove : List Str := ["tree", "path"]
abbrev s_do_move : Stmt := top 43
theorem sc_do_move : FnScope ["tree", "path", "target", "lines", "rest"] ["tree", "path", "target"] (defScope s_do_move) := ⟨rfl, rfl, rfl, by decide +kernel, rfl, by decide +kernel, by decide +kernel⟩
abbrev n_do_move : List Str := ["tree", "path", "target", "lines", "rest"]
abbrev s_do_splice : Stmt := top 44
theorem sc_do_splice : FnScope ["tree", "path", "old", "new", "lines", "places", "left"] ["tree", "path", "old", "new"] (defScope s_do_splice) := ⟨rfl, rfl, rfl, by decide +kernel, rfl, by decide +kernel, by decide +kernel⟩
abbrev n_do_splice : List Str := ["tree", "path", "old", "new", "lines", "places", "left"]
abbrev s_act : Stmt := top 47
theorem sc_act : FnScope ["tree", "action", "word", "items", "ask", "do"] ["tree", "action"] (defScope s_act) := ⟨rfl, rfl, rfl, by decide +kernel, rfl, by decide +kernel, by decide +kernel⟩
abbrev n_act : List Str := ["tree", "action", "word", "items", "ask", "do"]
abbrev s_feet_of : Stmt := top 49
theorem sc_feet_of : FnScope ["action", "word", "place"] ["action"] (defScope s_feet_of) := ⟨rfl, rfl, rfl, by decide +kernel, rfl, by decide +kernel, by decide +kernel⟩
abbrev n_feet_of : List Str := ["action", "word", "place"]
abbrev s_feet : Stmt := top 50
theorem sc_feet : FnScope ["journal", "action", "_", "foot"] ["journal"] (defScope s_feet) := ⟨rfl, rfl, rfl, by decide +kernel, rfl, by decide +kernel, by decide +kernel⟩
abbrev n_feet : List Str := ["journal", "action", "_", "foot"]
abbrev s_foot_answer : Stmt := top 51
theorem sc_foot_answer : FnScope ["foot", "tree", "answer", "_"] ["foot", "tree"] (defScope s_foot_answer) := ⟨rfl, rfl, rfl, by decide +kernel, rfl, by decide +kernel, by decide +kernel⟩
abbrev n_foot_answer : List Str := ["foot", "tree", "answer", "_"]
abbrev s_stand : Stmt := top 52
theorem sc_stand : FnScope ["feet", "tree", "foot"] ["feet", "tree"] (defScope s_stand) := ⟨rfl, rfl, rfl, by decide +kernel, rfl, by decide +kernel, by decide +kernel⟩
abbrev n_stand : List Str := ["feet", "tree", "foot"]
abbrev sCell : Stmt := top 54
theorem scCell : FnScope ["script", "k"] ["script", "k"] (defScope sCell) := ⟨rfl, rfl, rfl, by decide +kernel, rfl, by decide +kernel, by decide +kernel⟩
abbrev nCell : List Str := ["script", "k"]
abbrev sDigits : Stmt := top 55
theorem scDigits : FnScope ["script", "first", "last", "digits", "k", "cell", "turn", "seed"] ["script", "first", "last"] (defScope sDigits) := ⟨rfl, rfl, rfl, by decide +kernel, rfl, by decide +kernel, by decide +kernel⟩
abbrev nDigits : List Str := ["script", "first", "last", "digits", "k", "cell", "turn", "seed"]
abbrev sDraw : Stmt := top 56
theorem scDraw : FnScope ["box", "many", "at"] ["box", "many"] (defScope sDraw) := ⟨rfl, rfl, rfl, by decide +kernel, rfl, by decide +kernel, by decide +kernel⟩
abbrev nDraw : List Str := ["box", "many", "at"]
abbrev sPath : Stmt := top 57
theorem scPath : FnScope ["box", "depth", "k"] ["box"] (defScope sPath) := ⟨rfl, rfl, rfl, by decide +kernel, rfl, by decide +kernel, by decide +kernel⟩
abbrev nPath : List Str := ["box", "depth", "k"]
abbrev sLine : Stmt := top 58
theorem scLine : FnScope ["box"] ["box"] (defScope sLine) := ⟨rfl, rfl, rfl, by decide +kernel, rfl, by decide +kernel, by decide +kernel⟩
abbrev nLine : List Str := ["box"]
abbrev sLLines : Stmt := top 59
theorem scLLines : FnScope ["box", "most", "k"] ["box", "most"] (defScope sLLines) := ⟨rfl, rfl, rfl, by decide +kernel, rfl, by decide +kernel, by decide +kernel⟩
abbrev nLLines : List Str := ["box", "most", "k"]
abbrev sLInside : Stmt := top 60
theorem scLInside : FnScope ["path", "place"] ["path", "place"] (defScope sLInside) := ⟨rfl, rfl, rfl, by decide +kernel, rfl, by decide +kernel, by decide +kernel⟩
abbrev nLInside : List Str := ["path", "place"]
abbrev sBlocked : Stmt := top 61
theorem scBlocked : FnScope ["files", "path", "other"] ["files", "path"] (defScope sBlocked) := ⟨rfl, rfl, rfl, by decide +kernel, rfl, by decide +kernel, by decide +kernel⟩
abbrev nBlocked : List Str := ["files", "path", "other"]
abbrev sLFiles : Stmt := top 62
theorem scLFiles : FnScope ["box", "most", "files", "turn", "path", "lines"] ["box", "most"] (defScope sLFiles) := ⟨rfl, rfl, rfl, by decide +kernel, rfl, by decide +kernel, by decide +kernel⟩
abbrev nLFiles : List Str := ["box", "most", "files", "turn", "path", "lines"]
abbrev sRows : Stmt := top 63
theorem scRows : FnScope ["files", "path"] ["files"] (defScope sRows) := ⟨rfl, rfl, rfl, by decide +kernel, rfl, by decide +kernel, by decide +kernel⟩
abbrev nRows : List Str := ["files", "path"]
abbrev s_L_some_path : Stmt := top 64
theorem sc_L_some_path : FnScope ["box", "files", "paths"] ["box", "files"] (defScope s_L_some_path) := ⟨rfl, rfl, rfl, by decide +kernel, rfl, by decide +kernel, by decide +kernel⟩
abbrev n_L_some_path : List Str := ["box", "files", "paths"]
abbrev s_L_place : Stmt := top 65
theorem sc_L_place : FnScope ["box", "files", "path", "parts"] ["box", "files"] (defScope s_L_place) := ⟨rfl, rfl, rfl, by decide +kernel, rfl, by decide +kernel, by decide +kernel⟩
abbrev n_L_place : List Str := ["box", "files", "path", "parts"]
abbrev s_L_question : Stmt := top 66
theorem sc_L_question : FnScope ["box", "files", "word"] ["box", "files"] (defScope s_L_question) := ⟨rfl, rfl, rfl, by decide +kernel, rfl, by decide +kernel, by decide +kernel⟩
abbrev n_L_question : List Str := ["box", "files", "word"]
abbrev s_L_part : Stmt := top 67
theorem sc_L_part : FnScope ["box", "lines", "at"] ["box", "lines"] (defScope s_L_part) := ⟨rfl, rfl, rfl, by decide +kernel, rfl, by decide +kernel, by decide +kernel⟩
abbrev n_L_part : List Str := ["box", "lines", "at"]
abbrev s_L_deed : Stmt := top 68
theorem sc_L_deed : FnScope ["box", "files", "word", "path", "lines"] ["box", "files"] (defScope s_L_deed) := ⟨rfl, rfl, rfl, by decide +kernel, rfl, by decide +kernel, by decide +kernel⟩
abbrev n_L_deed : List Str := ["box", "files", "word", "path", "lines"]
abbrev s_L_action : Stmt := top 69
theorem sc_L_action : FnScope ["box", "files"] ["box", "files"] (defScope s_L_action) := ⟨rfl, rfl, rfl, by decide +kernel, rfl, by decide +kernel, by decide +kernel⟩
abbrev n_L_action : List Str := ["box", "files"]
abbrev sLIsFolder : Stmt := top 70
theorem scLIsFolder : FnScope ["files", "place", "path"] ["files", "place"] (defScope sLIsFolder) := ⟨rfl, rfl, rfl, by decide +kernel, rfl, by decide +kernel, by decide +kernel⟩
abbrev nLIsFolder : List Str := ["files", "place", "path"]
abbrev s_L_names : Stmt := top 71
theorem sc_L_names : FnScope ["files", "place", "names", "path", "rest", "parts", "name"] ["files", "place"] (defScope s_L_names) := ⟨rfl, rfl, rfl, by decide +kernel, rfl, by decide +kernel, by decide +kernel⟩
abbrev n_L_names : List Str := ["files", "place", "names", "path", "rest", "parts", "name"]
abbrev s_L_found : Stmt := top 72
theorem sc_L_found : FnScope ["files", "place", "word", "rows", "path", "k"] ["files", "place", "word"] (defScope s_L_found) := ⟨rfl, rfl, rfl, by decide +kernel, rfl, by decide +kernel, by decide +kernel⟩
abbrev n_L_found : List Str := ["files", "place", "word", "rows", "path", "k"]
abbrev s_L_asked : Stmt := top 73
theorem sc_L_asked : FnScope ["files", "action", "place", "path"] ["files", "action"] (defScope s_L_asked) := ⟨rfl, rfl, rfl, by decide +kernel, rfl, by decide +kernel, by decide +kernel⟩
abbrev n_L_asked : List Str := ["files", "action", "place", "path"]
abbrev s_L_spots : Stmt := top 74
theorem sc_L_spots : FnScope ["lines", "old", "k"] ["lines", "old"] (defScope s_L_spots) := ⟨rfl, rfl, rfl, by decide +kernel, rfl, by decide +kernel, by decide +kernel⟩
abbrev n_L_spots : List Str := ["lines", "old", "k"]
abbrev s_L_refusal : Stmt := top 75
theorem sc_L_refusal : FnScope ["files", "action", "path", "rest", "other", "spots"] ["files", "action"] (defScope s_L_refusal) := ⟨rfl, rfl, rfl, by decide +kernel, rfl, by decide +kernel, by decide +kernel⟩
abbrev n_L_refusal : List Str := ["files", "action", "path", "rest", "other", "spots"]
abbrev s_L_act : Stmt := top 76
theorem sc_L_act : FnScope ["files", "action", "refusal", "later", "path", "lines", "at"] ["files", "action"] (defScope s_L_act) := ⟨rfl, rfl, rfl, by decide +kernel, rfl, by decide +kernel, by decide +kernel⟩
abbrev n_L_act : List Str := ["files", "action", "refusal", "later", "path", "lines", "at"]
abbrev s_L_run : Stmt := top 77
theorem sc_L_run : FnScope ["files", "actions", "journal", "action", "answer"] ["files", "actions"] (defScope s_L_run) := ⟨rfl, rfl, rfl, by decide +kernel, rfl, by decide +kernel, by decide +kernel⟩
abbrev n_L_run : List Str := ["files", "actions", "journal", "action", "answer"]
abbrev s_L_first_change : Stmt := top 78
theorem sc_L_first_change : FnScope ["journal", "files", "k", "answer"] ["journal", "files"] (defScope s_L_first_change) := ⟨rfl, rfl, rfl, by decide +kernel, rfl, by decide +kernel, by decide +kernel⟩
abbrev n_L_first_change : List Str := ["journal", "files", "k", "answer"]
abbrev s_L_feet : Stmt := top 79
theorem sc_L_feet : FnScope ["journal", "rows", "action", "answer", "path", "word", "found", "row"] ["journal"] (defScope s_L_feet) := ⟨rfl, rfl, rfl, by decide +kernel, rfl, by decide +kernel, by decide +kernel⟩
abbrev n_L_feet : List Str := ["journal", "rows", "action", "answer", "path", "word", "found", "row"]
abbrev s_L_stand : Stmt := top 80
theorem sc_L_stand : FnScope ["rows", "files", "told", "foot", "path"] ["rows", "files"] (defScope s_L_stand) := ⟨rfl, rfl, rfl, by decide +kernel, rfl, by decide +kernel, by decide +kernel⟩
abbrev n_L_stand : List Str := ["rows", "files", "told", "foot", "path"]
abbrev sAlike : Stmt := top 81
theorem scAlike : FnScope ["one", "two"] ["one", "two"] (defScope sAlike) := ⟨rfl, rfl, rfl, by decide +kernel, rfl, by decide +kernel, by decide +kernel⟩
abbrev nAlike : List Str := ["one", "two"]
abbrev sLaw : Stmt := top 82
theorem scLaw : FnScope ["script", "box", "turn", "files", "journal", "k", "due", "told", "other"] ["script"] (defScope sLaw) := ⟨rfl, rfl, rfl, by decide +kernel, rfl, by decide +kernel, by decide +kernel⟩
abbrev nLaw : List Str := ["script", "box", "turn", "files", "journal", "k", "due", "told", "other"]
end KX

set_option maxRecDepth 100000
set_option maxHeartbeats 4000000
namespace KX
open PySem PySem.Spec PyProof.Rows L2 TL Ga
abbrev nsigns : List Nat := tl "abcdefghijklmnopqrstuvwxyz0123456789"
theorem q34 (c : Nat) : decide (V.str ⟨#[c]⟩ = V.str "\"") = decide (c = 34) := by
  refine decide_eq_decide.mpr ⟨fun h => ?_, fun h => by rw [h]; decide +kernel⟩
  have h2 := congrArg tl (V.str.inj h)
  have h3 : [c] = [34] := h2.trans (by decide +kernel)
  exact (List.cons.inj h3).1
theorem q37 (c : Nat) : decide (V.int (c : Int) = V.int 37) = decide (c = 37) := by
  refine decide_eq_decide.mpr ⟨fun h => ?_, fun h => by rw [h]; rfl⟩
  have h2 : (c : Int) = 37 := V.int.inj h
  omega
def isName (z : Str) : Bool := (decide (1 ≤ ((tl z).length : Int)) && decide (((tl z).length : Int) ≤ 8)) && (tl z).all fun c => decide (c ∈ nsigns)
/-- a text in, a truth out, nothing changed -/
def spStr (p : Str → Bool) : Sp := fun vs H Q _ => ∃ z : Str, vs = [.str z] ∧ (tl z).length ≤ 1000 ∧ ∀ H', Same H H' → Q (.bl (p z)) H'
theorem lenle {z : Str} (h : (tl z).length ≤ 1000) : z.length ≤ sizeLine := by rw [len_tl]; exact Nat.le_trans h (by decide)
section
variable {P : Program} {w : World} {K : PySem.W.Frag} {mg : Str → Option Value} {base : Heap}
theorem ok_is_name {f : Addr} {fd : FuncData} (F : Fun K "is_name" "is_name" sIsName f fd) (T : Tx mg) : FnOk P w K mg base CX0 1 f fd ["text"] (spStr isName) := by
  obtain ⟨t1, m1⟩ := T.c_NAME_MOST
  obtain ⟨t2, m2⟩ := T.c_NAME_SIGNS
  refine F.ok scIsName (fun vs H Q E h => ?_) (fun cdv A outer s H vs Q E hr h => ?_)
  · obtain ⟨z, rfl, _⟩ := h
    rfl
  · obtain ⟨z, rfl, hz, q⟩ := h
    refine ⟨_, pss_one (ps_ret (pe_and (pe_chain op_le op_le pe_int (pe_callB call_len_str (by rfl) T.len PySem.boot_len (pa_cons (pv 0) pa_nil)) (pe_glob (v := .int 8) rfl m1 ⟨_, rfl⟩))
      (pe_one (pe_callB (cr_all rfl) (by rfl) T.all (by decide +kernel) (pa_cons
        (pe_lc (own := [("sign", 1)]) rfl scIsName.nd (pi_str (pv 0)) (blkOk_by (N := ["text", "sign"]) (sc := defScope sIsName) (by decide +kernel))
          (fun _ _ _ _ _ => pg_name (i := 1) scIsName.nd rfl (Or.inl rfl)) (fun _ _ _ _ _ => pts_nil) (fun _ _ _ _ _ => pe_cmpR op_in_sign (pv 1) (pe_glob (v := .str "abcdefghijklmnopqrstuvwxyz0123456789") rfl m2 ⟨_, rfl⟩) (by rfl))) pa_nil))))), ?_⟩
    refine ⟨_, rfl, z, rfl, lenle hz, 1, _, rfl, rfl, _, rfl, ?_⟩
    refine ite2 (fun e => ?_) (fun e => ?_)
    · refine ⟨_, _, rfl, rfl, _, rfl, ite2 (fun e2 => ?_) (fun e2 => ?_)⟩
      · refine all_str (p := fun c => decide (c ∈ nsigns)) (by omega) rfl (fun c hc H2 R s k => ?_) fun H' s => ?_
        · exact ⟨_, rfl, c, _, rfl, rfl, k H2 (.refl _)⟩
        · have r := q H' s
          rw [isName, ← len_tl, e, e2, Bool.true_and, Bool.true_and] at r
          exact r
      · have r := q H (.refl _)
        rw [isName, ← len_tl, Bool.eq_false_iff.mpr e2, Bool.and_false, Bool.false_and] at r
        exact r
    · refine ⟨_, rfl, iteF ?_⟩
      have r := q H (.refl _)
      rw [isName, ← len_tl, Bool.eq_false_iff.mpr e, Bool.false_and, Bool.false_and] at r
      exact r
def isPath (z : Str) : Bool := decide (((Txt.split z sl).length : Int) ≤ 3) && (Txt.split z sl).all isName
def strOf : V → Str
  | .str z => z
  | _ => ""
theorem ok_is_path {f f1 : Addr} {fd fd1 : FuncData} (F : Fun K "is_path" "is_path" sIsPath f fd) (T : Tx mg) (G1 : FnOk P w K mg base CX0 1 f1 fd1 ["text"] (spStr isName))
    (g1 : mg "is_name" = some (.ref f1)) (k1 : PySem.W.keepIn K (.ref f1) = true) (b1 : Binds K fd1 ["text"] []) : FnOk P w K mg base CX0 2 f fd ["text"] (spStr isPath) := by
  obtain ⟨t1, m1⟩ := T.c_DEPTH_MOST
  refine F.ok scIsPath (fun vs H Q E h => ?_) (fun cdv A outer s H vs Q E hr h => ?_)
  · obtain ⟨z, rfl, _⟩ := h
    rfl
  · obtain ⟨z, rfl, hz, q⟩ := h
    refine ⟨_, pss_cons (ps_set (i := 1) scIsPath.nd rfl (.inl rfl) (pe_split (pv 0) pe_str))
      (pss_one (ps_ret (pe_and (pe_cmpR op_le (pe_callB call_len_seq (by rfl) T.len PySem.boot_len (pa_cons (pv 1) pa_nil)) (pe_glob (v := .int 3) rfl m1 ⟨_, rfl⟩) (nomark _))
      (pe_one (pe_callB (cr_all rfl) (by rfl) T.all (by decide +kernel) (pa_cons
        (pe_lc (own := [("name", 2)]) rfl scIsPath.nd (pi_list (pv 1)) (blkOk_by (N := ["text", "names", "name"]) (sc := defScope sIsPath) (by decide +kernel))
          (fun _ _ _ _ _ => pg_name (i := 2) scIsPath.nd rfl (Or.inl rfl)) (fun _ _ _ _ _ => pts_nil) (fun _ _ _ _ _ => pe_call G1 hr (by rfl) g1 k1 b1 .nil pass0 (pa_cons (pv 2) pa_nil))) pa_nil)))))), ?_⟩
    refine ⟨_, rfl, ⟨_, rfl⟩, z, sl, rfl, rfl, rfl, ?_, fun p np => ?_⟩
    · rw [len_tl]
      exact Nat.le_trans (Nat.add_le_add_right hz 2) (by decide)
    have s1 : Same H (upd H p (.lst ((Txt.split z sl).map V.str))) := same_upd np
    refine ⟨_, rfl, p, _, rfl, .inl (sqL upd_same), _, _, rfl, rfl, _, rfl, ?_⟩
    rw [List.length_map]
    refine ite2 (fun e => ?_) (fun e => ?_)
    · refine all_list (p := fun v => isName (strOf v)) (var_is rfl) (sqL upd_same) ?_ (fun c hc H2 R s k => ?_) fun H' s => ?_
      · rw [List.length_map]
        have := splitLen z
        omega
      · obtain ⟨y, hy, rfl⟩ := List.mem_map.mp hc
        exact ⟨_, rfl, y, rfl, Nat.le_trans (split_le hy) hz, fun H' s' => k H' s'⟩
      · have r := q H' (s1.trans s)
        rw [isPath, e, Bool.true_and] at r
        rw [List.all_map]
        exact r
    · have r := q _ s1
      rw [isPath, Bool.eq_false_iff.mpr e, Bool.false_and] at r
      exact r
def isPlace (z : Str) : Bool := decide (z = "") || isPath z
theorem ok_is_place {f f1 : Addr} {fd fd1 : FuncData} (F : Fun K "is_place" "is_place" sIsPlace f fd) (G1 : FnOk P w K mg base CX0 2 f1 fd1 ["text"] (spStr isPath))
    (g1 : mg "is_path" = some (.ref f1)) (k1 : PySem.W.keepIn K (.ref f1) = true) (b1 : Binds K fd1 ["text"] []) : FnOk P w K mg base CX0 3 f fd ["text"] (spStr isPlace) := by
  refine F.ok scIsPlace (fun vs H Q E h => ?_) (fun cdv A outer s H vs Q E hr h => ?_)
  · obtain ⟨z, rfl, _⟩ := h
    rfl
  · obtain ⟨z, rfl, hz, q⟩ := h
    refine ⟨_, pss_one (ps_ret (pe_or (pe_cmpR op_eq (pv 0) pe_str (nomark _)) (pe_one (pe_call G1 hr (by rfl) g1 k1 b1 .nil pass0 (pa_cons (pv 0) pa_nil))))), ?_⟩
    refine ⟨_, rfl, rfl, _, rfl, ?_⟩
    refine ite2 (fun e => ?_) (fun e => ?_)
    · have r := q H (.refl _)
      have e2 : z = "" := V.str.inj (of_decide_eq_true e)
      rw [isPlace, decide_eq_true e2, Bool.true_or] at r
      exact r
    · refine ⟨_, rfl, z, rfl, hz, fun H' s' => ?_⟩
      have r := q H' s'
      have e2 : ¬ z = "" := fun x => e (by rw [x]; exact decide_eq_true rfl)
      rw [isPlace, decide_eq_false e2, Bool.false_or] at r
      exact r
def signOk (c : Nat) : Bool := (!decide ([c] < [32])) && (!decide ([126] < [c])) && (!decide (c = 34) && !decide (c = 37))
/-- one sign in, a truth out -/
def spSign : Sp := fun vs H Q _ => ∃ c : Nat, vs = [.str ⟨#[c]⟩] ∧ ∀ H', Same H H' → Q (.bl (signOk c)) H'
theorem ok_sign {f : Addr} {fd : FuncData} (F : Fun K "is_line_sign" "is_line_sign" sSign f fd) (T : Tx mg) : FnOk P w K mg base CX0 1 f fd ["sign"] spSign := by
  obtain ⟨t1, m1⟩ := T.c_PERCENT
  refine F.ok scSign (fun vs H Q E h => ?_) (fun cdv A outer s H vs Q E hr h => ?_)
  · obtain ⟨z, rfl, _⟩ := h
    rfl
  · obtain ⟨c, rfl, q⟩ := h
    have r := q H (.refl _)
    refine ⟨_, pss_one (ps_ret (pe_and (pe_chain op_le_str op_le_str pe_str (pv 0) pe_str) (pe_and (pe_cmpR op_ne (pv 0) pe_str (nomark _))
      (pe_one (pe_cmpR op_ne (pe_callB call_ord (by rfl) T.ord (by decide +kernel) (pa_cons (pv 0) pa_nil)) (pe_glob (v := .int 37) rfl m1 ⟨_, rfl⟩) (nomark _)))))), ?_⟩
    refine ⟨_, rfl, _, _, rfl, rfl, _, rfl, ?_⟩
    refine ite2 (fun e => ?_) (fun e => ?_)
    · refine ⟨_, _, rfl, rfl, _, rfl, ite2 (fun e2 => ?_) (fun e2 => ?_)⟩
      · refine ⟨_, rfl, rfl, _, rfl, ite2 (fun e3 => ?_) (fun e3 => ?_)⟩
        · refine ⟨_, rfl, _, rfl, rfl, rfl, ?_⟩
          have e' : (!decide ([c] < [32])) = true := e
          have e2' : (!decide ([126] < [c])) = true := e2
          rw [q34] at e3
          rw [signOk, e', e2', e3, Bool.true_and, Bool.true_and, Bool.true_and, ← q37] at r
          exact r
        · have e' : (!decide ([c] < [32])) = true := e
          have e2' : (!decide ([126] < [c])) = true := e2
          rw [q34] at e3
          rw [signOk, e', e2', Bool.eq_false_iff.mpr e3, Bool.true_and, Bool.true_and, Bool.false_and] at r
          exact r
      · have e2' : (!decide ([126] < [c])) = false := Bool.eq_false_iff.mpr e2
        rw [signOk, e2', Bool.and_false, Bool.false_and] at r
        exact r
    · refine ⟨_, rfl, iteF ?_⟩
      have e' : (!decide ([c] < [32])) = false := Bool.eq_false_iff.mpr e
      rw [signOk, e', Bool.false_and, Bool.false_and] at r
      exact r
def isLine (z : Str) : Bool := decide (((tl z).length : Int) ≤ 20) && (tl z).all signOk
theorem ok_is_line {f f1 : Addr} {fd fd1 : FuncData} (F : Fun K "is_line" "is_line" sIsLine f fd) (T : Tx mg) (G1 : FnOk P w K mg base CX0 1 f1 fd1 ["sign"] spSign)
    (g1 : mg "is_line_sign" = some (.ref f1)) (k1 : PySem.W.keepIn K (.ref f1) = true) (b1 : Binds K fd1 ["sign"] []) : FnOk P w K mg base CX0 2 f fd ["text"] (spStr isLine) := by
  obtain ⟨t1, m1⟩ := T.c_LINE_MOST
  refine F.ok scIsLine (fun vs H Q E h => ?_) (fun cdv A outer s H vs Q E hr h => ?_)
  · obtain ⟨z, rfl, _⟩ := h
    rfl
  · obtain ⟨z, rfl, hz, q⟩ := h
    refine ⟨_, pss_one (ps_ret (pe_and (pe_cmpR op_le (pe_callB call_len_str (by rfl) T.len PySem.boot_len (pa_cons (pv 0) pa_nil)) (pe_glob (v := .int 20) rfl m1 ⟨_, rfl⟩) (nomark _))
      (pe_one (pe_callB (cr_all rfl) (by rfl) T.all (by decide +kernel) (pa_cons
        (pe_lc (own := [("sign", 1)]) rfl scIsLine.nd (pi_str (pv 0)) (blkOk_by (N := ["text", "sign"]) (sc := defScope sIsLine) (by decide +kernel))
          (fun _ _ _ _ _ => pg_name (i := 1) scIsLine.nd rfl (Or.inl rfl)) (fun _ _ _ _ _ => pts_nil) (fun _ _ _ _ _ => pe_call G1 hr (by rfl) g1 k1 b1 .nil pass0 (pa_cons (pv 1) pa_nil))) pa_nil))))), ?_⟩
    refine ⟨_, rfl, z, rfl, lenle hz, _, _, rfl, rfl, _, rfl, ?_⟩
    refine ite2 (fun e => ?_) (fun e => ?_)
    · refine all_str (p := signOk) (by omega) rfl (fun c hc H2 R s k => ?_) fun H' s => ?_
      · exact ⟨_, rfl, c, rfl, fun H' s' => k H' s'⟩
      · have r := q H' s
        rw [isLine, ← len_tl, e, Bool.true_and] at r
        exact r
    · have r := q H (.refl _)
      rw [isLine, ← len_tl, Bool.eq_false_iff.mpr e, Bool.false_and] at r
      exact r
def isWord (z : Str) : Bool := (decide (1 ≤ ((tl z).length : Int)) && decide (((tl z).length : Int) ≤ 12)) && (tl z).all signOk
theorem ok_is_word {f f1 : Addr} {fd fd1 : FuncData} (F : Fun K "is_word" "is_word" sIsWord f fd) (T : Tx mg) (G1 : FnOk P w K mg base CX0 1 f1 fd1 ["sign"] spSign)
    (g1 : mg "is_line_sign" = some (.ref f1)) (k1 : PySem.W.keepIn K (.ref f1) = true) (b1 : Binds K fd1 ["sign"] []) : FnOk P w K mg base CX0 2 f fd ["text"] (spStr isWord) := by
  obtain ⟨t1, m1⟩ := T.c_WORD_MOST
  refine F.ok scIsWord (fun vs H Q E h => ?_) (fun cdv A outer s H vs Q E hr h => ?_)
  · obtain ⟨z, rfl, _⟩ := h
    rfl
  · obtain ⟨z, rfl, hz, q⟩ := h
    refine ⟨_, pss_one (ps_ret (pe_and (pe_chain op_le op_le pe_int (pe_callB call_len_str (by rfl) T.len PySem.boot_len (pa_cons (pv 0) pa_nil)) (pe_glob (v := .int 12) rfl m1 ⟨_, rfl⟩))
      (pe_one (pe_callB (cr_all rfl) (by rfl) T.all (by decide +kernel) (pa_cons
        (pe_lc (own := [("sign", 1)]) rfl scIsWord.nd (pi_str (pv 0)) (blkOk_by (N := ["text", "sign"]) (sc := defScope sIsWord) (by decide +kernel))
          (fun _ _ _ _ _ => pg_name (i := 1) scIsWord.nd rfl (Or.inl rfl)) (fun _ _ _ _ _ => pts_nil) (fun _ _ _ _ _ => pe_call G1 hr (by rfl) g1 k1 b1 .nil pass0 (pa_cons (pv 1) pa_nil))) pa_nil))))), ?_⟩
    refine ⟨_, rfl, z, rfl, lenle hz, 1, _, rfl, rfl, _, rfl, ?_⟩
    refine ite2 (fun e => ?_) (fun e => ?_)
    · refine ⟨_, _, rfl, rfl, _, rfl, ite2 (fun e2 => ?_) (fun e2 => ?_)⟩
      · refine all_str (p := signOk) (by omega) rfl (fun c hc H2 R s k => ?_) fun H' s => ?_
        · exact ⟨_, rfl, c, rfl, fun H' s' => k H' s'⟩
        · have r := q H' s
          rw [isWord, ← len_tl, e, e2, Bool.true_and, Bool.true_and] at r
          exact r
      · have r := q H (.refl _)
        rw [isWord, ← len_tl, Bool.eq_false_iff.mpr e2, Bool.and_false, Bool.false_and] at r
        exact r
    · refine ⟨_, rfl, iteF ?_⟩
      have r := q H (.refl _)
      rw [isWord, ← len_tl, Bool.eq_false_iff.mpr e, Bool.false_and, Bool.false_and] at r
      exact r
/-- rows of texts in a tuple -/
def isLines (l : List Str) : Bool := decide ((l.length : Int) ≤ 12) && l.all isLine
def spLines (K : PySem.W.Frag) : Sp := fun vs H Q _ => ∃ (a : Addr) (l : List Str), vs = [.ref a] ∧ SqT K H a (l.map V.str) ∧ l.length ≤ 1000 ∧ (∀ z ∈ l, (tl z).length ≤ 1000) ∧
  ∀ H', Same H H' → Q (.bl (isLines l)) H'
theorem ok_is_lines {f f1 : Addr} {fd fd1 : FuncData} (F : Fun K "is_lines" "is_lines" sIsLines f fd) (T : Tx mg) (G1 : FnOk P w K mg base CX0 2 f1 fd1 ["text"] (spStr isLine))
    (g1 : mg "is_line" = some (.ref f1)) (k1 : PySem.W.keepIn K (.ref f1) = true) (b1 : Binds K fd1 ["text"] []) : FnOk P w K mg base CX0 3 f fd ["lines"] (spLines K) := by
  obtain ⟨t1, m1⟩ := T.c_LINES_MOST
  refine F.ok scIsLines (fun vs H Q E h => ?_) (fun cdv A outer s H vs Q E hr h => ?_)
  · obtain ⟨a, z, rfl, _⟩ := h
    rfl
  · obtain ⟨a, l, rfl, hT, hl, hz, q⟩ := h
    refine ⟨_, pss_one (ps_ret (pe_and (pe_cmpR op_le (pe_callB call_len_seq (by rfl) T.len PySem.boot_len (pa_cons (pv 0) pa_nil)) (pe_glob (v := .int 12) rfl m1 ⟨_, rfl⟩) (nomark _))
      (pe_one (pe_callB (cr_all rfl) (by rfl) T.all (by decide +kernel) (pa_cons
        (pe_lc (own := [("line", 1)]) rfl scIsLines.nd (pi_tup (pv 0)) (blkOk_by (N := ["lines", "line"]) (sc := defScope sIsLines) (by decide +kernel))
          (fun _ _ _ _ _ => pg_name (i := 1) scIsLines.nd rfl (Or.inl rfl)) (fun _ _ _ _ _ => pts_nil) (fun _ _ _ _ _ => pe_call G1 hr (by rfl) g1 k1 b1 .nil pass0 (pa_cons (pv 1) pa_nil))) pa_nil))))), ?_⟩
    refine ⟨_, rfl, a, _, rfl, .inr hT, _, _, rfl, rfl, _, rfl, ?_⟩
    rw [List.length_map]
    refine ite2 (fun e => ?_) (fun e => ?_)
    · refine all_tup (p := fun v => isLine (strOf v)) (var_is rfl) hT (by rw [List.length_map]; omega) (fun c hc H2 R s k => ?_) fun H' s => ?_
      · obtain ⟨y, hy, rfl⟩ := List.mem_map.mp hc
        exact ⟨_, rfl, y, rfl, hz y hy, fun H' s' => k H' s'⟩
      · have r := q H' s
        rw [isLines, e, Bool.true_and] at r
        rw [List.all_map]
        exact r
    · have r := q H (.refl _)
      rw [isLines, Bool.eq_false_iff.mpr e, Bool.false_and] at r
      exact r
def spInside : Sp := fun vs H Q _ => ∃ x y : Str, vs = [.str x, .str y] ∧ (tl x).length ≤ 1000 ∧ (tl y).length ≤ 1000 ∧ ∀ H', Same H H' → Q (.bl (inside x y)) H'
theorem str_eq (x y : Str) : decide (V.str x = V.str y) = decide (x = y) := decide_eq_decide.mpr ⟨fun h => V.str.inj h, fun h => by rw [h]⟩
theorem ok_is_inside {f : Addr} {fd : FuncData} (F : Fun K "is_inside" "is_inside" sIsInside f fd) : FnOk P w K mg base CX0 1 f fd ["path", "place"] spInside := by
  refine F.ok scIsInside (fun vs H Q E h => ?_) (fun cdv A outer s H vs Q E hr h => ?_)
  · obtain ⟨a, z, rfl, _⟩ := h
    rfl
  · obtain ⟨x, y, rfl, hx, hy, q⟩ := h
    have r := q H (.refl _)
    refine ⟨_, pss_one (ps_ret (pe_or (pe_cmpR op_eq (pv 1) pe_str (nomark _)) (pe_one (pe_m1 PySem.F.slot_str_startswith PySem.F.type_str_startswith mt_startswith (pv 0) (pe_op op_add_str (pv 1) pe_str))))), ?_⟩
    refine ⟨_, rfl, rfl, _, rfl, ?_⟩
    rw [str_eq]
    refine ite2 (fun e => ?_) (fun e => ?_)
    · rw [inside, e, Bool.true_or] at r
      exact r
    · refine ⟨_, rfl, ⟨_, rfl⟩, _, rfl, _, _, rfl, rfl, ?_, x, _, rfl, rfl, ?_⟩
      · show y.length + 1 ≤ _
        rw [len_tl]
        exact Nat.le_trans (Nat.add_le_add_right hy 1) (by decide)
      · rw [inside, Bool.eq_false_iff.mpr e, Bool.false_or, ← inside_starts] at r
        exact r
end
/-- an int out of the script -/
def spCell (K : PySem.W.Frag) : Sp := fun vs H Q _ => ∃ (a : Addr) (ns : List Int) (k : Int), vs = [.ref a, .int k] ∧ SqL K H a (ns.map V.int) ∧ 0 ≤ k ∧ ∀ z : Int, Q (.int z) H
/-- a new list of ints -/
def spDigits (K : PySem.W.Frag) : Sp := fun vs H Q _ => ∃ (a : Addr) (ns : List Int) (u v : Int), vs = [.ref a, .int u, .int v] ∧ SqL K H a (ns.map V.int) ∧ 0 ≤ u ∧ u ≤ 1000 ∧ 0 ≤ v ∧ v ≤ 1000 ∧
  ∀ (p : Addr) (H' : Hp) (ds : List Int), Same H H' → H p = none → H' p = some (.lst (ds.map V.int)) → Q (.ref p) H'
section
variable {P : Program} {w : World} {K : PySem.W.Frag} {mg : Str → Option Value} {base : Heap}
theorem ok_cell {f : Addr} {fd : FuncData} (F : Fun K "_law_cell" "_law_cell" sCell f fd) (T : Tx mg) : FnOk P w K mg base CX0 1 f fd ["script", "k"] (spCell K) := by
  refine F.ok scCell (fun vs H Q E h => ?_) (fun cdv A outer s H vs Q E hr h => ?_)
  · obtain ⟨a, z, k, rfl, _⟩ := h
    rfl
  · obtain ⟨a, ns, k, rfl, hS, hk, q⟩ := h
    refine ⟨_, pss_cons (ps_if (pt_cmpR op_lt (pv 1) (pe_callB call_len_seq (by rfl) T.len PySem.boot_len (pa_cons (pv 0) pa_nil)) (nomark _)) (pss_one (ps_ret (pe_ix ix_list (pv 0) (pv 1) (fun _ _ => rfl)))) pss_nil)
      (pss_one (ps_ret pe_int)), ?_⟩
    refine ⟨_, rfl, _, rfl, a, _, rfl, .inl hS, _, _, rfl, rfl, _, rfl, ite2 (fun e => ?_) (fun e => ?_)⟩
    · have e1 : k < ((ns.map V.int).length : Int) := of_decide_eq_true e
      rw [List.length_map] at e1
      have h1 : k.toNat < ns.length := by omega
      refine ⟨_, rfl, _, rfl, a, _, _, .int ns[k.toNat], rfl, rfl, hS, ?_, q _⟩
      exact at_of (j := k.toNat) (by omega) (by rw [List.getElem?_map, List.getElem?_eq_getElem h1]; rfl)
    · exact q 0
theorem ok_draw {f : Addr} {fd : FuncData} (F : Fun K "_law_draw" "_law_draw" sDraw f fd) (T : Tx mg) : FnOk P w K mg base CX0 1 f fd ["box", "many"] spDraw := by
  refine F.ok scDraw (fun vs H Q E h => ?_) (fun cdv A outer s H vs Q E hr h => ?_)
  · obtain ⟨B, D, m, rfl, _⟩ := h
    rfl
  · obtain ⟨B, D, m, rfl, hm, bx, q⟩ := h
    obtain ⟨ds, i, hB, hi, hne, hD⟩ := bx.ex
    have ix0 : ∀ {X : Cx}, IxR X (rIxL X.K) := ix_list
    refine ⟨_, pss_cons (ps_set (i := 2) scDraw.nd rfl (.inl rfl) (pe_ix ix_list (pv 0) pe_int (fun _ _ => rfl)))
      (pss_cons (ps_asg (pe_op op_add (pv 2) pe_int) (pg_sub (pv 0) pe_int set_list))
      (pss_cons (ps_if (pt_cmpR op_lt (pv 2) (pe_callB call_len_seq (by rfl) T.len PySem.boot_len (pa_cons (pe_ix ix_list (pv 0) pe_int (fun _ _ => rfl)) pa_nil)) (nomark _))
          (pss_one (ps_ret (pe_op op_mod (pe_callTy call_int1 (by rfl) T.int (by decide +kernel) (pa_cons (pe_ix ix_list (pe_ix ix_list (pv 0) pe_int (fun _ _ => rfl)) (pv 2) (fun _ _ => rfl)) pa_nil)) (pv 1)))) pss_nil)
      (pss_one (ps_ret (pe_op op_mod (pe_callTy call_int1 (by rfl) T.int (by decide +kernel) (pa_cons (pe_op op_add (pe_op op_mul (pv 2) pe_int) pe_int) pa_nil)) (pv 1)))))), ?_⟩
    refine ⟨_, rfl, _, _, _, _, rfl, rfl, sqL hB, atI_nat (j := 1) rfl, _, rfl, _, _, rfl, rfl, _, rfl, B, _, _, 1, rfl, rfl, hB, rfl, ?_⟩
    have hB2 : (upd H B (.lst [.ref D, .int (i + 1)])) B = some (.lst [.ref D, .int (i + 1)]) := upd_same
    have hD2 : (upd H B (.lst [.ref D, .int (i + 1)])) D = some (.lst (ds.map V.int)) := by rw [upd_ne hne]; exact hD
    have kp : Kp B H (upd H B (.lst [.ref D, .int (i + 1)])) := fun b o n e => by rw [upd_ne n]; exact e
    have bx2 : Box (upd H B (.lst [.ref D, .int (i + 1)])) B D := ⟨ds, i + 1, hB2, by omega, hne, hD2⟩
    refine ⟨_, rfl, _, rfl, _, _, _, _, rfl, rfl, sqL hB2, atI_nat (j := 0) rfl, D, _, rfl, .inl (sqL hD2), _, _, rfl, rfl, _, rfl, ite2 (fun e => ?_) (fun e => ?_)⟩
    · have e1 : i < ((ds.map V.int).length : Int) := of_decide_eq_true e
      rw [List.length_map] at e1
      have h1 : i.toNat < ds.length := by omega
      refine ⟨_, rfl, _, _, _, _, rfl, rfl, sqL hB2, atI_nat (j := 0) rfl, _, rfl, D, _, _, .int ds[i.toNat], rfl, rfl, sqL hD2, at_of (j := i.toNat) (by omega) (by rw [List.getElem?_map, List.getElem?_eq_getElem h1]; rfl), .inl ⟨_, rfl, ?_⟩⟩
      exact ⟨_, rfl, _, _, rfl, rfl, hm, q _ _ (Int.emod_nonneg _ (by omega)) (Int.emod_lt_of_pos _ hm) kp bx2⟩
    · refine ⟨_, rfl, _, _, rfl, rfl, .inr ⟨by decide, by decide⟩, _, _, rfl, rfl, .inl ⟨_, rfl, ?_⟩⟩
      exact ⟨_, rfl, _, _, rfl, rfl, hm, q _ _ (Int.emod_nonneg _ (by omega)) (Int.emod_lt_of_pos _ hm) kp bx2⟩
theorem ok_digits {f f1 : Addr} {fd fd1 : FuncData} (F : Fun K "_law_digits" "_law_digits" sDigits f fd) (T : Tx mg) (G1 : FnOk P w K mg base CX0 1 f1 fd1 ["script", "k"] (spCell K))
    (g1 : mg "_law_cell" = some (.ref f1)) (k1 : PySem.W.keepIn K (.ref f1) = true) (b1 : Binds K fd1 ["script", "k"] []) : FnOk P w K mg base CX0 2 f fd ["script", "first", "last"] (spDigits K) := by
  refine F.ok scDigits (fun vs H Q E h => ?_) (fun cdv A outer s H vs Q E hr h => ?_)
  · obtain ⟨a, z, u, v, rfl, _⟩ := h
    rfl
  · obtain ⟨a, ns, u, v, rfl, hS, hu, hu2, hv, hv2, q⟩ := h
    refine ⟨_, pss_cons (ps_set (i := 3) scDigits.nd rfl (.inl rfl) (pe_lst pa_nil))
      (pss_cons (ps_for PassesOwn.never rfl (pi_range2 (by rfl) T.range (pa_cons (pv 1) (pa_cons (pv 2) pa_nil))) (pg_name (i := 4) scDigits.nd rfl (Or.inl rfl))
        (pss_cons (ps_set (i := 5) scDigits.nd rfl (.inl rfl) (pe_call G1 hr (by rfl) g1 k1 b1 .nil pass0 (pa_cons (pv 0) (pa_cons (pv 4) pa_nil))))
        (pss_cons (ps_if (pt_cmpR op_lt (pv 5) pe_int (nomark _)) (pss_one (ps_set (i := 5) scDigits.nd rfl (.inl rfl) (pe_op op_sub pe_int (pe_op op_mul pe_int (pv 5))))) pss_nil)
        (pss_one (ps_if (pt_cmpR op_ge (pv 5) pe_int (nomark _))
          (pss_one (ps_for PassesOwn.never rfl (pi_range1 (by rfl) T.range (pa_cons pe_int pa_nil)) (pg_name (i := 6) scDigits.nd rfl (Or.inl rfl))
            (pss_one (ps_if (pt_cmpR op_gt (pv 5) pe_int (nomark _))
              (pss_cons (ps_expr (pe_bm PySem.F.plainAttrs_list PySem.F.slot_list_append PySem.F.type_list_append mt_append (pv 3) (pa_cons (pe_op op_mod (pe_callTy call_int1 (by rfl) T.int (by decide +kernel) (pa_cons (pv 5) pa_nil)) pe_int) pa_nil)))
              (pss_one (ps_set (i := 5) scDigits.nd rfl (.inl rfl) (pe_op op_fdiv (pv 5) pe_int)))) pss_nil))))
          (pss_cons (ps_set (i := 7) scDigits.nd rfl (.inl rfl) (pe_op op_mod (pe_callTy call_int1 (by rfl) T.int (by decide +kernel) (pa_cons (pe_op op_add (pe_op op_add (pe_op op_mul (pv 5) pe_int) (pe_op op_mul (pv 4) pe_int)) pe_int) pa_nil)) pe_int))
          (pss_one (ps_for PassesOwn.never rfl (pi_range1 (by rfl) T.range (pa_cons pe_int pa_nil)) (pg_name (i := 6) scDigits.nd rfl (Or.inl rfl))
            (pss_cons (ps_set (i := 7) scDigits.nd rfl (.inl rfl) (pe_op op_mod (pe_callTy call_int1 (by rfl) T.int (by decide +kernel) (pa_cons (pe_op op_add (pe_op op_add (pe_op op_mul (pv 7) pe_int) (pe_op op_mul pe_int (pv 6))) pe_int) pa_nil)) pe_int))
            (pss_one (ps_expr (pe_bm PySem.F.plainAttrs_list PySem.F.slot_list_append PySem.F.type_list_append mt_append (pv 3) (pa_cons (pe_op op_mod (pe_callTy call_int1 (by rfl) T.int (by decide +kernel) (pa_cons (pe_op op_fdiv (pv 7) pe_int) pa_nil)) pe_int) pa_nil)))))))))))))
      (pss_one (ps_ret (pv 3)))), ?_⟩
    refine ⟨Nat.zero_le _, fun p np => ?_⟩
    have hpow : (2 : Int) ^ 62 = 4611686018427387904 := by decide
    refine ⟨_, rfl, _, rfl, u, v, rfl, ⟨by omega, by omega, by omega, by omega⟩, ?_⟩
    refine for_range (lo := u) (n := (v - u).toNat) (fun i σ H' => ∃ (k' c' t' s' : Option V) (ds : List Int), σ = [some (.ref a), some (.int u), some (.int v), some (.ref p), k', c', t', s'] ∧ Same H H' ∧
      H' p = some (.lst (ds.map V.int)) ∧ ds.length ≤ 60 * i) ⟨none, none, none, none, [], rfl, same_upd np, upd_same, by simp⟩ ?_ ?_
    · rintro i σ H1 hi ⟨k', c', t', s', ds, rfl, s1, hp, hl⟩
      have hi2 : i < 1000 := by omega
      refine ⟨_, rfl, _, rfl, a, ns, _, rfl, s1.seq hS, by omega, fun z0 => ?_⟩
      refine ⟨_, rfl, _, _, rfl, rfl, _, rfl, ite2 (fun e0 => ⟨_, rfl, _, _, rfl, rfl, .inl ⟨by decide, by decide⟩, _, _, rfl, rfl, ?_⟩) (fun e0 => ?_)⟩
      all_goals
        refine ⟨_, rfl, _, _, rfl, rfl, _, rfl, ite2 (fun e1 => ?_) (fun e1 => ?_)⟩
        · refine ⟨60, rfl, by decide, by decide, for_range (lo := 0) (n := 60) (fun j σ H' => ∃ (c' : Int) (t' : Option V) (ds : List Int), σ = [some (.ref a), some (.int u), some (.int v), some (.ref p), some (.int (u + i)), some (.int c'), t', s'] ∧ Same H H' ∧
            H' p = some (.lst (ds.map V.int)) ∧ ds.length ≤ 60 * i + j) ⟨_, _, ds, rfl, s1, hp, by omega⟩ ?_ ?_⟩
          · rintro j σ H2 hj ⟨c2, t2, ds2, rfl, s2, hp2, hl2⟩
            refine ⟨_, rfl, _, _, rfl, rfl, _, rfl, ite2 (fun _ => ?_) (fun _ => ?_)⟩
            · refine ⟨_, rfl, .inl ⟨rfl, _, sqL hp2⟩, _, rfl, .inl ⟨_, rfl, _, _, rfl, rfl, (by show (0 : Int) < 1000; decide), p, _, _, rfl, rfl, hp2, ?_, ?_⟩⟩
              · rw [List.length_map]
                exact Nat.lt_of_le_of_lt (show _ ≤ 100000 by omega) (by decide)
              · refine ⟨_, rfl, _, _, rfl, rfl, ⟨by decide, by decide⟩, ?_⟩
                exact ⟨_, _, ds2 ++ [_], rfl, s2.mut np, by rw [upd_same, List.map_append]; rfl, by rw [List.length_append]; show ds2.length + 1 ≤ _; omega⟩
            · exact ⟨c2, _, ds2, rfl, s2, hp2, by omega⟩
          · rintro σ H2 ⟨c2, t2, ds2, rfl, s2, hp2, hl2⟩
            exact ⟨_, _, _, _, ds2, rfl, s2, hp2, by omega⟩
        · refine ⟨_, rfl, _, _, rfl, rfl, .inr ⟨by decide, by decide⟩, _, rfl, _, _, rfl, rfl, .inr ⟨by decide, by decide⟩, _, _, rfl, rfl, _, _, rfl, rfl, .inl ⟨_, rfl, _, _, rfl, rfl, (by show (0 : Int) < 2147483399; decide), ?_⟩⟩
          refine ⟨12, rfl, by decide, by decide, for_range (lo := 0) (n := 12) (fun j σ H' => ∃ (c' : Int) (t' : Option V) (w : Int) (ds : List Int), σ = [some (.ref a), some (.int u), some (.int v), some (.ref p), some (.int (u + i)), some (.int c'), t', some (.int w)] ∧ Same H H' ∧
            H' p = some (.lst (ds.map V.int)) ∧ ds.length ≤ 60 * i + j) ⟨_, _, _, ds, rfl, s1, hp, by omega⟩ ?_ ?_⟩
          · rintro j σ H2 hj ⟨c2, t2, w2, ds2, rfl, s2, hp2, hl2⟩
            refine ⟨_, rfl, _, _, rfl, rfl, .inr ⟨by decide, by decide⟩, _, rfl, _, _, rfl, rfl, .inl ⟨by decide, by decide⟩, _, _, rfl, rfl, _, _, rfl, rfl, .inl ⟨_, rfl, _, _, rfl, rfl, (by show (0 : Int) < 2147483563; decide), ?_⟩⟩
            refine ⟨_, rfl, .inl ⟨rfl, _, sqL hp2⟩, _, rfl, _, _, rfl, rfl, ⟨by decide, by decide⟩, .inl ⟨_, rfl, _, _, rfl, rfl, (by show (0 : Int) < 1000; decide), p, _, _, rfl, rfl, hp2, ?_, ?_⟩⟩
            · rw [List.length_map]
              exact Nat.lt_of_le_of_lt (show _ ≤ 100000 by omega) (by decide)
            · exact ⟨_, _, _, ds2 ++ [_], rfl, s2.mut np, by rw [upd_same, List.map_append]; rfl, by rw [List.length_append]; show ds2.length + 1 ≤ _; omega⟩
          · rintro σ H2 ⟨c2, t2, w2, ds2, rfl, s2, hp2, hl2⟩
            exact ⟨_, _, _, _, ds2, rfl, s2, hp2, by omega⟩
    · rintro σ H1 ⟨k', c', t', s', ds, rfl, s1, hp, hl⟩
      exact ⟨_, rfl, q p H1 ds s1 np hp⟩
end
/-- two values that are the same datum -/
def spAlike (K : PySem.W.Frag) : Sp := fun vs H Q _ => ∃ (x y : V) (d : PyData), vs = [x, y] ∧ Dp K H x d ∧ Dp K H y d ∧ d.showable = true ∧ d.hasDict = false ∧ d.depth ≤ 40 ∧ d.shown.length ≤ sizeLine ∧ Q (.bl true) H
section
variable {P : Program} {w : World} {K : PySem.W.Frag} {mg : Str → Option Value} {base : Heap}
theorem ok_alike {f : Addr} {fd : FuncData} (F : Fun K "_law_alike" "_law_alike" sAlike f fd) (T : Tx mg) : FnG P w K mg base CX0 1 f fd ["one", "two"] (spAlike K) := by
  refine okG F scAlike (fun vs H Q E h => ?_) (fun cdv A hg outer s H vs Q E hr h => ?_)
  · obtain ⟨x, y, d, rfl, _⟩ := h
    rfl
  · obtain ⟨x, y, d, rfl, dx, dy, h1, h2, h3, h4, q⟩ := h
    refine ⟨_, pss_one (ps_ret (pe_cmpR op_eq (pe_callB (call_reprD hg hr.units) (by rfl) T.repr (by decide +kernel) (pa_cons (pv 0) pa_nil))
      (pe_callB (call_reprD hg hr.units) (by rfl) T.repr (by decide +kernel) (pa_cons (pv 1) pa_nil)) (nomark _))), ?_⟩
    refine ⟨_, rfl, x, d, rfl, dx, h1, h2, h3, h4, _, rfl, y, d, rfl, dy, h1, h2, h3, h4, rfl, ?_⟩
    rw [decide_eq_true rfl]
    exact q
end
/-- signs that a text of the law may have -/
def okc (c : Nat) : Bool := decide (32 ≤ c) && (decide (c ≤ 126) && !decide (c = 37))
def okText (n : Nat) (z : Str) : Prop := (tl z).length ≤ n ∧ (tl z).all okc = true
instance (n : Nat) (z : Str) : Decidable (okText n z) := inferInstanceAs (Decidable (_ ∧ _))
theorem okText.mono {m n : Nat} {z : Str} (h : okText m z) (l : m ≤ n) : okText n z := ⟨Nat.le_trans h.1 l, h.2⟩
theorem okText.app {m n : Nat} {x y : Str} (h : okText m x) (g : okText n y) : okText (m + n) (x ++ y) := by
  refine ⟨?_, ?_⟩
  · rw [tl_append, List.length_append]
    exact Nat.add_le_add h.1 g.1
  · rw [tl_append, List.all_append, h.2, g.2]
    rfl
theorem okText.len {n : Nat} {z : Str} (h : okText n z) (l : n ≤ 100000) : z.length ≤ sizeLine := by
  rw [len_tl]
  exact Nat.le_trans (Nat.le_trans h.1 l) (by decide)
/-- all of these values are texts of at most n signs that may be -/
def menu (n : Nat) (vs : List V) : Bool := vs.all fun v => match v with
  | .str z => decide (okText n z)
  | _ => false
theorem menu_mem {n : Nat} {vs : List V} (h : menu n vs = true) {v : V} (hv : v ∈ vs) : ∃ z, v = .str z ∧ okText n z := by
  have := List.all_eq_true.mp h v hv
  cases v with
  | str z => exact ⟨z, rfl, of_decide_eq_true this⟩
  | _ => cases this
/-- a line of the law -/
def rows (vs : List V) : Bool := vs.all fun v => match v with
  | .str z => decide (okText 20 z) && isLine z
  | _ => false
theorem rows_mem {vs : List V} (h : rows vs = true) {v : V} (hv : v ∈ vs) : ∃ z, v = .str z ∧ okText 20 z ∧ isLine z = true := by
  have := List.all_eq_true.mp h v hv
  cases v with
  | str z =>
    have h2 := Bool.and_eq_true_iff.mp this
    exact ⟨z, rfl, of_decide_eq_true h2.1, h2.2⟩
  | _ => cases this
def spLine : Sp := spBox fun _ v _ => ∃ z, v = .str z ∧ okText 20 z ∧ isLine z = true
section
variable {P : Program} {w : World} {K : PySem.W.Frag} {mg : Str → Option Value} {base : Heap} {fD : Addr} {fdD : FuncData}
theorem ok_line {f : Addr} {fd : FuncData} (F : Fun K "_law_line" "_law_line" sLine f fd) (GD : FnOk P w K mg base CX0 1 fD fdD ["box", "many"] spDraw)
    (gD : mg "_law_draw" = some (.ref fD)) (kD : PySem.W.keepIn K (.ref fD) = true) (bD : Binds K fdD ["box", "many"] []) : FnOk P w K mg base CX0 2 f fd ["box"] spLine := by
  refine F.ok scLine (fun vs H Q E h => ?_) (fun cdv A outer s H vs Q E hr h => ?_)
  · obtain ⟨B, D, rfl, _⟩ := h
    rfl
  · obtain ⟨B, D, rfl, bx, q⟩ := h
    refine ⟨_, pss_one (ps_ret (pe_ix ix_list (pe_lst (pa_consts rfl)) (pe_call GD hr (by rfl) gD kD bD .nil pass0 (pa_cons (pv 0) (pa_cons pe_int pa_nil))) (fun _ _ => rfl))), ?_⟩
    refine pick (B := B) (D := D) (by rfl) (by decide) (by decide) rfl bx fun v hv H' kp b => ?_
    exact q v H' (rows_mem (by decide +kernel) hv) kp b
theorem ok_linside {f : Addr} {fd : FuncData} (F : Fun K "_law_inside" "_law_inside" sLInside f fd) (T : Tx mg) : FnOk P w K mg base CX0 1 f fd ["path", "place"] spInside := by
  refine F.ok scLInside (fun vs H Q E h => ?_) (fun cdv A outer s H vs Q E hr h => ?_)
  · obtain ⟨a, z, rfl, _⟩ := h
    rfl
  · obtain ⟨x, y, rfl, hx, hy, q⟩ := h
    have r := q H (.refl _)
    refine ⟨_, pss_one (ps_ret (pe_or (pe_cmpR op_eq (pv 1) pe_str (nomark _)) (pe_one (pe_cmpR op_eq (pe_slice sl_str (pv 0) po_none
      (po_some (pe_op op_add (pe_callB call_len_str (by rfl) T.len PySem.boot_len (pa_cons (pv 1) pa_nil)) pe_int))) (pe_op op_add_str (pv 1) pe_str) (nomark _))))), ?_⟩
    refine ⟨_, rfl, rfl, _, rfl, ?_⟩
    rw [str_eq]
    refine ite2 (fun e => ?_) (fun e => ?_)
    · rw [inside, e, Bool.true_or] at r
      exact r
    · refine ⟨_, rfl, _, rfl, y, rfl, lenle hy, _, _, rfl, rfl, _, rfl, x, rfl, lenle hx, _, rfl, _, _, rfl, rfl, ?_, rfl, ?_⟩
      · show y.length + 1 ≤ _
        rw [len_tl]
        exact Nat.le_trans (Nat.add_le_add_right hy 1) (by decide)
      · rw [inside, Bool.eq_false_iff.mpr e, Bool.false_or, ← inside_cut] at r
        exact r
theorem strOk_of {z : Str} (h : ∀ c ∈ tl z, okc c = true) : PyData.strOk z = true := by
  show z.cps.all (· < 0x110000) = true
  rw [← Array.all_toList, List.all_eq_true]
  intro c hc
  have h2 := h c hc
  unfold okc at h2
  rw [Bool.and_eq_true, Bool.and_eq_true, decide_eq_true_eq, decide_eq_true_eq] at h2
  exact decide_eq_true (by omega)
theorem split_ok {x p : Str} (h : p ∈ Txt.split x sl) (ho : (tl x).all okc = true) : ∀ c ∈ tl p, okc c = true := fun c hc => by
  have h2 : tl p ∈ (Txt.split x sl).map tl := List.mem_map_of_mem h
  rw [split_eq] at h2
  rcases spl_mem _ _ _ _ _ h2 c hc with h3 | h3
  · cases h3
  · exact List.all_eq_true.mp ho c h3
/-- a text in, a truth out, nothing changed -/
def spTx (p : Str → Bool) : Sp := fun vs H Q _ => ∃ z : Str, vs = [.str z] ∧ okText 1000 z ∧ ∀ H', Same H H' → Q (.bl (p z)) H'
end
/-- a path of the law: names joined -/
abbrev pnames : List V := [.str "a", .str "b", .str "ab", .str "x1"]
def isPth (v : V) : Prop := ∃ ps : List Str, v = .str (Txt.join sl ps) ∧ 1 ≤ ps.length ∧ ps.length ≤ 3 ∧ ∀ p ∈ ps, V.str p ∈ pnames
def spPth : Sp := spBox fun _ v _ => isPth v
theorem pname_str {v : V} (h : v ∈ pnames) : ∃ p : Str, v = .str p := by
  rcases menu_mem (n := 2) (vs := pnames) (by decide +kernel) h with ⟨z, e, _⟩
  exact ⟨z, e⟩
theorem pname_len {p : Str} (h : V.str p ∈ pnames) : okText 2 p := by
  obtain ⟨z, e, o⟩ := menu_mem (n := 2) (vs := pnames) (by decide +kernel) h
  cases e
  exact o
theorem strs_of : ∀ {vs : List V}, (∀ v ∈ vs, v ∈ pnames) → ∃ ps : List Str, vs = ps.map V.str ∧ ∀ p ∈ ps, V.str p ∈ pnames
  | [], _ => ⟨[], rfl, fun _ h => nomatch h⟩
  | v :: r, h => by
    obtain ⟨ps, e, g⟩ := strs_of (vs := r) fun u hu => h u (List.mem_cons_of_mem _ hu)
    obtain ⟨p, rfl⟩ := pname_str (h v List.mem_cons_self)
    exact ⟨p :: ps, by rw [e]; rfl, fun u hu => by
      rcases List.mem_cons.mp hu with rfl | hu
      · exact h _ List.mem_cons_self
      · exact g u hu⟩
theorem sum_len : ∀ {ps : List Str}, (∀ p ∈ ps, V.str p ∈ pnames) → (ps.map (·.length)).sum ≤ 2 * ps.length
  | [], _ => by simp
  | p :: r, h => by
    have h1 := (pname_len (h p List.mem_cons_self)).1
    rw [← len_tl] at h1
    have h2 := sum_len (ps := r) fun u hu => h u (List.mem_cons_of_mem _ hu)
    rw [List.map_cons, List.sum_cons, List.length_cons]
    omega
theorem join_ok : ∀ {ps : List Str}, (∀ p ∈ ps, V.str p ∈ pnames) → okText (3 * ps.length) (Str.join sl ps)
  | [], _ => by decide +kernel
  | p :: r, h => by
    have h1 := pname_len (h p List.mem_cons_self)
    have h2 := join_ok (ps := r) fun u hu => h u (List.mem_cons_of_mem _ hu)
    cases r with
    | nil => exact (h1.mono (by decide) : okText (3 * 1) p)
    | cons s r =>
      have h3 := (h1.app (show okText 1 sl by decide +kernel)).app h2
      exact h3.mono (by simp only [List.length_cons]; omega)
section
variable {P : Program} {w : World} {K : PySem.W.Frag} {mg : Str → Option Value} {base : Heap} {fD : Addr} {fdD : FuncData}
theorem ok_path {f : Addr} {fd : FuncData} (F : Fun K "_law_path" "_law_path" sPath f fd) (T : Tx mg) (GD : FnOk P w K mg base CX0 1 fD fdD ["box", "many"] spDraw)
    (gD : mg "_law_draw" = some (.ref fD)) (kD : PySem.W.keepIn K (.ref fD) = true) (bD : Binds K fdD ["box", "many"] []) : FnOk P w K mg base CX0 2 f fd ["box"] spPth := by
  refine F.ok scPath (fun vs H Q E h => ?_) (fun cdv A outer s H vs Q E hr h => ?_)
  · obtain ⟨B, D, rfl, _⟩ := h
    rfl
  · obtain ⟨B, D, rfl, bx, q⟩ := h
    refine ⟨_, pss_cons (ps_set (i := 1) scPath.nd rfl (.inl rfl) (pe_ix ix_list (pe_lst (pa_consts rfl)) (pe_call GD hr (by rfl) gD kD bD .nil pass0 (pa_cons (pv 0) (pa_cons pe_int pa_nil))) (fun _ _ => rfl)))
      (pss_one (ps_ret (pe_join pe_str (pe_lc (own := [("k", 2)]) rfl scPath.nd (pi_range1 (by rfl) T.range (pa_cons (pv 1) pa_nil)) (blkOk_by (N := ["box", "depth", "k"]) (sc := defScope sPath) (by decide +kernel))
          (fun _ _ _ _ _ => pg_name (i := 2) scPath.nd rfl (Or.inl rfl)) (fun _ _ _ _ _ => pts_nil)
          (fun _ _ _ _ _ => pe_ix (ixL (K := K) rfl) (pe_lst (pa_consts rfl)) (pe_call GD hr (by rfl) gD kD bD .nil pass0 (pa_cons (pv 0) (pa_cons pe_int pa_nil))) (fun _ _ => rfl)))))), ?_⟩
    refine pick (B := B) (D := D) (by rfl) (by decide) (by decide) rfl bx fun v hv H1 kp1 bx1 => ?_
    have hv2 : v = .int 1 ∨ v = .int 2 ∨ v = .int 3 := by
      rcases List.mem_cons.mp hv with h | hv
      · exact .inl h
      rcases List.mem_cons.mp hv with h | hv
      · exact .inr (.inl h)
      rcases List.mem_cons.mp hv with h | hv
      · exact .inr (.inl h)
      rcases List.mem_cons.mp hv with h | hv
      · exact .inr (.inr h)
      cases hv
    obtain ⟨n, rfl, n1, n3⟩ : ∃ n : Nat, v = .int (n : Int) ∧ 1 ≤ n ∧ n ≤ 3 := by
      rcases hv2 with h | h | h
      · exact ⟨1, h, by decide, by decide⟩
      · exact ⟨2, h, by decide, by decide⟩
      · exact ⟨3, h, by decide, by decide⟩
    refine ⟨⟨_, rfl⟩, _, rfl, n, rfl, by omega, by omega, fun C nC => ?_⟩
    rw [Int.toNat_natCast]
    refine lc_rng_box (n := n) (R := fun v => v ∈ pnames) nC bx1 (by omega) (fun m H2 Q2 hm b2 kp2 hq => ?_) (fun H' vs kp b hC hl hR => ?_)
    · exact pick (B := B) (D := D) (by rfl) (by decide) (by decide) rfl b2 fun v hv H' kp' b' => hq v H' hv kp' b'
    · obtain ⟨ps, rfl, hps⟩ := strs_of hR
      rw [List.length_map] at hl
      refine ⟨sl, C, ps, rfl, rfl, .inl (sqL hC), ?_, ?_⟩
      · have := sum_len hps
        have e1 : sl.length = 1 := by decide +kernel
        rw [e1]
        omega
      · exact q _ H' ⟨ps, rfl, by omega, by omega, hps⟩ (kp1.trans kp) b
end
/-- data of truths may be shown -/
def Sh (d : PyData) : Prop := d.showable = true ∧ d.hasDict = false ∧ d.depth ≤ 40 ∧ d.shown.length ≤ sizeLine
section
variable {K : PySem.W.Frag} {H : Hp} {Q : VK} {σ : L2.St} {v : V} {p q : Bool} {te ta tb tc td : TE}
/-- a value, whatever more stands by then; nothing is changed -/
def EvS (te : TE) (σ : L2.St) (H : Hp) (v : V) : Prop := ∀ H1, Same H H1 → ∀ Q : VK, (∀ H2, Same H1 H2 → Q v H2) → te σ H1 Q
theorem evVar {i : Nat} (h : σ[i]? = some (some v)) : EvS (tVar i) σ H v := fun H1 _ Q q => ⟨v, h, q H1 (.refl _)⟩
theorem evStr {f : Str → Bool} {i : Nat} {z : Str} (h : σ[i]? = some (some (.str z))) (hz : (tl z).length ≤ 1000) : EvS (tCall (spStr f) [] E0 (tCons (tVar i) tNil)) σ H (.bl (f z)) :=
  fun H1 _ Q q => ⟨_, h, z, rfl, hz, q⟩
theorem evTx {f : Str → Bool} {i : Nat} {z : Str} (h : σ[i]? = some (some (.str z))) (hz : okText 1000 z) : EvS (tCall (spTx f) [] E0 (tCons (tVar i) tNil)) σ H (.bl (f z)) :=
  fun H1 _ Q q => ⟨_, h, z, rfl, hz, q⟩
theorem evIns {i j : Nat} {x y : Str} (h : σ[i]? = some (some (.str x))) (g : σ[j]? = some (some (.str y))) (hx : (tl x).length ≤ 1000) (hy : (tl y).length ≤ 1000) :
    EvS (tCall spInside [] E0 (tCons (tVar i) (tCons (tVar j) tNil))) σ H (.bl (inside x y)) := fun H1 _ Q q => ⟨_, h, _, g, x, y, rfl, hx, hy, q⟩
theorem evAnd (ha : EvS ta σ H (.bl p)) (hb : EvS tb σ H (.bl q)) : EvS (tAndV ta tb) σ H (.bl (p && q)) := fun H1 s Q k => by
  refine ha H1 s _ fun H2 s2 => ⟨p, rfl, ?_⟩
  cases p with
  | true =>
    rw [if_pos rfl]
    exact hb H2 (s.trans s2) _ fun H3 s3 => k H3 (s2.trans s3)
  | false =>
    rw [if_neg Bool.false_ne_true]
    exact k H2 s2
theorem evOr (ha : EvS ta σ H (.bl p)) (hb : EvS tb σ H (.bl q)) : EvS (tOrV ta tb) σ H (.bl (p || q)) := fun H1 s Q k => by
  refine ha H1 s _ fun H2 s2 => ⟨p, rfl, ?_⟩
  cases p with
  | true =>
    rw [if_pos rfl]
    exact k H2 s2
  | false =>
    rw [if_neg Bool.false_ne_true]
    exact hb H2 (s.trans s2) _ fun H3 s3 => k H3 (s2.trans s3)
theorem evLines {i : Nat} {t : Addr} {l : List Str} (h : σ[i]? = some (some (.ref t))) (ht : SqT K H t (l.map V.str)) (hl : l.length ≤ 1000) (hz : ∀ z ∈ l, (tl z).length ≤ 1000) :
    EvS (tCall (spLines K) [] E0 (tCons (tVar i) tNil)) σ H (.bl (isLines l)) := fun H1 s Q q => ⟨_, h, t, l, rfl, s.seqT ht, hl, hz, q⟩
end
/-- a def of the text that may be called -/
structure Cal (P : Program) (w : World) (K : PySem.W.Frag) (mg : Str → Option Value) (base : Heap) (k : Nat) (x : Str) (ps : List Str) (sp : Sp) : Prop where
  ex : ∃ (f : Addr) (fd : FuncData), FnOk P w K mg base CX0 k f fd ps sp ∧ mg x = some (.ref f) ∧ PySem.W.keepIn K (.ref f) = true ∧ Binds K fd ps []
structure CalG (P : Program) (w : World) (K : PySem.W.Frag) (mg : Str → Option Value) (base : Heap) (k : Nat) (x : Str) (ps : List Str) (sp : Sp) : Prop where
  ex : ∃ (f : Addr) (fd : FuncData), FnG P w K mg base CX0 k f fd ps sp ∧ mg x = some (.ref f) ∧ PySem.W.keepIn K (.ref f) = true ∧ Binds K fd ps []
def spLaw (K : PySem.W.Frag) : Sp := fun vs H Q _ => ∃ (a : Addr) (ns : List Int), vs = [.ref a] ∧ SqL K H a (ns.map V.int) ∧ ns.length ≤ 63 ∧ ∀ H', Q (.bl true) H'
end KX

set_option maxRecDepth 100000
set_option maxHeartbeats 4000000
namespace KX
open PySem PySem.Spec PyProof.Rows L2 TL Ga
/-- whether no two of these are the same, and none lies inside another one -/
def apart (l : List Str) : Bool := !decide ((cnt l l.length : Int) < l.length) && !(l.any fun a => l.any fun b => inside a b)
def spApart (K : PySem.W.Frag) : Sp := fun vs H Q _ => ∃ (a : Addr) (l : List Str), vs = [.ref a] ∧ SqL K H a (l.map V.str) ∧ l.length ≤ 300 ∧ (∀ z ∈ l, (tl z).length ≤ 1000) ∧ ∀ H', Same H H' → Q (.bl (apart l)) H'
theorem any_flat {α β : Type} (p : α → β → Bool) (m : List β) : ∀ l : List α, (l.flatMap fun a => m.map fun b => p a b).any id = l.any fun a => m.any fun b => p a b
  | [] => rfl
  | a :: r => by rw [List.flatMap_cons, List.any_append, any_flat p m r, List.any_cons, List.any_map]; rfl
section
variable {P : Program} {w : World} {K : PySem.W.Frag} {mg : Str → Option Value} {base : Heap}
theorem ok_apart {f f1 : Addr} {fd fd1 : FuncData} (F : Fun K "are_apart" "are_apart" sApart f fd) (T : Tx mg) (G1 : FnOk P w K mg base CX0 1 f1 fd1 ["path", "place"] spInside)
    (g1 : mg "is_inside" = some (.ref f1)) (k1 : PySem.W.keepIn K (.ref f1) = true) (b1 : Binds K fd1 ["path", "place"] []) : FnOk P w K mg base CX0 2 f fd ["paths"] (spApart K) := by
  refine F.ok scApart (fun vs H Q E h => ?_) (fun cdv A outer s H vs Q E hr h => ?_)
  · obtain ⟨a, l, rfl, _⟩ := h
    rfl
  · obtain ⟨a, l, rfl, hS, hl, hz, q⟩ := h
    refine ⟨_, pss_cons (ps_if (pt_cmpR op_lt (pe_lenSetT (by rfl) T.len (by rfl) T.set (pv 0)) (pe_callB call_len_seq (by rfl) T.len PySem.boot_len (pa_cons (pv 0) pa_nil)) (nomark _)) (pss_one (ps_ret pe_bl)) pss_nil)
      (pss_one (ps_ret (pe_not (pe_callB (cr_any rfl) (by rfl) T.any (by decide +kernel) (pa_cons
        (pe_lc2 (own := [("path", 1), ("place", 2)]) (vs1 := [2]) rfl scApart.nd (pi_list (pv 0)) (blkOk_by (N := ["paths", "path", "place"]) (sc := defScope sApart) (by decide +kernel)) (by decide)
          (fun _ _ _ _ _ => pg_name (i := 1) scApart.nd rfl (Or.inl rfl)) (fun _ _ _ _ _ => pts_nil) (fun _ _ _ _ _ => piL (K := K) rfl (pv 0))
          (fun _ _ _ _ _ => pg_name (i := 2) scApart.nd rfl (Or.inl rfl)) (fun _ _ _ _ _ => pts_nil)
          (fun _ _ _ _ _ => pe_call G1 hr (by rfl) g1 k1 b1 .nil pass0 (pa_cons (pv 1) (pa_cons (pv 2) pa_nil)))) pa_nil))))), ?_⟩
    refine ⟨_, rfl, a, l, rfl, hS, by omega, _, rfl, a, _, rfl, .inl hS, _, _, rfl, rfl, _, rfl, ite2 (fun e => ?_) (fun e => ?_)⟩
    · have r := q H (.refl _)
      rw [List.length_map] at e
      rw [apart, e, Bool.not_true, Bool.false_and] at r
      exact r
    · rw [List.length_map] at e
      refine ⟨_, rfl, a, rfl, ⟨_, hS⟩, fun D nD => ?_⟩
      refine lc2_bl (p := fun x y => inside (strOf x) (strOf y)) nD (same_walkL hS) (same_walkL hS) (by rw [List.length_map]; exact hl) (by decide) (fun c H2 R hc s r => ?_) (fun x hx y hy H2 R s r => ?_) fun H' s d => ?_
      · exact ⟨_, rfl, a, rfl, ⟨_, s.seq hS⟩, r⟩
      · obtain ⟨x, hx2, rfl⟩ := List.mem_map.mp hx
        obtain ⟨y, hy2, rfl⟩ := List.mem_map.mp hy
        exact ⟨_, rfl, _, rfl, x, y, rfl, hz x hx2, hz y hy2, r⟩
      · refine ⟨D, _, rfl, sqL d, _, rfl, ?_⟩
        have r := q H' s
        rw [apart, Bool.eq_false_iff.mpr e, Bool.not_false, Bool.true_and] at r
        rw [any_flat]
        simp only [List.any_map]
        exact r
theorem not_t : ∀ {b : Bool}, (!b) = true → b = false
  | false, _ => rfl
theorem not_f : ∀ {b : Bool}, ¬ (!b) = true → b = true
  | true, _ => rfl
  | false, h => absurd rfl h
/-- rows of files, a list or a tuple -/
def Files (K : PySem.W.Frag) (H : Hp) (x : V) (fs : List File) : Prop := ∃ (a : Addr) (vs : List V), x = .ref a ∧ (SqL K H a vs ∨ SqT K H a vs) ∧ RowsAt K H vs fs
/-- texts and rows that aren't endless -/
def Small (fs : List File) : Prop := fs.length ≤ 300 ∧ ∀ f ∈ fs, (tl f.1).length ≤ 1000 ∧ f.2.length ≤ 1000 ∧ ∀ z ∈ f.2, (tl z).length ≤ 1000
/-- the files may be together in a tree -/
def goodFiles (fs : List File) : Bool := decide ((fs.length : Int) ≤ 20) && (fs.all fun f => isPath f.1 && isLines f.2) && apart (fs.map (·.1))
def spFiles (K : PySem.W.Frag) : Sp := fun vs H Q _ => ∃ (x : V) (fs : List File), vs = [x] ∧ Files K H x fs ∧ Small fs ∧ ∀ H', Same H H' → Q (.bl (goodFiles fs)) H'
theorem ok_files {f f1 f2 f3 : Addr} {fd fd1 fd2 fd3 : FuncData} (F : Fun K "are_files" "are_files" sFiles f fd) (T : Tx mg) (G1 : FnOk P w K mg base CX0 2 f1 fd1 ["text"] (spStr isPath))
    (g1 : mg "is_path" = some (.ref f1)) (k1 : PySem.W.keepIn K (.ref f1) = true) (b1 : Binds K fd1 ["text"] []) (G2 : FnOk P w K mg base CX0 3 f2 fd2 ["lines"] (spLines K))
    (g2 : mg "is_lines" = some (.ref f2)) (k2 : PySem.W.keepIn K (.ref f2) = true) (b2 : Binds K fd2 ["lines"] []) (G3 : FnOk P w K mg base CX0 2 f3 fd3 ["paths"] (spApart K))
    (g3 : mg "are_apart" = some (.ref f3)) (k3 : PySem.W.keepIn K (.ref f3) = true) (b3 : Binds K fd3 ["paths"] []) : FnOk P w K mg base CX0 4 f fd ["files"] (spFiles K) := by
  obtain ⟨t1, m1⟩ := T.c_FILES_MOST
  refine F.ok scFiles (fun vs H Q E h => ?_) (fun cdv A outer s H vs Q E hr h => ?_)
  · obtain ⟨x, fs, rfl, _⟩ := h
    rfl
  · obtain ⟨_, fs, rfl, ⟨a, vs, rfl, hS, hR⟩, hsm, q⟩ := h
    have hlen : vs.length = fs.length := hR.length
    obtain ⟨wi, J, hpi, hwi, hw⟩ := src (K := K) (i := 0) hS
    refine ⟨_, pss_cons (ps_if (pt_cmpR op_gt (pe_callB call_len_seq (by rfl) T.len PySem.boot_len (pa_cons (pv 0) pa_nil)) (pe_glob (v := .int 20) rfl m1 ⟨_, rfl⟩) (nomark _)) (pss_one (ps_ret pe_bl)) pss_nil)
      (pss_cons (ps_if (pt_not (pt_val (pe_callB (cr_all rfl) (by rfl) T.all (by decide +kernel) (pa_cons
        (pe_lc (own := [("path", 1), ("lines", 2)]) rfl scFiles.nd (hpi _ _ _ rfl (pv 0)) (blkOk_by (N := ["files", "path", "lines", "_"]) (sc := defScope sFiles) (by decide +kernel))
          (fun _ _ _ _ _ => pgT (K := K) (n := 2) rfl rfl (pgs_cons (pg_name (i := 1) scFiles.nd rfl (Or.inl rfl)) (pgs_cons (pg_name (i := 2) scFiles.nd rfl (Or.inl rfl)) pgs_nil))) (fun _ _ _ _ _ => pts_nil)
          (fun _ _ _ _ _ => pe_and (pe_call G1 (hr.mono (by decide)) (by rfl) g1 k1 b1 .nil pass0 (pa_cons (pv 1) pa_nil)) (pe_one (pe_call G2 hr (by rfl) g2 k2 b2 .nil pass0 (pa_cons (pv 2) pa_nil))))) pa_nil)))) (pss_one (ps_ret pe_bl)) pss_nil)
      (pss_one (ps_ret (pe_call G3 (hr.mono (by decide)) (by rfl) g3 k3 b3 .nil pass0 (pa_cons
        (pe_lc (own := [("path", 1), ("_", 3)]) rfl scFiles.nd (hpi _ _ _ rfl (pv 0)) (blkOk_by (N := ["files", "path", "lines", "_"]) (sc := defScope sFiles) (by decide +kernel))
          (fun _ _ _ _ _ => pgT (K := K) (n := 2) rfl rfl (pgs_cons (pg_name (i := 1) scFiles.nd rfl (Or.inl rfl)) (pgs_cons (pg_name (i := 3) scFiles.nd rfl (Or.inl rfl)) pgs_nil))) (fun _ _ _ _ _ => pts_nil)
          (fun _ _ _ _ _ => pv 1)) pa_nil))))), ?_⟩
    have hz : vs.length ≤ 100000 := by have := hsm.1; omega
    refine ⟨_, rfl, a, vs, rfl, hS, _, _, rfl, rfl, _, rfl, ite2 (fun e => ?_) (fun e => ?_)⟩
    · have r := q H (.refl _)
      have e2 : (20 : Int) < vs.length := of_decide_eq_true e
      rw [goodFiles, decide_eq_false (show ¬ ((fs.length : Int) ≤ 20) by omega), Bool.false_and, Bool.false_and] at r
      exact r
    · have e2 : ¬ (20 : Int) < vs.length := fun z => e (decide_eq_true z)
      refine hwi _ H _ (.refl _) (by rfl) ?_
      refine fun D nD => lcF1 (f := fun x : File => V.bl (isPath x.1 && isLines x.2)) nD (hw H (.refl _)) hlen hz (fun i c x hc hx H2 Rk s k => ?_) fun H' s d => ?_
      · obtain ⟨y, hy, ry⟩ := paired_get hR i c hc
        rw [hx] at hy
        cases hy
        have hm := List.mem_of_getElem? hx
        obtain ⟨z1, z2, z3⟩ := hsm.2 x hm
        refine g_row (ry.st s.t) fun w lw => ⟨by rfl, ?_⟩
        obtain ⟨b, rfl, hb⟩ := lw
        refine ⟨_, rfl, x.1, rfl, z1, fun H3 s3 => ⟨_, rfl, ite2 (fun e3 => ?_) (fun e3 => ?_)⟩⟩
        · refine ⟨_, rfl, b, x.2, rfl, s3.seqT hb, z2, z3, fun H4 s4 => ?_⟩
          have := k H4 (s3.trans s4)
          rw [e3, Bool.true_and] at this
          exact this
        · have := k H3 s3
          rw [Bool.eq_false_iff.mpr e3, Bool.false_and] at this
          exact this
      · refine ⟨D, fs.map (fun x => isPath x.1 && isLines x.2), rfl, sqL (by rw [d, List.map_map]; rfl), _, rfl, ?_⟩
        rw [List.all_map]
        have r0 := q
        rw [goodFiles, decide_eq_true (show (fs.length : Int) ≤ 20 by omega), Bool.true_and] at r0
        have eA : fs.all (id ∘ fun x : File => isPath x.1 && isLines x.2) = fs.all fun f => isPath f.1 && isLines f.2 := rfl
        rw [eA]
        refine ite2 (fun e3 => ?_) (fun e3 => ?_)
        · have r := r0 H' s
          rw [not_t e3, Bool.false_and] at r
          exact r
        · have e4 : (fs.all fun f => isPath f.1 && isLines f.2) = true := not_f e3
          rw [e4] at r0
          refine hwi _ H' _ s (by rfl) ?_
          refine fun D2 nD2 => lcF1 (f := fun x : File => V.str x.1) nD2 (hw H' s) hlen hz (fun i c x hc hx H2 Rk s2 k => ?_) fun H2 s2 d2 => ?_
          · obtain ⟨y, hy, ry⟩ := paired_get hR i c hc
            rw [hx] at hy
            cases hy
            exact g_row (ry.st (s.trans s2).t) fun w lw => ⟨by rfl, _, rfl, k H2 (.refl _)⟩
          · refine ⟨D2, fs.map (·.1), rfl, sqL (by rw [d2, List.map_map]; rfl), by rw [List.length_map]; exact hsm.1, fun z hz => ?_, fun H3 s3 => ?_⟩
            · obtain ⟨x, hx, rfl⟩ := List.mem_map.mp hz
              exact (hsm.2 x hx).1
            · have r := r0 H3 ((s.trans s2).trans s3)
              rw [Bool.true_and] at r
              exact r
end
end KX

set_option maxRecDepth 100000
set_option maxHeartbeats 4000000
namespace KX
open PySem PySem.Spec PyProof.Rows L2 TL Ga NdefX
theorem scOor : NScope ["self", "name", "__class__"] ["self", "name"] ["__class__"] (defScope sOorInit) := nscope_by (by decide +kernel)
/-- OutOfRange.__init__, as it is made -/
def fOor (cc c : Addr) : NF := ⟨"__init__", "OutOfRange.__init__", defArgs sOorInit, defBody sOorInit, defScope sOorInit, [(("__class__" : Str), cc)], c⟩
/-- OutOfRange(name), as it is made -/
def spOor (C : Addr) : Sp := fun vs H Q _ => ∃ (a : Addr) (z : Str), vs = [.ref a, .str z] ∧ H a = some (exo a C none) ∧ (tl z).length ≤ 1000 ∧
  ∀ dx, H dx = none → dx ≠ a → Q .non (upd (upd H dx (exd dx [("name", .str z)])) a (exo a C (some dx)))
section
variable {P : Program} {w : World} {K : PySem.W.Frag} {mg : Str → Option Value} {base : Heap}
theorem ok_oor {f C cc c : Addr} {fd : FuncData} (SI : SupIn P K f C (fOor cc c) fd) (SC : SupC K C) (hsuper : mg "super" = none) (htop : (P.main.scope.names.lookup ("super" : Str)).isSome = false)
    (hno : PySem.W.findIn K (.ref C) "name" = some none) : FnOk P w K mg base CX0 1 f fd ["self", "name"] (spOor C) := by
  refine ok_sup (N := ["self", "name", "__class__"]) (ar := (defArgs sOorInit).args.head!) SI SC ⟨scOor, rfl, rfl, rfl, htop⟩ hsuper rfl (fun vs H Q E h => ?_) (by intro _; rfl) (by intro _; rfl) (by intro _; exact ⟨_, rfl⟩) (by intro _; rfl) (by intro _; rfl) ?_
  · obtain ⟨a, z, rfl, _⟩ := h
    rfl
  · intro A outer s H vs Q E hr h
    obtain ⟨a, z, rfl, ha, hz, q⟩ := h
    refine ⟨a, _, _, rfl, ha, pa_cons (pe_joined (PJ.cons (pe_fmt (pv 1)) (PJ.cons pe_str PJ.nil))) pa_nil, pss_one (ps_ost (pv 0) (pv 1)), ?_⟩
    have l1 : z.length ≤ sizeLine := lenle hz
    have l2 : (Str.empty ++ z : Str).length ≤ sizeLine := by
      rw [len_tl, tl_append, List.length_append]
      exact Nat.le_trans (show 0 + (tl z).length ≤ 1000 by omega) (by decide)
    have l3 : ((Str.empty ++ z : Str) ++ (" is out of range" : Str)).length ≤ sizeLine := by
      rw [len_tl, tl_append, tl_append, List.length_append, List.length_append]
      exact Nat.le_trans (show 0 + (tl z).length + 16 ≤ 1016 by omega) (by decide)
    exact ⟨_, rfl, .inl ⟨z, rfl, l1, z, rfl, l2, _, rfl, l3, (by show 1 ≤ 1000; decide), ha, _, rfl, _, rfl, a, C, rfl, SC.toOexC, hno, .inl ⟨ha, fun dx n ne => q dx n ne⟩⟩⟩
end
end KX

set_option maxRecDepth 100000
set_option maxHeartbeats 4000000
namespace KX
open PySem PySem.Spec PyProof.Rows L2 TL Ga NdefX
/-- a table of files: the paths' lines -/
def Tab (K : PySem.W.Frag) (H : Hp) (d : Addr) (fs : List File) : Prop := ∃ kvs : List (Key × V), H d = some (.dK kvs) ∧ Paired (fun (f : File) (kv : Key × V) => kv.1 = .inr f.1 ∧ LinesAt K H kv.2 f.2) fs kvs ∧ (fs.map (·.1)).Nodup ∧ fs.length ≤ 40
/-- a tree of files -/
def TreeAt (K : PySem.W.Frag) (C : Addr) (H : Hp) (p : Addr) (fs : List File) : Prop := ∃ dx d, H p = some (.ins C dx [("_table", .ref d)]) ∧ Tab K H d fs
def paths (fs : List File) : List Str := fs.map (·.1)
/-- OutOfRange("files") is let out -/
def Oor (Co : Addr) (z : Str) (H : Hp) (E : XK) : Prop := ∀ (H' : Hp) (e : Addr), Same H H' → H e = none → H' e = some (.xd [("name", .str z)]) → E (.ref Co) (some e) H'
def spInit (K : PySem.W.Frag) (C Co : Addr) : Sp := fun vs H Q E => ∃ (p dx : Addr) (x : V) (fs : List File), vs = [.ref p, x] ∧ H p = some (.ins C dx []) ∧ Files K H x fs ∧ Small fs ∧
  (goodFiles fs = true → ∀ H', Kp p H H' → TreeAt K C H' p fs → Q .non H') ∧ (goodFiles fs = false → Oor Co "files" H E)
/-- what the top has left of an error class with a name -/
structure OorC (P : Program) (w : World) (K : PySem.W.Frag) (mg : Str → Option Value) (base : Heap) (Co fo : Addr) (fdo : FuncData) : Prop where
  ok : FnOk P w K mg base CX0 1 fo fdo ["self", "name"] (spOor Co)
  ex : OexC K Co
  init : PySem.W.findIn K (.ref Co) "__init__" = some (some (.ref fo))
  fn : PySem.W.typeIn K (.ref fo) = some (.type "function")
  binds : Binds K fdo ["self", "name"] []
  gl : mg "OutOfRange" = some (.ref Co)
theorem raise_oor {σ : L2.St} {H : Hp} {Q : XK} {Co : Addr} {z : Str} (hz : (tl z).length ≤ 1000) (h : Oor Co z H Q) : tMkO Co (spOor Co) [] (tCons (tC (.str z)) tNil) σ H Q := by
  refine ⟨by show 1 ≤ 1000; decide, fun a na => ⟨a, z, rfl, upd_same, hz, fun dx nd ne => ?_⟩⟩
  have nd1 : H dx = none := by rw [upd_ne ne] at nd; exact nd
  refine ⟨rfl, dx, [("name", .str z)], upd_same, by rw [upd_ne ne, upd_same], nd1, h _ dx (fun b o e => ?_) nd1 upd_same⟩
  have n1 := ne_of_none e na
  have n2 := ne_of_none e nd1
  rw [upd_ne n2, del_ne n1, upd_ne n1, upd_ne n2, upd_ne n1]
  exact e
theorem cnt_apart {l : List Str} (h : apart l = true) : l.Nodup := by
  unfold apart at h
  have h1 : ¬ ((cnt l l.length : Int) < l.length) := of_decide_eq_false (not_t (Bool.and_eq_true_iff.mp h).1)
  have h2 := cnt_le l l.length
  have h3 := (cnt_nodup l l.length (Nat.le_refl _)).mp (by omega)
  rwa [List.take_length] at h3
theorem nd_inr : ∀ {l : List Str}, l.Nodup → (l.map (Sum.inr : Str → Key)).Nodup
  | [], _ => List.nodup_nil
  | a :: r, h => List.nodup_cons.mpr ⟨fun m => by
      obtain ⟨b, hb, e⟩ := List.mem_map.mp m
      cases e
      exact (List.nodup_cons.mp h).1 hb, nd_inr (List.nodup_cons.mp h).2⟩
theorem good_nodup {fs : List File} (h : goodFiles fs = true) : (paths fs).Nodup := cnt_apart (Bool.and_eq_true_iff.mp h).2
theorem good_len {fs : List File} (h : goodFiles fs = true) : fs.length ≤ 20 := by
  have := of_decide_eq_true (Bool.and_eq_true_iff.mp (Bool.and_eq_true_iff.mp h).1).1
  omega
section
variable {P : Program} {w : World} {K : PySem.W.Frag} {mg : Str → Option Value} {base : Heap}
theorem ok_init {f f1 C Co fo : Addr} {fd fd1 fdo : FuncData} {dvs : List V} (F : FunD K "__init__" "Tree.__init__" (defArgs sInit) (defBody sInit) (defScope sInit) dvs [] f fd) (T : Tx mg) (cl : Cls K C) (nt : NoAttr K C "_table")
    (G1 : FnOk P w K mg base CX0 4 f1 fd1 ["files"] (spFiles K)) (g1 : mg "are_files" = some (.ref f1)) (k1 : PySem.W.keepIn K (.ref f1) = true) (b1 : Binds K fd1 ["files"] [])
    (O : OorC P w K mg base Co fo fdo) : FnOk P w K mg base (L2.CX P w) 5 f fd ["self", "files"] (spInit K C Co) := by
  refine F.ok scInit (fun vs H Q E h => ?_) (fun cdv A outer s H vs Q E hr h => ?_)
  · obtain ⟨p, dx, x, fs, rfl, _⟩ := h
    rfl
  · obtain ⟨p, dx, _, fs, rfl, hp, ⟨a, vs, rfl, hS, hR⟩, hsm, q1, q2⟩ := h
    have hlen : vs.length = fs.length := hR.length
    have hz : vs.length ≤ 100000 := by have := hsm.1; omega
    obtain ⟨wi, J, hpi, hwi, hw⟩ := src (K := K) (i := 1) hS
    refine ⟨_, pss_cons (ps_if (pt_not (pt_val (pe_call G1 hr (by rfl) g1 k1 b1 .nil pass0 (pa_cons (pv 1) pa_nil))))
        (pss_one (ps_raise (W := fun cls d _ H => E cls d H) rfl (takes_of rfl rfl rfl rfl) (pmk_oex O.ex O.init O.fn O.ok (hr.mono (by decide)) O.binds .nil pass0 (by rfl) O.gl (pa_cons pe_str pa_nil)))) pss_nil)
      (pss_one (ps_fld (pv 0) (pe_dc (own := [("path", 2), ("lines", 3)]) rfl scInit.nd (hpi _ _ _ rfl (pv 1)) (blkOk_by (N := ["self", "files", "path", "lines"]) (sc := defScope sInit) (by decide +kernel))
          (fun _ _ _ _ _ => pgT (K := K) (n := 2) rfl rfl (pgs_cons (pg_name (i := 2) scInit.nd rfl (Or.inl rfl)) (pgs_cons (pg_name (i := 3) scInit.nd rfl (Or.inl rfl)) pgs_nil))) (fun _ _ _ _ _ => pts_nil)
          (fun _ _ _ _ _ => pv 2) (fun _ _ _ _ _ => pe_callTy (callTup (K := K) rfl) (by rfl) T.tuple (by decide +kernel) (pa_cons (pv 3) pa_nil))) rfl)), ?_⟩
    refine ⟨_, rfl, _, fs, rfl, ⟨a, vs, rfl, hS, hR⟩, hsm, fun H1 s1 => ?_⟩
    refine ⟨_, rfl, ite2 (fun e => ?_) (fun e => ?_)⟩
    · refine raise_oor (by decide +kernel) fun H2 e2 s2 n2 h2 => q2 (not_t e) H2 e2 (s1.trans s2) ?_ h2
      cases e3 : H e2 with
      | none => rfl
      | some o => rw [s1 _ _ e3] at n2; cases n2
    · have gd := not_f e
      refine hwi _ H1 _ s1 (by rfl) ?_
      refine fun D nD => dc_rel (R := fun H (f : File) kv => kv.1 = .inr f.1 ∧ LinesAt K H kv.2 f.2) (p := fun _ => true) (as := fs) nD (hw H1 s1) hlen hz (fun st h => ⟨h.1, h.2.st st⟩) (fun f => .inr f.1) (fun h => h.1) ?_ (fun i c x hc hx H2 Rk Rn s2 k _ => ?_) fun H2 ys s2 d pr => ?_
      · rw [filterY]
        have := nd_inr (good_nodup gd)
        rw [paths, List.map_map] at this
        exact this
      · obtain ⟨y, hy, ry⟩ := paired_get hR i c hc
        rw [hx] at hy
        cases hy
        refine g_row (ry.st (s1.trans s2).t) fun w lw => ⟨by rfl, ?_⟩
        obtain ⟨b, rfl, hb⟩ := lw
        exact ⟨_, rfl, _, rfl, b, _, rfl, .inr ⟨hb, k (.inr x.1, .ref b) H2 rfl (.refl _) ⟨rfl, b, rfl, hb⟩⟩⟩
      · rw [filterY] at pr
        have hp2 := (s1.trans s2) _ _ hp
        refine ⟨_, rfl, p, C, dx, [], rfl, hp2, cl, nt, by decide, q1 gd _ (fun b o n e => ?_) ⟨dx, D, upd_same, ys, ?_, ?_⟩⟩
        · rw [upd_ne n]
          exact (s1.trans s2) _ _ e
        · rw [upd_ne (fun z => by rw [z, hp2] at d; cases d)]
          exact d
        · exact ⟨pr.mono fun _ _ h => ⟨h.1, h.2.st (.put hp2 rfl)⟩, good_nodup gd, Nat.le_trans (good_len gd) (by decide)⟩
end
end KX

set_option maxRecDepth 100000
set_option maxHeartbeats 4000000
namespace KX
open PySem PySem.Spec PyProof.Rows L2 TL Ga NdefX
/-- what the written part says of the class Tree -/
structure TreeC (K : PySem.W.Frag) (C : Addr) : Prop where
  cl : Cls K C
  nt : NoAttr K C "_table"
theorem paired_swap {α β : Type} {F : α → β → Prop} : ∀ {l : List α} {m : List β}, Paired F l m → Paired (fun b a => F a b) m l
  | _, _, .nil => .nil
  | _, _, .cons h t => .cons h (paired_swap t)
/-! ### tables -/
theorem keys_of {K : PySem.W.Frag} {H : Hp} : ∀ {fs : List File} {kvs : List (Key × V)}, Paired (fun (f : File) (kv : Key × V) => kv.1 = .inr f.1 ∧ LinesAt K H kv.2 f.2) fs kvs → kvs.map (·.1) = (fs.map (·.1)).map Sum.inr
  | _, _, .nil => rfl
  | _, _, .cons h t => by rw [List.map_cons, keys_of t, h.1]; rfl
theorem val_of {K : PySem.W.Frag} {H : Hp} : ∀ {fs : List File} {kvs : List (Key × V)}, Paired (fun (f : File) (kv : Key × V) => kv.1 = .inr f.1 ∧ LinesAt K H kv.2 f.2) fs kvs → ∀ {x : Str},
    (x ∉ fs.map (·.1) → valV kvs (.inr x) = none) ∧ ((fs.map (·.1)).Nodup → ∀ f ∈ fs, f.1 = x → ∃ v, valV kvs (.inr x) = some v ∧ LinesAt K H v f.2)
  | _, _, .nil, x => ⟨fun _ => rfl, fun _ f h => nomatch h⟩
  | _, _, .cons (a := g) (b := kv) h t, x => by
    obtain ⟨ih1, ih2⟩ := val_of t (x := x)
    refine ⟨fun n => ?_, fun nd f hf e => ?_⟩
    · rw [valV_neg (fun e => n ?_), ih1 fun m => n (List.mem_cons_of_mem _ m)]
      rw [h.1] at e
      rw [← Sum.inr.inj e]
      exact List.mem_cons_self
    · have nd2 := List.nodup_cons.mp nd
      rcases List.mem_cons.mp hf with rfl | hf1
      · exact ⟨kv.2, valV_pos (by rw [h.1, e]), h.2⟩
      · rw [valV_neg (fun e2 => nd2.1 ?_)]
        · exact ih2 nd2.2 f hf1 e
        · rw [h.1] at e2
          exact List.mem_map.mpr ⟨f, hf1, by rw [e, ← Sum.inr.inj e2]⟩
def spTFiles (K : PySem.W.Frag) (C : Addr) : Sp := fun vs H Q _ => ∃ (p : Addr) (fs : List File), vs = [.ref p] ∧ TreeAt K C H p fs ∧ ∀ H' a ws, Same H H' → H a = none → H' a = some (.tup ws) → RowsAt K H' ws (srtF fs) → Q (.ref a) H'
section
variable {P : Program} {w : World} {K : PySem.W.Frag} {mg : Str → Option Value} {base : Heap}
theorem ok_tfiles {f C : Addr} {fd : FuncData} (F : Fun K "files" "Tree.files" sTFiles f fd) (T : Tx mg) (tc : TreeC K C) : FnOk P w K mg base CX0 1 f fd ["self"] (spTFiles K C) := by
  refine F.ok scTFiles (fun vs H Q E h => ?_) (fun cdv A outer s H vs Q E hr h => ?_)
  · obtain ⟨p, fs, rfl, _⟩ := h
    rfl
  · obtain ⟨p, fs, rfl, ⟨dx, d, hp, kvs, hd, pr, nd, hl⟩, q⟩ := h
    refine ⟨_, pss_one (ps_ret (pe_callTy (callTup (K := K) rfl) (by rfl) T.tuple (by decide +kernel) (pa_cons
      (pe_lc (own := [("path", 1)]) rfl scTFiles.nd (piL (K := K) rfl (pe_callB (call_sortedD rfl) (by rfl) T.sorted (by decide +kernel) (pa_cons (peF (K := K) rfl (pv 0)) pa_nil)))
        (blkOk_by (N := ["self", "path"]) (sc := defScope sTFiles) (by decide +kernel)) (fun _ _ _ _ _ => pg_name (i := 1) scTFiles.nd rfl (Or.inl rfl)) (fun _ _ _ _ _ => pts_nil)
        (fun _ _ _ _ _ => pe_tup (pa_cons (pv 1) (pa_cons (pe_dget (hu_of hr) (peF (K := K) rfl (pv 0)) (pv 1) (fun _ _ => rfl)) pa_nil)))) pa_nil))), ?_⟩
    refine ⟨_, rfl, p, C, dx, _, _, rfl, hp, tc.cl, tc.nt, rfl, d, kvs, fs.map (·.1), rfl, .inl hd, keys_of pr, by rw [List.length_map]; omega, fun ys l perm srt nl => ?_⟩
    have ey := sorted_is perm srt
    subst ey
    have s1 : Same H (upd H l (.lst (((srtF fs).map (·.1)).map V.str))) := same_upd nl
    refine ⟨l, rfl, ⟨_, sqL upd_same⟩, fun D nD => ?_⟩
    refine lc_rel (R := fun H f y => RowAt K H y f) (as := srtF fs) (p := fun _ => true) nD (same_walkL (sqL upd_same)) (by simp) (by simp [srtF_len]; omega) (fun st h => h.st st) (fun i c x hc hx H2 Rk Rn s2 k _ => ?_) fun H2 ws s2 e2 pr2 => ?_
    · have ec : c = V.str x.1 := by
        rw [List.map_map, List.getElem?_map, hx] at hc
        exact (Option.some.inj hc).symm
      subst ec
      refine ⟨by rfl, ?_⟩
      dsimp only [tYes]
      rw [if_pos rfl]
      obtain ⟨v, ev, lv⟩ := (val_of pr (x := x.1)).2 nd x ((srtF_perm fs).mem_iff.mp (List.mem_of_getElem? hx)) rfl
      have sa := s1.trans s2
      refine ⟨_, rfl, _, rfl, p, C, dx, _, _, rfl, sa _ _ hp, tc.cl, tc.nt, rfl, _, rfl, d, v, rfl, ?_, by show 2 ≤ sizeLine; decide, fun t nt => ?_⟩
      · rw [← ev]
        exact DGet.k (k := .inr x.1) (sa _ _ hd)
      · exact k _ _ rfl (same_upd nt) ⟨t, v, rfl, sqT upd_same, lv.st (sa.trans (same_upd nt)).t⟩
    · rw [filterY] at pr2
      refine ⟨D, ws, rfl, .inl ⟨sqL e2, fun r nr => ?_⟩⟩
      have sb : Same H (upd H2 r (.tup ws)) := (s1.trans s2).trans (same_upd nr)
      refine q _ r ws sb ?_ upd_same (RowsAt.st (paired_swap pr2) (same_upd nr).t)
      cases e3 : H r with
      | none => rfl
      | some o => rw [(s1.trans s2) _ _ e3] at nr; cases nr
end
end KX

set_option maxRecDepth 100000
set_option maxHeartbeats 4000000
namespace KX
open PySem PySem.Spec PyProof.Rows L2 TL Ga NdefX
/-- the lines of the file with this path -/
def getF : List File → Str → Option (List Str)
  | [], _ => none
  | f :: r, x => if f.1 = x then some f.2 else getF r x
/-- these lines, or none -/
def OptAt (K : PySem.W.Frag) (H : Hp) (v : V) : Option (List Str) → Prop
  | none => v = .non
  | some l => LinesAt K H v l
theorem get_of {K : PySem.W.Frag} {H : Hp} {x : Str} : ∀ {fs : List File} {kvs : List (Key × V)}, Paired (fun (f : File) (kv : Key × V) => kv.1 = .inr f.1 ∧ LinesAt K H kv.2 f.2) fs kvs → OptAt K H ((valV kvs (.inr x)).getD .non) (getF fs x)
  | _, _, .nil => rfl
  | _, _, .cons (a := g) (b := kv) h t => by
    unfold getF
    by_cases e : g.1 = x
    · rw [if_pos e, valV_pos (by rw [h.1, e])]
      exact h.2
    · rw [if_neg e, valV_neg (fun z => e (by rw [h.1] at z; exact Sum.inr.inj z))]
      exact get_of t
def spTLines (K : PySem.W.Frag) (C : Addr) : Sp := fun vs H Q _ => ∃ (p : Addr) (x : Str) (fs : List File), vs = [.ref p, .str x] ∧ TreeAt K C H p fs ∧ ∀ v, OptAt K H v (getF fs x) → Q v H
/-- the paths inside a place -/
def pathsIn (fs : List File) (place : Str) : List Str := ((srtF fs).map (·.1)).filter fun x => inside x place
def spTPaths (K : PySem.W.Frag) (C : Addr) : Sp := fun vs H Q _ => ∃ (p : Addr) (x : Str) (fs : List File), vs = [.ref p, .str x] ∧ TreeAt K C H p fs ∧ (tl x).length ≤ 1000 ∧ (∀ f ∈ fs, (tl f.1).length ≤ 1000) ∧
  ∀ H' a, Same H H' → H a = none → H' a = some (.tup ((pathsIn fs x).map V.str)) → Q (.ref a) H'
def isFolder (fs : List File) (place : Str) : Bool := decide (place = "") || decide (0 < (pathsIn fs place).length)
def spTIsFolder (K : PySem.W.Frag) (C : Addr) : Sp := fun vs H Q _ => ∃ (p : Addr) (x : Str) (fs : List File), vs = [.ref p, .str x] ∧ TreeAt K C H p fs ∧ (tl x).length ≤ 1000 ∧ (∀ f ∈ fs, (tl f.1).length ≤ 1000) ∧
  ∀ H', Same H H' → Q (.bl (isFolder fs x)) H'
def spTreeOf (K : PySem.W.Frag) (C : Addr) : Sp := fun vs H Q _ => ∃ (d : Addr) (fs : List File), vs = [.ref d] ∧ Tab K H d fs ∧ ∀ H' p, Same H H' → H p = none → TreeAt K C H' p fs → Q (.ref p) H'
theorem Tab.same {K : PySem.W.Frag} {H H' : Hp} {d : Addr} {fs : List File} (t : Tab K H d fs) (s : Same H H') : Tab K H' d fs := by
  obtain ⟨kvs, hd, pr, nd, hl⟩ := t
  exact ⟨kvs, s _ _ hd, pr.mono fun _ _ h => ⟨h.1, h.2.st s.t⟩, nd, hl⟩
theorem TreeAt.same {K : PySem.W.Frag} {C : Addr} {H H' : Hp} {p : Addr} {fs : List File} (t : TreeAt K C H p fs) (s : Same H H') : TreeAt K C H' p fs := by
  obtain ⟨dx, d, hp, t⟩ := t
  exact ⟨dx, d, s _ _ hp, t.same s⟩
section
variable {P : Program} {w : World} {K : PySem.W.Frag} {mg : Str → Option Value} {base : Heap}
theorem ok_tlines {f C : Addr} {fd : FuncData} (F : Fun K "lines" "Tree.lines" sTLines f fd) (T : Tx mg) (tc : TreeC K C) : FnOk P w K mg base CX0 1 f fd ["self", "path"] (spTLines K C) := by
  refine F.ok scTLines (fun vs H Q E h => ?_) (fun cdv A outer s H vs Q E hr h => ?_)
  · obtain ⟨p, x, fs, rfl, _⟩ := h
    rfl
  · obtain ⟨p, x, fs, rfl, ⟨dx, d, hp, kvs, hd, pr, nd, hl⟩, q⟩ := h
    refine ⟨_, pss_one (ps_ret (pe_dget1 (hu_of hr) (peF (K := K) rfl (pv 0)) (pv 1) ⟨rfl, rfl, rfl, rfl⟩)), ?_⟩
    exact ⟨_, rfl, p, C, dx, _, _, rfl, hp, tc.cl, tc.nt, rfl, d, rfl, .inl ⟨kvs, .inl hd⟩, _, rfl, valV kvs (.inr x), DGet.k (k := .inr x) hd, q _ (get_of pr)⟩
theorem ok_tpaths {f f1 C : Addr} {fd fd1 : FuncData} (F : Fun K "paths" "Tree.paths" sTPaths f fd) (T : Tx mg) (tc : TreeC K C) (G1 : FnOk P w K mg base CX0 1 f1 fd1 ["path", "place"] spInside)
    (g1 : mg "is_inside" = some (.ref f1)) (k1 : PySem.W.keepIn K (.ref f1) = true) (b1 : Binds K fd1 ["path", "place"] []) : FnOk P w K mg base CX0 2 f fd ["self", "place"] (spTPaths K C) := by
  refine F.ok scTPaths (fun vs H Q E h => ?_) (fun cdv A outer s H vs Q E hr h => ?_)
  · obtain ⟨p, x, fs, rfl, _⟩ := h
    rfl
  · obtain ⟨p, x, fs, rfl, ⟨dx, d, hp, kvs, hd, pr, nd, hl⟩, hx, hf, q⟩ := h
    refine ⟨_, pss_one (ps_ret (pe_callTy (callTup (K := K) rfl) (by rfl) T.tuple (by decide +kernel) (pa_cons
      (pe_lc (own := [("path", 2)]) rfl scTPaths.nd (piL (K := K) rfl (pe_callB (call_sortedD rfl) (by rfl) T.sorted (by decide +kernel) (pa_cons (peF (K := K) rfl (pv 0)) pa_nil)))
        (blkOk_by (N := ["self", "place", "path"]) (sc := defScope sTPaths) (by decide +kernel)) (fun _ _ _ _ _ => pg_name (i := 2) scTPaths.nd rfl (Or.inl rfl))
        (fun _ _ _ _ _ => pts_one (pt_val (pe_call G1 hr (by rfl) g1 k1 b1 .nil pass0 (pa_cons (pv 2) (pa_cons (pv 1) pa_nil)))))
        (fun _ _ _ _ _ => pv 2)) pa_nil))), ?_⟩
    refine ⟨_, rfl, p, C, dx, _, _, rfl, hp, tc.cl, tc.nt, rfl, d, kvs, fs.map (·.1), rfl, .inl hd, keys_of pr, by rw [List.length_map]; omega, fun ys l perm srt nl => ?_⟩
    have ey := sorted_is perm srt
    subst ey
    have s1 : Same H (upd H l (.lst (((srtF fs).map (·.1)).map V.str))) := same_upd nl
    refine ⟨l, rfl, ⟨_, sqL upd_same⟩, fun D nD => ?_⟩
    refine lc_rel (R := fun H z y => y = V.str z) (as := (srtF fs).map (·.1)) (p := fun z => inside z x) nD (same_walkL (sqL upd_same)) (by simp) (by simp [srtF_len]; omega) (fun st h => h) (fun i c z hc hz H2 Rk Rn s2 k1 k2 => ?_) fun H2 ws s2 e2 pr2 => ?_
    · have ec : c = V.str z := by
        rw [List.getElem?_map, hz] at hc
        exact (Option.some.inj hc).symm
      subst ec
      refine ⟨by rfl, ?_⟩
      have hz2 : (tl z).length ≤ 1000 := by
        obtain ⟨g, hg, rfl⟩ := List.mem_map.mp (List.mem_of_getElem? hz)
        exact hf g ((srtF_perm fs).mem_iff.mp hg)
      refine ⟨_, rfl, _, rfl, z, x, rfl, hz2, hx, fun H3 s3 => ⟨_, rfl, ite2 (fun e => ?_) (fun e => ?_)⟩⟩
      · exact ⟨_, rfl, k1 _ H3 e s3 rfl⟩
      · exact k2 H3 (Bool.eq_false_iff.mpr e) s3
    · refine ⟨D, ws, rfl, .inl ⟨sqL e2, fun r nr => ?_⟩⟩
      have sb : Same H (upd H2 r (.tup ws)) := (s1.trans s2).trans (same_upd nr)
      refine q _ r sb (same_at (s1.trans s2) nr) ?_
      rw [upd_same, paired_map pr2]
      rfl
theorem ok_tisfolder {f f1 C : Addr} {fd fd1 : FuncData} (F : Fun K "is_folder" "Tree.is_folder" sTIsFolder f fd) (T : Tx mg) (tc : TreeC K C) (G1 : FnOk P w K mg base CX0 2 f1 fd1 ["self", "place"] (spTPaths K C))
    (m1 : Meth K C "paths" f1) (b1 : Binds K fd1 ["self", "place"] []) : FnOk P w K mg base CX0 3 f fd ["self", "place"] (spTIsFolder K C) := by
  refine F.ok scTIsFolder (fun vs H Q E h => ?_) (fun cdv A outer s H vs Q E hr h => ?_)
  · obtain ⟨p, x, fs, rfl, _⟩ := h
    rfl
  · obtain ⟨p, x, fs, rfl, t, hx, hf, q⟩ := h
    obtain ⟨dx, d, hp, tb⟩ := id t
    refine ⟨_, pss_one (ps_ret (pe_or (pe_cmpR op_eq (pv 1) pe_str (nomark _)) (pe_one (pe_cmpR op_gt (pe_callB call_len_seq (by rfl) T.len PySem.boot_len (pa_cons
      (pe_meth (pv 0) tc.cl m1 G1 hr b1 .nil pass0 (pa_cons (pv 1) pa_nil)) pa_nil)) pe_int (nomark _))))), ?_⟩
    refine ⟨_, rfl, rfl, _, rfl, ite2 (fun e => ?_) (fun e => ?_)⟩
    · have r := q H (.refl _)
      rw [isFolder, decide_eq_true (V.str.inj (of_decide_eq_true e)), Bool.true_or] at r
      exact r
    · refine ⟨_, rfl, p, dx, _, rfl, hp, rfl, _, rfl, p, x, fs, rfl, t, hx, hf, fun H' a s nA eA => ⟨a, _, rfl, .inr (sqT eA), _, _, rfl, rfl, ?_⟩⟩
      have r := q H' s
      rw [isFolder, decide_eq_false (fun z => e (by rw [z]; exact decide_eq_true rfl)), Bool.false_or] at r
      rw [List.length_map]
      have : decide ((0 : Int) < ((pathsIn fs x).length : Int)) = decide (0 < (pathsIn fs x).length) := decide_eq_decide.mpr (by omega)
      rw [← this] at r
      exact r
theorem ok_treeof {f f1 C Co fo : Addr} {fd fd1 fdo : FuncData} {e0 : Addr} {ds : List Value} (F : Fun K "tree_of" "tree_of" sTreeOf f fd) (T : Tx mg) (tc : TreeC K C) (M : Mk K C f1) (G1 : FnOk P w K mg base (L2.CX P w) 5 f1 fd1 ["self", "files"] (spInit K C Co))
    (g1 : mg "Tree" = some (.ref C)) (b1 : Binds K fd1 ["self", "files"] ds) (d1 : Vals [V.ref e0] ds) (he : ∀ H : Hp, SqT K H e0 []) : FnOk P w K mg base CX0 7 f fd ["table"] (spTreeOf K C) := by
  refine F.ok scTreeOf (fun vs H Q E h => ?_) (fun cdv A outer s H vs Q E hr h => ?_)
  · obtain ⟨d, fs, rfl, _⟩ := h
    rfl
  · obtain ⟨d, fs, rfl, tb, q⟩ := h
    refine ⟨_, pss_cons (ps_set (i := 1) scTreeOf.nd rfl (.inl rfl) (pe_make0 M G1 hr (by rfl) g1 b1 d1 passF))
      (pss_cons (ps_fld (pv 1) (pv 0) rfl) (pss_one (ps_ret (pv 1)))), ?_⟩
    intro x dx nx ndx nex
    refine ⟨x, dx, .ref e0, [], rfl, upd_same, ⟨e0, [], rfl, .inr (he _), .nil⟩, ⟨by decide, fun f h => nomatch h⟩, fun _ H' kp t => ⟨rfl, ?_⟩, fun z => ?_⟩
    · obtain ⟨dx2, d2, hx, tb2⟩ := t
      have s0 : Same H H' := fun b o e => by
        refine kp b o (ne_of_none e nx) ?_
        rw [upd_ne (ne_of_none e nx), upd_ne (ne_of_none e ndx)]
        exact e
      refine ⟨_, rfl, _, rfl, x, C, dx2, _, rfl, hx, tc.cl, tc.nt, by show 1 < 1000; decide, _, rfl, ?_⟩
      have s2 : Same H (upd H' x (.ins C dx2 [("_table", .ref d)])) := s0.mut nx
      exact q _ x s2 nx ⟨dx2, d, upd_same, tb.same s2⟩
    · exact absurd z (by decide +kernel)
end
end KX

set_option maxRecDepth 100000
set_option maxHeartbeats 4000000
namespace KX
open PySem PySem.Spec PyProof.Rows L2 TL Ga NdefX
/-! ### two tables compared -/
def sameB (fs gs : List File) : Bool := (fs.length == gs.length) && fs.all fun f => decide (getF gs f.1 = some f.2)
abbrev relF (K : PySem.W.Frag) (H : Hp) : File → Key × V → Prop := fun f kv => kv.1 = .inr f.1 ∧ LinesAt K H kv.2 f.2
def okLs (fs : List File) : Prop := ∀ f ∈ fs, ∀ z ∈ f.2, PyData.strOk z = true
theorem eqv_strs : ∀ l m : List Str, PyData.eqvAll (l.map PyData.str) (m.map PyData.str) = decide (l = m)
  | [], [] => rfl
  | [], _ :: _ => rfl
  | _ :: _, [] => rfl
  | x :: l, y :: m => by
    show (x == y && PyData.eqvAll (l.map PyData.str) (m.map PyData.str)) = decide (x :: l = y :: m)
    rw [eqv_strs l m]
    by_cases h1 : x = y
    · subst h1
      by_cases h2 : l = m
      · subst h2
        simp
      · simp [h2]
    · simp [h1]
theorem val_opt {K : PySem.W.Frag} {H : Hp} {x : Str} : ∀ {gs : List File} {kvs : List (Key × V)}, Paired (relF K H) gs kvs → (getF gs x = none ∧ valV kvs (.inr x) = none) ∨ ∃ l v, getF gs x = some l ∧ valV kvs (.inr x) = some v ∧ LinesAt K H v l
  | _, _, .nil => .inl ⟨rfl, rfl⟩
  | _, _, .cons (a := g) (b := kv) h t => by
    unfold getF
    by_cases e : g.1 = x
    · exact .inr ⟨g.2, kv.2, if_pos e, valV_pos (by rw [h.1, e]), h.2⟩
    · rw [if_neg e, valV_neg (fun z => e (by rw [h.1] at z; exact Sum.inr.inj z))]
      exact val_opt t
theorem getF_mem {x : Str} : ∀ {gs : List File} {l : List Str}, getF gs x = some l → (x, l) ∈ gs
  | [], _, h => by cases h
  | g :: r, l, h => by
    unfold getF at h
    by_cases e : g.1 = x
    · rw [if_pos e] at h
      cases h
      rw [← e]
      exact List.mem_cons_self
    · rw [if_neg e] at h
      exact List.mem_cons_of_mem _ (getF_mem h)
section
variable {X : Cx} {K : PySem.W.Frag}
def rEqTab (K : PySem.W.Frag) : R2 := fun x y H Q => ∃ (a b : Addr) (ks ls : List (Key × V)) (fs gs : List File), x = .ref a ∧ y = .ref b ∧ H a = some (.dK ks) ∧ H b = some (.dK ls) ∧ Paired (relF K H) fs ks ∧ Paired (relF K H) gs ls ∧
  okLs fs ∧ okLs gs ∧ Q (.bl (sameB fs gs)) H
theorem hits_tab {pins : List (Addr × Obj)} {σ : L2.St} {H : Hp} {s : Shared} (I : Inv X pins σ H s) {A : Around} (hu : A.units + 8 < cLine) {gs : List File} {ls : List (Key × V)} {vb : List (Key × Value)} (rb : KV ls vb) (pg : Paired (relF X.K H) gs ls) (og : okLs gs) :
    ∀ {fs : List File} {ks : List (Key × V)} {va : List (Key × Value)}, KV ks va → Paired (relF X.K H) fs ks → okLs fs → PySem.W.KeqHitsP X.prog X.w A s vb va (fs.all fun f => decide (getF gs f.1 = some f.2))
  | _, _, _, .nil, .nil, _ => .nil
  | f :: fs, _, _, .cons (a := kv) (b := q) h t, .cons h2 t2, ok => by
    have ih := hits_tab I hu rb pg og t t2 fun g hg => ok g (List.mem_cons_of_mem _ hg)
    obtain ⟨key, v⟩ := q
    obtain ⟨e1, rv⟩ := h
    have e1' : kv.1 = key := e1
    rw [List.all_cons]
    have rr := rb.val (.inr f.1)
    rw [← e1', h2.1]
    rcases val_opt pg (x := f.1) with ⟨g1, g2⟩ | ⟨l, u, g1, g2, lu⟩
    · rw [g2] at rr
      rw [g1, decide_eq_false (by intro z; cases z), Bool.false_and]
      refine .miss ?_
      cases e : valueAt vb (.inr f.1) with
      | none => rfl
      | some z => rw [e] at rr; exact rr.elim
    · rw [g2] at rr
      obtain ⟨y, hy, ry⟩ := rr.some_of
      refine .hit hy ?_ ih
      obtain ⟨as, r1⟩ := Dp.reads I _ _ _ h2.2.dp rv
      obtain ⟨bs, r2⟩ := Dp.reads I _ _ _ lu.dp ry
      have c1 : (dL f.2).canLay0 = true := canAll _ (ok f List.mem_cons_self)
      have c2 : (dL l).canLay0 = true := canAll _ (og _ (getF_mem g1))
      have d1 : (dL f.2).depth = 1 := by
        show PyData.depthAll (f.2.map PyData.str) + 1 = 1
        rw [depthAll0]
      have := SeqAt.EqAt.eqP (prog := X.prog) (w := X.w) (SeqAt.eqAt_reads (dL f.2) (dL l) A s v y as bs r1 r2 c1 c2 (by rw [d1]; omega))
      have e3 : PyData.eqv (dL f.2) (dL l) = decide (getF gs f.1 = some f.2) := by
        rw [g1]
        show PyData.eqvAll _ _ = _
        rw [eqv_strs]
        exact decide_eq_decide.mpr ⟨fun z => by rw [z], fun z => (Option.some.inj z).symm⟩
      rw [e3] at this
      exact this
theorem op_eqTab (hu : X.A.units + 64 < cLine) (h : X.K = K) : OpR X (compareOp .Eq) (rEqTab K) := by
  subst h
  intro pins s σ H x y v u Q I rx ry h
  obtain ⟨a, b, ks, ls, fs, gs, rfl, rfl, ea, eb, pf, pg, of, og, q⟩ := h
  obtain rfl : v = Value.ref a := rx
  obtain rfl : u = Value.ref b := ry
  obtain ⟨_, ya, va, ra, da⟩ := dk_of I.hok ea
  obtain ⟨_, yb, vb, rb, db⟩ := dk_of I.hok eb
  refine PySem.W.rcP_dicts ya yb da db (by omega) (fun _ => hits_tab I (by show X.A.units + 1 + 8 < cLine; omega) rb pg og ra pf of) _ _ ⟨.bl (sameB fs gs), H, I, ?_, q⟩
  show Value.bool _ = Value.bool _
  rw [sameB, ← ra.length, ← rb.length, ← pf.length, ← pg.length]
end
end KX

set_option maxRecDepth 100000
set_option maxHeartbeats 4000000
namespace KX
open PySem PySem.Spec PyProof.Rows L2 TL Ga NdefX
theorem ne_str {x y : Str} (h : x ≠ y) : (!decide (V.str x = V.str y)) = true := by
  rw [decide_eq_false fun z => h (V.str.inj z)]
  rfl
/-- with this file, in place of one with this path -/
def putFs (fs : List File) (x : Str) (l : List Str) : List File := if (fs.any fun f => decide (f.1 = x)) = true then fs.map (fun f => if f.1 = x then (f.1, l) else f) else fs ++ [(x, l)]
def dropFs (fs : List File) (x : Str) : List File := fs.filter fun f => decide (f.1 ≠ x)
theorem put_rel {K : PySem.W.Frag} {H : Hp} {x : Str} {v : V} {l : List Str} (hv : LinesAt K H v l) : ∀ {fs : List File} {kvs : List (Key × V)}, Paired (relF K H) fs kvs →
    (fs.any fun f => decide (f.1 = x)) = (kvs.any fun kv => decide (kv.1 = .inr x)) ∧ Paired (relF K H) (fs.map (fun f => if f.1 = x then (f.1, l) else f)) (kvs.map fun kv => if kv.1 = .inr x then (kv.1, v) else kv)
  | _, _, .nil => ⟨rfl, .nil⟩
  | _, _, .cons (a := g) (b := kv) h t => by
    obtain ⟨i1, i2⟩ := put_rel hv t
    have e : (g.1 = x) ↔ (kv.1 = (Sum.inr x : Key)) := by
      rw [h.1]
      exact ⟨fun z => by rw [z], fun z => Sum.inr.inj z⟩
    refine ⟨by rw [List.any_cons, List.any_cons, i1, decide_eq_decide.mpr e], ?_⟩
    rw [List.map_cons, List.map_cons]
    refine .cons ?_ i2
    by_cases q : g.1 = x
    · rw [if_pos q, if_pos (e.mp q)]
      exact ⟨h.1, hv⟩
    · rw [if_neg q, if_neg (fun z => q (e.mpr z))]
      exact h
theorem put_tab {K : PySem.W.Frag} {H : Hp} {x : Str} {v : V} {l : List Str} (hv : LinesAt K H v l) {fs : List File} {kvs : List (Key × V)} (pr : Paired (relF K H) fs kvs) : Paired (relF K H) (putFs fs x l) (putK kvs (.inr x) v) := by
  obtain ⟨e, p⟩ := put_rel (x := x) hv pr
  unfold putFs putK
  rw [e]
  split
  · exact p
  · exact pr.snoc ⟨rfl, hv⟩
theorem put_paths (fs : List File) (x : Str) (l : List Str) : (putFs fs x l).map (·.1) = if (fs.any fun f => decide (f.1 = x)) = true then fs.map (·.1) else fs.map (·.1) ++ [x] := by
  unfold putFs
  split
  · rw [List.map_map]
    refine List.map_congr_left fun f _ => ?_
    show (if f.1 = x then (f.1, l) else f).1 = f.1
    split <;> rfl
  · rw [List.map_append]
    rfl
theorem put_nodup {fs : List File} {x : Str} {l : List Str} (h : (fs.map (·.1)).Nodup) : ((putFs fs x l).map (·.1)).Nodup := by
  rw [put_paths]
  split
  · exact h
  · rename_i n
    refine List.nodup_append.mpr ⟨h, by simp, fun a ha b hb e => n ?_⟩
    obtain rfl := List.mem_singleton.mp hb
    obtain ⟨f, hf, e2⟩ := List.mem_map.mp ha
    exact List.any_eq_true.mpr ⟨f, hf, decide_eq_true (e2.trans e)⟩
theorem put_len (fs : List File) (x : Str) (l : List Str) : (putFs fs x l).length ≤ fs.length + 1 := by
  unfold putFs
  split
  · simp
  · simp
def spTWith (K : PySem.W.Frag) (C : Addr) : Sp := fun vs H Q _ => ∃ (p : Addr) (x : Str) (v : V) (l : List Str) (fs : List File), vs = [.ref p, .str x, v] ∧ TreeAt K C H p fs ∧ LinesAt K H v l ∧ fs.length < 40 ∧
  ∀ H' p', Same H H' → H p' = none → TreeAt K C H' p' (putFs fs x l) → Q (.ref p') H'
def spTWithout (K : PySem.W.Frag) (C : Addr) : Sp := fun vs H Q _ => ∃ (p : Addr) (x : Str) (fs : List File), vs = [.ref p, .str x] ∧ TreeAt K C H p fs ∧
  ∀ H' p', Same H H' → H p' = none → TreeAt K C H' p' (dropFs fs x) → Q (.ref p') H'
section
variable {P : Program} {w : World} {K : PySem.W.Frag} {mg : Str → Option Value} {base : Heap}
theorem ok_twith {f f1 C : Addr} {fd fd1 : FuncData} (F : Fun K "with_file" "Tree.with_file" sTWith f fd) (T : Tx mg) (tc : TreeC K C) (G1 : FnOk P w K mg base CX0 7 f1 fd1 ["table"] (spTreeOf K C))
    (g1 : mg "tree_of" = some (.ref f1)) (k1 : PySem.W.keepIn K (.ref f1) = true) (b1 : Binds K fd1 ["table"] []) : FnOk P w K mg base CX0 8 f fd ["self", "path", "lines"] (spTWith K C) := by
  refine F.ok scTWith (fun vs H Q E h => ?_) (fun cdv A outer s H vs Q E hr h => ?_)
  · obtain ⟨p, x, v, l, fs, rfl, _⟩ := h
    rfl
  · obtain ⟨p, x, v, l, fs, rfl, ⟨dx, d, hp, kvs, hd, pr, nd, hl⟩, hv, hlt, q⟩ := h
    refine ⟨_, pss_cons (ps_set (i := 3) scTWith.nd rfl (.inl rfl) (pe_callTy call_dictD (by rfl) T.dict (by decide +kernel) (pa_cons (peF (K := K) rfl (pv 0)) pa_nil)))
      (pss_cons (ps_dput (hu_of hr) (pv 3) (pv 1) (pe_callTy (callTup (K := K) rfl) (by rfl) T.tuple (by decide +kernel) (pa_cons (pv 2) pa_nil)) rfl)
      (pss_one (ps_ret (pe_call G1 hr (by rfl) g1 k1 b1 .nil pass0 (pa_cons (pv 3) pa_nil))))), ?_⟩
    obtain ⟨b, rfl, hb⟩ := id hv
    refine ⟨_, rfl, p, C, dx, _, _, rfl, hp, tc.cl, tc.nt, rfl, d, kvs, rfl, .inl hd, fun t nt => ?_⟩
    have s1 : Same H (upd H t (.dK kvs)) := same_upd nt
    have kl : kvs.length = fs.length := pr.length.symm
    refine ⟨_, rfl, b, _, rfl, .inr ⟨s1.seqT hb, ?_⟩⟩
    refine ⟨_, rfl, _, rfl, t, _, rfl, DPut.k (k := .inr x) upd_same (Nat.lt_of_le_of_lt (show kvs.length ≤ 40 by omega) (by decide)), ?_⟩
    have s2 : Same H (upd (upd H t (.dK kvs)) t (.dK (putK kvs (.inr x) (.ref b)))) := s1.mut nt
    refine ⟨_, rfl, t, putFs fs x l, rfl, ⟨_, upd_same, put_tab (hv.st s2.t) (pr.mono fun _ _ h => ⟨h.1, h.2.st s2.t⟩), put_nodup nd, by have := put_len fs x l; omega⟩, fun H' p' s3 np tr => ?_⟩
    exact q H' p' (s2.trans s3) (same_at s2 np) tr
theorem ok_twithout {f f1 C : Addr} {fd fd1 : FuncData} (F : Fun K "without" "Tree.without" sTWithout f fd) (T : Tx mg) (tc : TreeC K C) (G1 : FnOk P w K mg base CX0 7 f1 fd1 ["table"] (spTreeOf K C))
    (g1 : mg "tree_of" = some (.ref f1)) (k1 : PySem.W.keepIn K (.ref f1) = true) (b1 : Binds K fd1 ["table"] []) : FnOk P w K mg base CX0 8 f fd ["self", "path"] (spTWithout K C) := by
  refine F.ok scTWithout (fun vs H Q E h => ?_) (fun cdv A outer s H vs Q E hr h => ?_)
  · obtain ⟨p, x, fs, rfl, _⟩ := h
    rfl
  · obtain ⟨p, x, fs, rfl, ⟨dx, d, hp, kvs, hd, pr, nd, hl⟩, q⟩ := h
    refine ⟨_, pss_one (ps_ret (pe_call G1 hr (by rfl) g1 k1 b1 .nil pass0 (pa_cons (pe_lock
      (pe_dc (own := [("kept", 2)]) rfl scTWithout.nd (pi_keys (peF (K := K) rfl (pv 0))) (blkOk_by (N := ["self", "path", "kept"]) (sc := defScope sTWithout) (by decide +kernel))
        (fun _ _ _ _ _ => pg_name (i := 2) scTWithout.nd rfl (Or.inl rfl)) (fun _ _ _ _ _ => pts_one (pt_cmpR op_ne (pv 2) (pv 1) (nomark _)))
        (fun _ _ _ _ _ => pv 2) (fun _ _ _ _ _ => pe_dget (hu_of hr) (peF (K := K) rfl (pv 0)) (pv 2) (fun _ _ => rfl)))) pa_nil))), ?_⟩
    refine ⟨d, _, hd, trivial, fun od => ?_⟩
    have np : p ≠ d := fun z => by rw [z, hd] at hp; cases hp
    have hp2 : (upd H d (.frz od (.dK kvs))) p = some (.ins C dx [("_table", .ref d)]) := by rw [upd_ne np]; exact hp
    have stL : SameT H (upd H d (.frz od (.dK kvs))) := .put hd rfl
    refine ⟨_, rfl, p, C, dx, _, _, rfl, hp2, tc.cl, tc.nt, rfl, d, od, rfl, .inl ⟨kvs, upd_same, fun D nD => ?_⟩⟩
    refine dc_rel (R := relF K) (as := fs) (p := fun f => decide (f.1 ≠ x)) nD (same_walkK upd_same) (by rw [List.length_map]; exact pr.length.symm) (by rw [List.length_map, ← pr.length]; omega) (fun st h => ⟨h.1, h.2.st st⟩) (fun f => .inr f.1) (fun h => h.1) ?_ (fun i c f hc hf H2 Rk Rn s2 k1 k2 => ?_) fun H2 ys s2 e2 pr2 => ?_
    · have n1 := nd_inr nd
      rw [List.map_map] at n1
      exact n1.sublist (List.Sublist.map _ List.filter_sublist)
    · rw [List.getElem?_map] at hc
      obtain ⟨kv, hkv, rk⟩ := paired_get pr i f hf
      rw [hkv] at hc
      have ec : c = V.str f.1 := by
        have : kV kv.1 = c := Option.some.inj hc
        rw [← this, rk.1]
        rfl
      subst ec
      refine ⟨by rfl, ?_⟩
      refine ⟨_, rfl, _, rfl, rfl, _, rfl, ite2 (fun e => ?_) (fun e => ?_)⟩
      · obtain ⟨v, ev, lv⟩ := (val_of pr (x := f.1)).2 nd f (List.mem_of_getElem? hf) rfl
        refine ⟨_, rfl, _, rfl, p, C, dx, _, _, rfl, s2 _ _ hp2, tc.cl, tc.nt, rfl, _, rfl, d, v, rfl, .inl ⟨kvs, .inr f.1, .inr ⟨od, s2 _ _ upd_same⟩, rfl, ev.symm⟩, ?_⟩
        refine k1 (.inr f.1, v) H2 ?_ (.refl _) ⟨rfl, lv.st (stL.trans s2.t)⟩
        exact decide_eq_true fun z => by
          rw [z] at e
          exact absurd e (by simp)
      · refine k2 H2 ?_ (.refl _)
        refine decide_eq_false fun z => e ?_
        exact ne_str z
    · have nDd : D ≠ d := fun z => by rw [z, upd_same] at nD; cases nD
      have f2 : H2 d = some (.frz od (.dK kvs)) := s2 _ _ upd_same
      refine ⟨f2, D, dropFs fs x, rfl, ⟨ys, by rw [upd_ne nDd]; exact e2, ?_, ?_, ?_⟩, fun H' p' s3 np' tr => ?_⟩
      · exact pr2.mono fun _ _ h => ⟨h.1, h.2.st (.put f2 rfl)⟩
      · exact nd.sublist (List.Sublist.map _ List.filter_sublist)
      · exact Nat.le_trans (List.length_filter_le _ _) hl
      · have s4 : Same H (upd H2 d (.dK kvs)) := unlock s2 hd
        exact q H' p' (s4.trans s3) (same_at s4 np') tr
end
end KX

set_option maxRecDepth 100000
set_option maxHeartbeats 4000000
/-! G1: word, *items = a tuple; a local name called with what a list holds. -/
namespace Ga
open PySem PySem.Spec PyProof.Rows L2 TL
/-- (x, *y) = a tuple: the head, and a new list of the rest -/
def gHead (K : PySem.W.Frag) (t : TGs) : TG := fun v σ H Q => ∃ a x xs, v = .ref a ∧ SqT K H a (x :: xs) ∧ xs.length ≤ 1000 ∧ ∀ D, H D = none → t [x, .ref D] σ (upd H D (.lst xs)) Q
/-- the targets without their stars -/
def bare : List Expr → List Expr
  | [] => []
  | .Starred e _ :: r => e :: bare r
  | e :: r => e :: bare r
theorem pg_head {X : Cx} {K : PySem.W.Frag} (hK : X.K = K) {es : List Expr} {k : Nat} {t : TGs} {pos : Pos} (hc : X.calm = true) (h : PGs X (bare es) t) (hm : (assignEach es X.env).map (·.2) = (assignEach (bare es) X.env).map (·.2) := by rfl)
    (hn : (assignEach es X.env).length = 2 := by rfl) (hst : (assignEach es X.env).findIdx? (·.1) = some 1 := by rfl) : PG X (.Tuple es k pos) (gHead K t) := by
  subst hK
  refine ⟨fun pins s σ H v u Q I r hw => ?_⟩
  obtain ⟨a, x, xs, rfl, hq, hl, hw⟩ := hw
  obtain rfl : u = Value.ref a := r
  obtain ⟨its, rv, ht, hz⟩ := I.tuple hq
  obtain ⟨u1, us, rfl, r1, r2⟩ : ∃ u1 us, its = u1 :: us ∧ RelV x u1 ∧ Vals xs us := by
    cases rv with
    | cons a b => exact ⟨_, _, rfl, a, b⟩
  have hh : X.A.handled = none := I.ok.hd hc
  have tup : PyProof.Rows.IsTup s.heap a (u1 :: us).toArray := ht
  have hul : us.length = xs.length := r2.length.symm
  have ne : a ≠ s.heap.objs.size := by
    obtain ⟨o, ho, _⟩ := ht
    exact Nat.ne_of_lt (Heap.lt_size ho)
  rw [PyProof.Rows.assign_Tuple]
  refine wpAny_bind (wpAny_standAt ?_)
  unfold unpack
  rw [hn, hst]
  refine wpAny_bind (wpAny_holding ?_)
  unfold unpackItems notIterableAtAll
  refine wpAny_bind (wpAny_bind (wpAny_specialOf tup.typeIs PyProof.Rows.slot_tuple_iter.lookup (wpAny_pure ?_)))
  rw [if_neg (by simp)]
  refine wpAny_bind (wpAny_holding (PyProof.Rows.iter_tuple tup ?_))
  refine wpAny_bind (wpAny_holding (PyProof.Rows.draw_tuple ne 1 0 _ _ ⟨_, Heap.get?_push_size _ rfl, rfl, rfl⟩ (tup.push _) (by simp) fun h1 it1 sb1 => ?_))
  have t1 : PyProof.Rows.IsTup h1 a (u1 :: us).toArray := (tup.push _).extBut sb1.extBut ne
  obtain ⟨oi, hoi, _⟩ := id it1
  obtain ⟨ot, hot, _⟩ := id t1
  show wpAny _ _ (if ([u1] : List Value).length < 1 then _ else _) _ _ _
  rw [if_neg (by simp)]
  refine wpAny_bind (wpAny_holding (PySem.W.kun_collect (s := { s with heap := h1 }) (T := "tuple_iterator") (.inr (.inr (.inr rfl))) (Walks.tuple (A := X.A.in1) hh s.heap.objs.size a ne (u1 :: us).toArray) (fun j u st => st.1.typeIs) (k := 1) (by simp) ⟨it1, t1⟩
    (Heap.lt_size hoi) (Heap.lt_size hot) (fun h2 tk hk => ?_) (by simp; rw [sizeLine_eq]; omega)))
  have he : ∀ b o, s.heap.get? b = some o → h2.get? b = some o := fun b o e => hk b o (Nat.ne_of_lt (Heap.lt_size e)) (sb1.extBut b o (Nat.ne_of_lt (Heap.lt_size e)) (Heap.get?_push_of_some _ e))
  show wpAny _ _ (if us.length < 0 then _ else _) _ _ _
  rw [if_neg (by simp)]
  show wpAny _ _ (newList (us.take (us.length - 0)) >>= fun d => pure ([u1] ++ [d] ++ us.drop (us.length - 0))) _ _ _
  rw [Nat.sub_zero, List.take_length, List.drop_length]
  have I2 : Inv X pins σ H { s with heap := h2, toks := tk } := I.kept he
  have hus : us.length ≤ sizeLine := by rw [hul]; exact Nat.le_trans hl (by decide)
  refine wpAny_bind (wpAny_newList (wpAny_pure ?_) hus)
  have new : ObjOk X.prog X.w (upd H h2.objs.size (.lst xs)) (h2.push (seqObj "list" us.toArray 0)) h2.objs.size (.lst xs) := ⟨by omega, us, 0, r2, Heap.get?_push_size _ rfl⟩
  have I3 : Inv X pins σ (upd H h2.objs.size (.lst xs)) { s with heap := h2.push (seqObj "list" us.toArray 0), toks := tk } :=
    I2.laid (t' := tk) (fun b o e => Heap.get?_push_of_some _ e) (Nat.le_refl _) new
  rw [hm]
  exact h.run pins _ σ _ [x, .ref h2.objs.size] [u1, .ref h2.objs.size] Q I3 (.cons r1 (.cons rfl .nil)) (hw _ (I2.hok.fresh (Nat.le_refl _)))
/-- a def that a slot may hold, of the promise sp -/
def tCallV (i : Nat) (Rl : Addr → Sp → Prop) (E : XK) (t : TA) : TE := fun σ H Q => ∃ f sp, σ[i]? = some (some (.ref f)) ∧ Rl f sp ∧ t σ H fun vs H1 => sp vs H1 Q E
section
variable {X : Cx} {CX : CXT} {k i : Nat} {x : Str} {p pos : Pos} {e : Expr} {es : List Expr} {t : TA} {E : XK}
/-- x(e, *y), x a local name -/
theorem pe_callV {Rl : Addr → Sp → Prop} (hR : ∀ f sp, Rl f sp → FnR X.prog X.w X.K X.mg X.base CX k f sp ∧ PySem.W.keepIn X.K (.ref f) = true) (hr : Room k X.A) (hN : X.N[i]? = some x) (hv : Vis X.env.scope x) (hx : Passes CX X E) (ha : PA X (e :: es) t)
    (hdb : (x == ("__debug__" : Str)) = false := by decide) (hcd : (x == ("__classdict__" : Str)) = false := by decide) (he : starEach (e :: es) X.env = (false, eval e X.env) :: starEach es X.env := by rfl) (hst : (backTo pos (starEach es X.env)).any (·.1) = true := by rfl) :
    PE X (.Call (.Name x p) (e :: es) [] pos) (tCallV i Rl E t) := by
  refine ⟨fun pins s σ H Q I h => ?_⟩
  obtain ⟨f, sp, hs, hf, ht⟩ := h
  obtain ⟨F, hk⟩ := hR f sp hf
  refine wpAny_Call_Name_kw (thn ((pe_var (pos := p) hN hv hdb hcd).run pins s σ H (fun v H1 => v = .ref f ∧ H1 = H) I ⟨.ref f, hs, rfl, rfl⟩) fun u s1 ⟨v, H1, I1, r1, q1⟩ => ?_)
  obtain ⟨rfl, rfl⟩ := q1
  obtain rfl : u = Value.ref f := r1
  refine PySem.W.callWith_S2 (h₀ := X.base) I.ok.mod.kin hk (thn (ha.run pos pins s1 σ _ _ I1 ht) fun us s2 ⟨vs, H2, I2, r, q⟩ => ⟨I2.kIn, ?_⟩) he hst
  exact wpAny_call (run_fnR F hr hx I2 r q)
end
end Ga

set_option maxRecDepth 100000
set_option maxHeartbeats 4000000
/-! G2: enumerate of a tuple. -/
namespace Ga
open PySem PySem.Spec PyProof.Rows L2 TL
/-- the tuple at a, each item in a new pair with its index -/
def IteT (K : PySem.W.Frag) (a : Addr) : It :=
  ⟨fun i H => ∃ (ys : List V) (y : V), SqT K H a ys ∧ ys[i]? = some y, fun i H v H' => ∃ T y, v = .ref T ∧ H T = none ∧ H' = upd H T (.tup [.int (i : Nat), y]) ∧ ∀ ys, SqT K H a ys → ys[i]? = some y, fun i H => ∃ ys : List V, SqT K H a ys ∧ ys.length ≤ i⟩
theorem drawsT {prog : Program} {w : World} {A : Around} (calm : A.handled = none) (it l : Addr) (apart : l ≠ it) (its : Array Value) :
    Draws prog w A it [it, l] its.size (fun i v => its[i]? = some v) (fun i h => h.IsTupleIter it l i ∧ h.IsTuple l its) where
  live := fun _ _ st => by
    obtain ⟨⟨o, ho, _⟩, _⟩ := st
    exact ⟨o, ho⟩
  frame := fun i h h' st k => ⟨st.1.at fun o e => k it (by simp) o e, st.2.at fun o e => k l (by simp) o e⟩
  item := fun i s Q E lt st q => by
    refine wpAny_nextOf_tuple_item st.1 st.2 (x := its[i]) (by simp [lt]) fun h1 it1 sb => ?_
    exact q its[i] h1 s.toks (by simp [lt]) ⟨it1, st.2.extBut sb.extBut apart⟩ sb
  done := fun s Q E st q => wpAny_nextOf_tuple_end calm st.1 st.2 (by simp) q
section
variable {prog : Program} {w : World} {A : Around} {E : Value → Shared → Prop} {s : Shared}
theorem enumT_end {e it a : Addr} {i : Nat} {its : Array Value} {old : Value} {Q : Option Value → Shared → Prop} (calm : A.handled = none) (g : IsEnum s.heap e it i old) (t : s.heap.IsTupleIter it a i) (tp : s.heap.IsTuple a its) (out : its[i]? = none)
    (q : ∀ h1, Heap.ExtBut it s.heap h1 → Q none { s with heap := h1 }) : wpAny (model prog w) A (pyNext (.ref e)) Q E s := by
  have ty : s.TypeIs (.ref e) "enumerate" := ⟨_, g, rfl⟩
  unfold pyNext
  refine wpAny_bind (wpAny_attempt (wpAny_callSpecial?_slot (name := Str.ofString "__next__") ty F.slot_enumerate_next (wpAny_call_entry F.slot_enumerate_next ty F.entry_enumerate_next ?_ (F.args_enumerate_next_1 _))))
  show wpAny _ _ (field (.ref e) 2 >>= _) _ _ _
  refine wpAny_bind (wpAny_field g rfl (x := .ref it) rfl (wpAny_bind (wpAny_nextOf_tuple_end calm t tp out fun h1 x k1 ⟨o, ho, hc⟩ => ?_)))
  exact wpAny_bind (wpAny_isInstance (T := "StopIteration") (b := true) ⟨o, ho, hc⟩ isSubtype_stop (wpAny_pure (q _ k1)))
end
theorem turn_enumT {P : Program} {w : World} {K : PySem.W.Frag} {elts : List Expr} {kk : Nat} {tpos : Pos} (a e it : Addr) :
    Turn P w K (.Tuple elts kk tpos) (IteT K a) [e, it] e (fun i h => (∃ old, IsEnum h e it ((i : Nat) : Int) old) ∧ h.IsTupleIter it a i ∧ e ≠ it ∧ a ≠ it ∧ e ≠ a) where
  mem := by simp
  obj := fun i h st b hb => by
    obtain ⟨⟨old, g⟩, ⟨o, ho, _, hd⟩, _⟩ := st
    rcases (by simpa using hb : b = e ∨ b = it) with rfl | rfl
    · exact ⟨_, g, fun v z => by cases z⟩
    · exact ⟨o, ho, fun v z => by rw [hd] at z; cases z⟩
  keep := fun i h h' st k => by
    obtain ⟨⟨old, g⟩, t, n⟩ := st
    exact ⟨⟨old, k e (by simp) _ g⟩, t.at fun o z => k it (by simp) o z, n⟩
  item := by
    intro X hP hw hK hc i pins s σ H E I hf st hg
    subst hP hw hK
    obtain ⟨⟨old, g⟩, t, n1, n2, n3⟩ := st
    obtain ⟨ys, y, sq, hy⟩ := hg
    obtain ⟨its, rv, tp, _⟩ := I.tuple sq
    obtain ⟨u, hu, ru⟩ := rv.get hy
    have le : e < s.heap.objs.size := Heap.lt_size g
    have li : it < s.heap.objs.size := by
      obtain ⟨_, z, _⟩ := id t
      exact Heap.lt_size z
    have lt : i < its.toArray.size := by
      have := (List.getElem?_eq_some_iff.mp hu).1
      simpa using this
    refine wpAny_pyNext_enum_itemD (drawsT (A := X.A.in1) (I.ok.hd hc) it a n2 its.toArray) g ⟨t, tp⟩ lt n1 (by simp [n1, n3]) fun x h1 tk px ho st1 hT hsz k1 => ?_
    have ex : x = u := by
      have z : its[i]? = some x := by simpa using px
      rw [hu] at z
      exact (Option.some.inj z).symm
    subst ex
    refine ⟨_, rfl, wpAny_letOwnedTupleGo_enum (s := { s with heap := h1, toks := tk + 1 }) ho fun h2 g2 sb => ?_⟩
    have hT2 : h2.get? s.heap.objs.size = some { cls := .type "tuple", data := .seq #[.int i tk, x] } := (sb.2 _ (Nat.ne_of_gt le)).trans hT
    have new : ObjOk X.prog X.w (upd H s.heap.objs.size (.tup [.int (i : Nat), y])) h2 s.heap.objs.size (.tup [.int (i : Nat), y]) :=
      ⟨by show 2 ≤ sizeLine; decide, _, .cons ⟨tk, rfl⟩ (.cons ru .nil), ⟨_, hT2, rfl, _, rfl⟩⟩
    have J : Inv X pins σ (upd H s.heap.objs.size (.tup [.int (i : Nat), y])) { s with heap := h2, toks := tk + 1 } :=
      I.turnedNew (ch := [e, it]) (fun b o hb z => (sb.2 b (fun q => hb (by rw [q]; simp))).trans (k1 b o (fun q => hb (by rw [q]; simp)) (fun q => hb (by rw [q]; simp)) z)) hf (Nat.le_refl _) new
    refine ⟨.ref s.heap.objs.size, _, J, rfl, ⟨_, y, rfl, I.hok.fresh (Nat.le_refl _), rfl, fun zs hz => by rw [I.tuple_inj hz sq]; exact hy⟩, ⟨⟨x, ?_⟩, st1.1.at fun o z => (sb.2 it n1.symm).trans z, n1, n2, n3⟩, fun b hb => ?_⟩
    · rw [show ((i + 1 : Nat) : Int) = (i : Int) + 1 by omega]
      exact g2
    · have lb : b < s.heap.objs.size := by
        rcases (by simpa using hb : b = e ∨ b = it) with rfl | rfl
        · exact le
        · exact li
      rw [upd_ne (Nat.ne_of_lt lb)]
      exact (hf b hb).1
  done := by
    intro X hP hw hK hc i pins s σ H E I hf st hg
    subst hP hw hK
    obtain ⟨⟨old, g⟩, t, n1, n2, n3⟩ := st
    obtain ⟨ys, sq, hy⟩ := hg
    obtain ⟨its, rv, tp, _⟩ := I.tuple sq
    obtain ⟨f0, f1, f2, f3, f4, f5⟩ := hf it (by simp)
    have hl := rv.length
    exact enumT_end (I.ok.hd hc) g t tp (by simp; omega) fun h1 k1 => ⟨rfl, I.turned (t' := s.toks) (fun b o hb z => k1 b o hb z) f0 f1 f3 f4 f5⟩
  self := fun A i s Q E st h => let ⟨⟨_, g⟩, _⟩ := st; wpAny_pyIter_enum g h
end Ga

set_option maxRecDepth 100000
set_option maxHeartbeats 4000000
/-! Gq: sorted({e for target in xs}), e a text. -/
namespace Ga
open PySem PySem.Spec PyProof.Rows L2 TL PpSet PySem.Froz
/-- the payload is such that its items can be walked -/
def Wlk (w : World) (D : SD) : Prop := Ris D.2.2.place.toList ∧ (w.params.followText "set-order" = true ∨ D.2.2.led = true)
theorem wlk_tail {w : World} {ep : Nat} {es : Array (Int × Value)} {t : SetTable} {b : Bool} (h : Wlk w (es, ep, t)) : Wlk w (tailTx ep es t b) := by
  unfold tailTx
  split
  · exact ⟨relayAll_ris _ _ _, h.2.imp id fun z => (relayAll_led _ _ _).trans z⟩
  · exact h
theorem wlk_add {w : World} {D : SD} {x : Int} {v : Value} (h : Wlk w D) : Wlk w (addTx x v D) := by
  unfold addTx
  have r := layNew_ris D.2.2 D.1 x v h.1
  have l := layNew_led D.2.2 D.1 x v
  refine wlk_tail ?_
  split
  · exact ⟨r, h.2.imp id fun z => l.trans z⟩
  · exact ⟨r, h.2.imp id fun z => l.trans z⟩
/-- at a stands a set of the texts l -/
def SetX (P : Program) (w : World) (h : Heap) (a : Addr) (l : List Str) : Prop := ∃ D : SD, h.get? a = some (sObj "set" D) ∧ TxOk P w D l ∧ Wlk w D
def SetXO (P : Program) (w : World) (a : Addr) (l : List Str) : HO := .ext fun h => SetX P w h a l
theorem setX_at {P : Program} {w : World} {h h' : Heap} {a : Addr} {l : List Str} (R : SetX P w h a l) (k : ∀ o, h.get? a = some o → h'.get? a = some o) : SetX P w h' a l := by
  obtain ⟨D, e, r⟩ := R
  exact ⟨D, k _ e, r⟩
theorem setX_obj {P : Program} {w : World} {H : Hp} {h : Heap} {a : Addr} {l : List Str} (R : SetX P w h a l) : ObjOk P w H h a (SetXO P w a l) := by
  obtain ⟨D, e, r⟩ := id R
  exact ⟨R, ⟨_, e⟩, fun h1 h2 p k => setX_at p k⟩
theorem setX_new {P : Program} {w : World} {h : Heap} : SetX P w (h.push { cls := .type "set", dict := none, data := .set #[] 0 (.fresh 0 0 (!w.params.followText "set-order")) }) h.objs.size [] := by
  refine ⟨(#[], 0, .fresh 0 0 (!w.params.followText "set-order")), Heap.get?_push_size _ rfl, TxOk.nil (by rfl), List.Pairwise.nil, ?_⟩
  show _ ∨ (!w.params.followText "set-order") = true
  cases w.params.followText "set-order"
  · exact .inr rfl
  · exact .inl rfl
/-- the set with one text more -/
def insX (x : Str) (l : List Str) : List Str := if x ∈ l then l else x :: l
theorem insX_nodup {x : Str} {l : List Str} (h : l.Nodup) : (insX x l).Nodup := by
  unfold insX
  split
  · exact h
  · rename_i n
    exact List.nodup_cons.mpr ⟨n, h⟩
theorem insX_mem {x y : Str} {l : List Str} : y ∈ insX x l ↔ y = x ∨ y ∈ l := by
  unfold insX
  split
  · rename_i m
    exact ⟨.inr, fun h => h.elim (fun e => e ▸ m) id⟩
  · exact List.mem_cons
theorem insX_len (x : Str) (l : List Str) : (insX x l).length ≤ l.length + 1 := by
  unfold insX
  split
  · omega
  · simp
section
variable {P : Program} {w : World} {A : Around} {E : Value → Shared → Prop} {s : Shared}
/-- a text that is in already -/
theorem add_in {a : Addr} {T : String} {D : SD} {l : List Str} {k : Str} {u : Tok} {Q : Bool → Shared → Prop} (ho : s.heap.get? a = some (sObj T D)) (F : TxOk P w D l) (hk : k ∈ l) (hb : l.length + 1 < scanBound) (q : Q false s) :
    wpAny (model P w) A (setAddHashed a (.str k u) (hashStr w k)) Q E s := by
  obtain ⟨es, ep, t⟩ := D
  have hd : (sObj T (es, ep, t)).data = .set es ep t := rfl
  have sz : es.size = l.length := F.sz
  have key : (strKind P w).is k (.str k u) = true := is_str k u
  unfold setAddHashed setAddHashedIn
  refine wpAny_holding (wpAny_bind (wpAny_setState_of ho hd F.fit ?_))
  dsimp only
  rw [byScan_of rfl (show es.size < scanBound by omega) F.el]
  simp only [↓reduceIte]
  unfold setAddByScan
  refine wpAny_bind (wpAny_bind (wpAny_rule (wpAny_bind (wpAny_setScan_of (knd := strKind P w) (k := k) key ho hd F.fit F.el ?_))))
  cases e : List.findIdx? (fun e => (strKind P w).is k e.2) es.toList with
  | some j => exact wpAny_pure (wpAny_pure q)
  | none =>
    exfalso
    obtain ⟨x, hx, z⟩ := (F.mem k).mp hk
    have := List.findIdx?_eq_none_iff.mp e x hx
    rw [this] at z
    cases z
theorem call_addX {a : Addr} {l : List Str} {k : Str} {u : Tok} {Q : Value → Shared → Prop} (R : SetX P w s.heap a l) (hb : l.length + 1 < scanBound)
    (q : ∀ h', (∀ b o, b ≠ a → s.heap.get? b = some o → h'.get? b = some o) → SetX P w h' a (insX k l) → Q .none { s with heap := h', toks := s.toks + 1 }) : wpAny (model P w) A (call (.builtin "set.add") [.ref a, .str k u]) Q E s := by
  obtain ⟨D, ho, O, W⟩ := R
  refine wpAny_call_entry F.slot_set_add ⟨_, ho, rfl⟩ F.entry_set_add ?_ (F.args_set_add_2 _ _)
  unfold Builtin.«set.add» Builtin.Frozenset.oneOther
  simp only [List.isEmpty_nil, bind_assoc]
  unfold Builtin.Frozenset.addrOf setAdd
  refine wpAny_bind (wpAny_pure ?_)
  try dsimp only
  refine wpAny_bind (wpAny_pure ?_)
  try dsimp only
  refine wpAny_bind (wpAny_holding (wpAny_bind ((strKind P w).pyHash (k := k) (is_str k u) ?_)))
  by_cases m : k ∈ l
  · refine add_in (s := { s with toks := s.toks + 1 }) ho O m hb ?_
    refine wpAny_pure ⟨_, rfl, q s.heap (fun _ _ _ z => z) ⟨D, ho, ?_, W⟩⟩
    rw [insX, if_pos m]
    exact O
  · refine add_x (s := { s with toks := s.toks + 1 }) ho O m hb ?_
    refine wpAny_pure ⟨_, rfl, q _ (fun b o nb e => (Heap.get?_update_ne _ _ _ _ nb).trans e) ⟨_, get_upd _ ho rfl, ?_, wlk_add W⟩⟩
    rw [insX, if_neg m]
    exact add_ok u O
end
section
variable {X : Cx}
theorem addXO {pins : List (Addr × Obj)} {σ : L2.St} {H : Hp} {s : Shared} {E : Value → Shared → Prop} {D : Addr} {l : List Str} {z : Str} {t : Tok} {Q : Value → Shared → Prop} (I : Inv X pins σ H s) (e : H D = some (SetXO X.prog X.w D l)) (room : l.length + 1 < scanBound)
    (q : ∀ s', Inv X pins σ (upd H D (SetXO X.prog X.w D (insX z l))) s' → Q .none s') : wpAny (model X.prog X.w) X.A (call (.builtin "set.add") [.ref D, .str z t]) Q E s := by
  refine call_addX (I.hok D _ e).1 room fun h' k R => ?_
  obtain ⟨D0, e0, _⟩ := id R
  exact q _ (I.write (e := D) (t' := s.toks + 1) (by rw [e]; trivial) (.inl rfl) k ⟨_, e0⟩ (setX_obj R))
/-- {e for target in walk if ..}, e a text: D is the new set -/
def tSx (P : Program) (w : World) (wi : TI) (g : TG) (tt : TT) (te : TE) (vs : List Nat) : TE := fun σ H Q => wi σ H fun J H1 => ∀ D, H1 D = none → ∃ W : Nat → Nat → Hp → Prop, (∃ m, W 0 m (upd H1 D (SetXO P w D []))) ∧ ∀ i m H', W i m H' →
  (J.stop i H' ∧ Q (.ref D) H') ∨ (J.go i H' ∧ ∃ Nx : Hp → Prop, (∀ H2, Nx H2 → ∃ m', m' < m ∧ W (i + 1) m' H2) ∧ ∀ x H2, J.yld i H' x H2 → g x (wipe σ vs) H2 fun σ2 H3 => wipe σ2 vs = wipe σ vs ∧ tt σ2 H3 fun b H4 =>
    if b = true then te σ2 H4 fun y H5 => ∃ (z : Str) (l : List Str), y = .str z ∧ H5 D = some (SetXO P w D l) ∧ l.length + 1 < scanBound ∧ Nx (upd H5 D (SetXO P w D (insX z l))) else Nx H4)
abbrev Blk (X : Cx) (scope : Scope) (J : Cx → Prop) : Prop := ∀ (s : Shared) (H : Hp) (C : Addr) (cl : List (PySem.Str × Addr)) (fp : List Addr), J (X.blk s H scope (compEnvC scope cl C X.env) fp)
theorem pe_sx {elt tg iter : Expr} {ifs : List Expr} {scope : Scope} {own : List (PySem.Str × Nat)} {pos : Pos} {wi : TI} {g : TG} {tt : TT} {te : TE} (hc : X.calm = true) (nd : X.N.Nodup) (hi : PI X tg iter wi) (ok : BlkOk X.N X.env.scope scope own)
    (hg : Blk X scope fun Y => PG Y tg g) (ht : Blk X scope fun Y => PTs Y ifs tt) (he : Blk X scope fun Y => PE Y elt te) (hs : ∀ x, foldedSetIterable iter X.env x = pure x := by intro _; rfl) :
    PE X (.SetComp elt [⟨tg, iter, ifs, 0⟩] scope pos) (tSx X.prog X.w wi g tt te (own.map (·.2))) := by
  refine ⟨fun pins s σ H Q I h => ?_⟩
  rw [eval_SetComp]
  have caught : ∀ y ∈ scope.names, y.2 = .free → ∃ c, X.env.cells.lookup y.1 = some c := fun y hy e => by
    rcases ok.free y hy e with q | q
    · exact I.ok.has _ (.inl q)
    · exact I.ok.has _ (.inr q)
  refine wpAny_comprehension_free (use := none) rfl hs (closure_ok caught) ok.kind (fun y hy e => by rw [ok.uniq y hy, e]) (thn (hi.run pins s σ H _ I h) fun _ s1 h1 => thn h1 fun _ s2 h2 => ?_)
  obtain ⟨it, fp, tn, J, H2, rfl, I2, T, t2, f2, q⟩ := h2
  refine newSet_ok (newEnv_comp ?_)
  generalize eD : s2.heap.objs.size = D
  obtain ⟨W, ⟨m0, w0⟩, turn⟩ := q D (I2.hok.fresh (Nat.le_of_eq eD))
  generalize e3 : ({ s2 with heap := s2.heap.push { cls := .type "set", dict := none, data := .set #[] 0 (.fresh 0 0 (!X.w.params.followText "set-order")) } } : Shared) = s3
  have p3 : s3.heap = s2.heap.push { cls := .type "set", dict := none, data := .set #[] 0 (.fresh 0 0 (!X.w.params.followText "set-order")) } := by rw [← e3]
  have I3 : Inv X pins σ (upd H2 D (SetXO X.prog X.w D [])) s3 := by
    rw [← e3]
    refine I2.laid (t' := s2.toks) (fun b o e => Heap.get?_push_of_some _ e) (Nat.le_of_eq eD) ?_
    rw [← eD]
    exact setX_obj setX_new
  have f3 : ∀ b ∈ fp, FpOk X pins (upd H2 D (SetXO X.prog X.w D [])) b ∧ b < s3.heap.objs.size := fun b hb => by
    obtain ⟨o, eo, _⟩ := T.obj _ _ t2 b hb
    have lt : b < s2.heap.objs.size := Heap.lt_size eo
    refine ⟨⟨?_, (f2 b hb).2⟩, by rw [p3, Heap.size_push]; exact Nat.lt_succ_of_lt lt⟩
    rw [upd_ne (by rw [← eD]; exact Nat.ne_of_lt lt)]
    exact (f2 b hb).1
  have t3 : tn 0 s3.heap := T.keep _ _ _ t2 fun b _ o e => by rw [p3]; exact Heap.get?_push_of_some _ e
  generalize eH : upd H2 D (SetXO X.prog X.w D []) = H3 at I3 f3 w0
  have I4 := block_start I3 ok nd f3
  have jg := hg s3 H3 s3.heap.objs.size (cellsFrom (s3.heap.objs.size + 1) scope.names (cloFrom X.env.cells scope.names [])) fp
  have jt := ht s3 H3 s3.heap.objs.size (cellsFrom (s3.heap.objs.size + 1) scope.names (cloFrom X.env.cells scope.names [])) fp
  have je := he s3 H3 s3.heap.objs.size (cellsFrom (s3.heap.objs.size + 1) scope.names (cloFrom X.env.cells scope.names [])) fp
  show codeAny _ _ (.compStart _ 0 (.ref it) (.ref D) (compEnvC scope (cellsFrom (s3.heap.objs.size + 1) scope.names (cloFrom X.env.cells scope.names [])) s3.heap.objs.size X.env)) (compPost (model X.prog X.w) X.A X.xe none _ (.ref D) s3.heap.objs.size) { s3 with heap := pushCells (s3.heap.push { cls := .type "dict", data := .dict #[] }) scope.names }
  generalize ec : compEnvC scope (cellsFrom (s3.heap.objs.size + 1) scope.names (cloFrom X.env.cells scope.names [])) s3.heap.objs.size X.env = ce at I4 jg jt je ⊢
  have cL : ce.locals = s3.heap.objs.size := by subst ec; rfl
  generalize e4 : ({ s3 with heap := pushCells (s3.heap.push { cls := .type "dict", data := .dict #[] }) scope.names } : Shared) = s4 at I4 ⊢
  have t4 : tn 0 s4.heap := T.keep _ _ _ t3 fun b _ o e => by rw [← e4]; exact pushCells_keeps _ _ _ _ (Heap.get?_push_of_some _ e)
  have fpo : ∀ {σ' : L2.St} {H' : Hp} {s' : Shared}, Inv (X.blk s3 H3 scope ce fp) [] σ' H' s' → (∀ b ∈ fp, H' b = none) → ∀ b ∈ fp, FpOk (X.blk s3 H3 scope ce fp) [] H' b := fun {σ' H' s'} I' n b hb =>
    ⟨n b hb, (I'.ok.exf b hb).1, I'.ok.exfs b hb, .inl hb, fun x c e => (I'.ok.exf b hb).2 x c e, fun p hp => absurd (show p ∈ ([] : List (Addr × Obj)) ++ [] from hp) (by simp)⟩
  refine codeAny_compStart_set ?loop (T.self X.A 0 _ _ _ t4 ?loop)
  refine compLoopS_any (fun n s' => ∃ i H', Inv (X.blk s3 H3 scope ce fp) [] (wipe σ (own.map (·.2))) H' s' ∧ tn i s'.heap ∧ (∀ b ∈ fp, H' b = none) ∧ W i n H') ?_ m0 ⟨0, H3, I4, t4, fun b hb => (f3 b hb).1.1, w0⟩
  rintro n s5 ⟨i, H5, I5, t5, n5, w5⟩
  rcases turn i n H5 w5 with ⟨stop, qq⟩ | ⟨go, Nx, hNx, step⟩
  · refine thnF (T.done (X.blk s3 H3 scope ce fp) rfl rfl rfl hc i [] s5 _ H5 (fun _ _ => False) I5 (fpo I5 n5) t5 stop) fun r s6 ⟨er, I6⟩ => ?_
    subst er
    have I7 : Inv X pins σ H5 s6 := I3.call' (ch := fp) I6.os I6.base I6.hok I6.bare fun b hb => ⟨(f3 b hb).1.2.2.2.1, (f3 b hb).1.2.1, (f3 b hb).1.2.2.2.2.1, (f3 b hb).1.2.2.2.2.2⟩
    have nC : H5 s3.heap.objs.size = none := cL ▸ I6.free
    obtain ⟨m, hn, _⟩ := I6.loc
    have hn : s6.heap.Ns ce.locals m := hn
    rw [cL] at hn
    obtain ⟨g0, g1, g2, g3, g4, g5⟩ := I3.fpOk (Nat.le_refl _) nC
    exact ⟨m, hn, fun h'' sb => ⟨.ref D, H5, I7.turned (t' := s6.toks) (fun b o hb e => (sb.2 b hb).trans e) g0 g1 g3 g4 g5, rfl, qq⟩⟩
  · refine thnF (T.item (X.blk s3 H3 scope ce fp) rfl rfl rfl hc i [] s5 _ H5 (fun _ _ => False) I5 (fpo I5 n5) t5 go) fun r s6 ⟨u, er, h6⟩ => ?_
    subst er
    refine thnF h6 fun _ s7 ⟨x, H7, I7, r7, y7, t7, n7⟩ => ?_
    have J7 := I7.pinned (fpo I7 n7) (T.obj _ _ t7)
    refine thnF (jg.run _ s7 _ H7 x u _ J7 r7 (step x H7 y7)) fun _ s8 ⟨σ8, H8, I8, w8, q8⟩ => ?_
    refine thnF (jt.run _ s8 σ8 H8 _ I8 q8) fun b s9 ⟨H9, I9, q9⟩ => ?_
    have back : ∀ {s' : Shared} {H' : Hp}, Inv (X.blk s3 H3 scope ce fp) ([] ++ pinsAt fp s7.heap) σ8 H' s' → Nx H' → ∃ m, m < n ∧ ∃ i H', Inv (X.blk s3 H3 scope ce fp) [] (wipe σ (own.map (·.2))) H' s' ∧ tn i s'.heap ∧ (∀ b ∈ fp, H' b = none) ∧ W i m H' := fun {s' H'} I' nx => by
      obtain ⟨m', hm, w'⟩ := hNx H' nx
      have stays : ∀ b ∈ fp, ∀ o, s7.heap.get? b = some o → s'.heap.get? b = some o ∧ H' b = none := fun b hb o e => by
        have z := I'.pin (b, o) (List.mem_append_right _ (List.mem_append_right _ (mem_pinsAt hb e)))
        exact ⟨z.1, z.2.1⟩
      refine ⟨m', hm, i + 1, H', (I'.unpinned (pins := [])).weak (by rw [← w8, wipe_length]) (fun j v e => ?_), T.keep _ _ _ t7 fun b hb o e => (stays b hb o e).1, fun b hb => ?_, w'⟩
      · rw [← w8] at e
        exact (wipe_some e).1
      · obtain ⟨o, e, _⟩ := T.obj _ _ t7 b hb
        exact (stays b hb o e).2
    cases b with
    | false =>
      rw [if_neg Bool.false_ne_true] at q9 ⊢
      exact back I9 q9
    | true =>
      rw [if_pos rfl] at q9 ⊢
      refine thnF (je.run _ s9 σ8 H9 _ I9 q9) fun v s10 ⟨y, H10, I10, r10, z, l, ey, e10, room, nx⟩ => ?_
      subst ey
      obtain ⟨t, rfl⟩ := r10
      exact addXO (X := X.blk s3 H3 scope ce fp) I10 e10 room fun s11 I11 => back I11 nx
end
end Ga

set_option maxRecDepth 100000
set_option maxHeartbeats 4000000
/-! Gr: sorted of a set of texts; {f(x) for x in walk} of texts. -/
namespace Ga
open PySem PySem.Spec PyProof.Rows L2 TL PpSet PySem.Froz
theorem nd_perm : ∀ {l m : List Str}, l.Nodup → (∀ k ∈ l, k ∈ m) → m.length ≤ l.length → l.Perm m
  | [], m, _, _, h => by
    have : m = [] := List.length_eq_zero_iff.mp (by simpa using h)
    rw [this]
  | x :: l, m, nd, sub, h => by
    have nd2 := List.nodup_cons.mp nd
    have hx : x ∈ m := sub x List.mem_cons_self
    have pm := List.perm_cons_erase hx
    have ln := pm.length_eq
    refine (List.Perm.cons x (nd_perm nd2.2 (fun k hk => ?_) ?_)).trans pm.symm
    · rcases List.mem_cons.mp (pm.mem_iff.mp (sub k (List.mem_cons_of_mem _ hk))) with e | e
      · exact (nd2.1 (e ▸ hk)).elim
      · exact e
    · simp at ln h
      omega
theorem strs_ex : ∀ {us : List Value}, (∀ u ∈ us, ∃ z t, u = Value.str z t) → ∃ zs, StrsAre us zs
  | [], _ => ⟨[], .nil⟩
  | u :: us, h => by
    obtain ⟨zs, g⟩ := strs_ex fun v hv => h v (List.mem_cons_of_mem _ hv)
    obtain ⟨z, t, rfl⟩ := h u List.mem_cons_self
    exact ⟨z :: zs, .cons z t g⟩
theorem strs_mem : ∀ {us : List Value} {zs : List Str}, StrsAre us zs → ∀ {z : Str}, (∃ t, Value.str z t ∈ us) → z ∈ zs
  | _, _, .nil, z, ⟨t, h⟩ => nomatch h
  | _, _, .cons y k r, z, ⟨t, h⟩ => by
    rcases List.mem_cons.mp h with e | e
    · cases e
      exact List.mem_cons_self
    · exact List.mem_cons_of_mem _ (strs_mem r ⟨t, e⟩)
section
variable {X : Cx}
theorem cr_sortX (hc : X.calm = true) : CallR X (.builtin "sorted") (fun vs H Q => ∃ (a : Addr) (l : List Str), vs = [.ref a] ∧ H a = some (SetXO X.prog X.w a l) ∧ l.Nodup ∧ l.length < 64 ∧ ∀ ys p, ys.Perm l → sortedS ys = true → H p = none → Q (.ref p) (upd H p (.lst (ys.map V.str)))) := by
  intro pins s σ H vs us Q I r h
  obtain ⟨a, l, rfl, ha, nd, h64, q⟩ := h
  obtain ⟨⟨es, ep, t⟩, ho, O, W⟩ := (I.hok a _ ha).1
  obtain ⟨u, rfl, ru⟩ := vals1 r
  obtain rfl : u = Value.ref a := ru
  have sz : es.size = l.length := O.sz
  have small : es.size < scanBound := by unfold scanBound; omega
  refine Calls.call_function_entry kind_sorted plain_sorted entry_sorted (args_sorted1 _) ?_
  unfold Builtin.«sorted»
  refine wpAny_bind (m := checkCount "sorted" 1 1 _) (wpAny_pure ?_)
  refine wpAny_bind (collect_set (A := X.A.in1) (I.ok.hd hc) ⟨_, ho, rfl, rfl⟩ O.fit small W.1 W.2 fun s1 out k1 z1 g1 o1 pm => ?_)
  have each : ∀ v ∈ out, ∃ z t, v = Value.str z t := fun v hv => by
    obtain ⟨e, he, rfl⟩ := List.mem_map.mp (pm.mem_iff.mp hv)
    obtain ⟨⟨k, hk, _⟩, _⟩ := O.el e he
    obtain ⟨t, e2⟩ := Value.isStrOf_shape (x := k) (v := e.2) hk
    exact ⟨k, t, e2⟩
  obtain ⟨zs, hS⟩ := strs_ex each
  have ol : out.length = l.length := by rw [pm.length_eq, List.length_map, Array.length_toList]; exact sz
  have hp : l.Perm zs := nd_perm nd (fun k hk => by
    obtain ⟨e, he, z⟩ := (O.mem k).mp hk
    obtain ⟨t, e2⟩ := Value.isStrOf_shape (x := k) (v := e.2) z
    exact strs_mem hS ⟨t, by rw [← e2]; exact pm.mem_iff.mpr (List.mem_map_of_mem he)⟩) (by rw [← hS.length, ol]; exact Nat.le_refl _)
  obtain ⟨h1, gg, dd, tk, os⟩ := s1
  have I1 : Inv X pins σ H ⟨h1, gg, dd, tk, os⟩ := by
    have e1 : gg = s.gens := g1
    have e2 : os = s.os := o1
    subst e1 e2
    exact I.call (ch := []) (Un.kept k1) (I.hok.kept k1) I.bare (fun _ z => nomatch z)
  refine wpAny_bind (wpAny_newList ?_ (by rw [ol, sizeLine_eq]; omega))
  have hoL : (h1.push (seqObj "list" out.toArray 0)).get? h1.objs.size = some (seqObj "list" out.toArray 0) := Heap.get?_push_size _ rfl
  refine wpAny_bind (wpAny_holding (wpAny_call_entry slot_list_sort ⟨_, hoL, rfl⟩ entry_list_sort
    (list_sort_treeK strKind_oneLt hoL hS.keysOf (fun v₁ v₂ rest e => keyKind_strs (by rw [← e]; exact hS)) (by rw [ol]; exact h64) fun st' p1 p2 => ⟨_, rfl, ?_⟩) (args_list_sort _)))
  obtain ⟨ys, y1, y2, y3⟩ := sorted_out_str hS p1 p2
  obtain ⟨c, hcc⟩ := sortedHeap_at (vs := out) (out := (arrOf st').map (·.2)) hoL
  have yl : (ys.map V.str).length ≤ sizeLine := by rw [List.length_map, y2.length_eq, ← hS.length, ol, sizeLine_eq]; omega
  have nw := I1.hok.fresh (Nat.le_refl h1.objs.size)
  refine wpAny_pure ⟨_, rfl, .ref h1.objs.size, upd H h1.objs.size (.lst (ys.map V.str)), I1.laid (t' := tk) (fun b o e => ?_) (Nat.le_refl _) ⟨yl, ((arrOf st').map (·.2)).toList, c, vals_of_strs y1, by rw [Array.toArray_toList]; exact hcc⟩, rfl, q ys _ (y2.trans hp.symm) y3 nw⟩
  have lt := Heap.lt_size e
  rw [sortedHeap_old (Nat.ne_of_lt lt) (by rw [size_push']; exact Nat.lt_succ_of_lt lt)]
  exact Heap.get?_push_of_some _ e
end
end Ga

set_option maxRecDepth 100000
set_option maxHeartbeats 4000000
/-! Ha: data of tuples; short calls; actions. -/
namespace Ga
open PySem PySem.Spec PyProof.Rows L2 TL
mutual
/-- v is the datum d, made of tuples, texts, ints, truths and None -/
inductive Dt (K : PySem.W.Frag) (H : Hp) : V → PyData → Prop
  | non : Dt K H .non .none
  | bl (b : Bool) : Dt K H (.bl b) (.bool b)
  | int (i : Int) : Dt K H (.int i) (.int i)
  | str (z : Str) : Dt K H (.str z) (.str z)
  | tup {a : Addr} {vs : List V} {ds : List PyData} : SqT K H a vs → DtL K H vs ds → Dt K H (.ref a) (.tuple ds)
inductive DtL (K : PySem.W.Frag) (H : Hp) : List V → List PyData → Prop
  | nil : DtL K H [] []
  | cons {v : V} {vs : List V} {d : PyData} {ds : List PyData} : Dt K H v d → DtL K H vs ds → DtL K H (v :: vs) (d :: ds)
end
section
variable {K : PySem.W.Frag} {H H' : Hp}
mutual
theorem Dt.st {v : V} {d : PyData} (e : SameT H H') : Dt K H v d → Dt K H' v d
  | .non => .non
  | .bl b => .bl b
  | .int i => .int i
  | .str z => .str z
  | .tup s l => .tup (e.sq s) (DtL.st e l)
theorem DtL.st {vs : List V} {ds : List PyData} (e : SameT H H') : DtL K H vs ds → DtL K H' vs ds
  | .nil => .nil
  | .cons h t => .cons (Dt.st e h) (DtL.st e t)
end
mutual
theorem Dt.dp {v : V} {d : PyData} : Dt K H v d → Dp K H v d
  | .non => .non
  | .bl b => .bl b
  | .int i => .int i
  | .str z => .str z
  | .tup s l => .tup s (DtL.dp l)
theorem DtL.dp {vs : List V} {ds : List PyData} : DtL K H vs ds → DpAll K H vs ds
  | .nil => .nil
  | .cons h t => .cons (Dt.dp h) (DtL.dp t)
end
theorem Dt.tupE {v : V} {ds : List PyData} (h : Dt K H v (.tuple ds)) : ∃ a vs, v = .ref a ∧ SqT K H a vs ∧ DtL K H vs ds := by
  cases h with
  | tup s l => exact ⟨_, _, rfl, s, l⟩
theorem Dt.strE {v : V} {z : Str} (h : Dt K H v (.str z)) : v = .str z := by cases h; rfl
theorem Dt.intE {v : V} {z : Int} (h : Dt K H v (.int z)) : v = .int z := by cases h; rfl
theorem DtL.strs : ∀ {l : List Str} {vs : List V}, DtL K H vs (l.map PyData.str) → vs = l.map V.str
  | [], _, h => by cases h; rfl
  | z :: l, _, h => by
    cases h with
    | cons a b => rw [a.strE, DtL.strs b]; rfl
theorem dtl_strs : ∀ l : List Str, DtL K H (l.map V.str) (l.map PyData.str)
  | [] => .nil
  | z :: l => .cons (.str z) (dtl_strs l)
theorem dt_lines {v : V} {l : List Str} : Dt K H v (dL l) ↔ LinesAt K H v l := by
  constructor
  · intro h
    obtain ⟨a, vs, rfl, s, d⟩ := h.tupE
    rw [d.strs] at s
    exact ⟨a, rfl, s⟩
  · rintro ⟨a, rfl, s⟩
    exact .tup s (dtl_strs l)
theorem DtL.len {vs : List V} {ds : List PyData} (h : DtL K H vs ds) : vs.length = ds.length := by
  induction vs generalizing ds with
  | nil => cases h; rfl
  | cons v vs ih =>
    cases h with
    | cons a b => rw [List.length_cons, List.length_cons, ih b]
theorem dt1 {a : Addr} {v : V} {d : PyData} (s : SqT K H a [v]) (h : Dt K H v d) : Dt K H (.ref a) (.tuple [d]) := .tup s (.cons h .nil)
theorem dt2 {a : Addr} {v w : V} {d e : PyData} (s : SqT K H a [v, w]) (h : Dt K H v d) (g : Dt K H w e) : Dt K H (.ref a) (.tuple [d, e]) := .tup s (.cons h (.cons g .nil))
end
end Ga
namespace KX
open PySem PySem.Spec PyProof.Rows L2 TL Ga
/-! ### short calls -/
structure CalX (P : Program) (w : World) (K : PySem.W.Frag) (mg : Str → Option Value) (base : Heap) (k : Nat) (x : Str) (ps : List Str) (sp : Sp) : Prop where
  ex : ∃ (f : Addr) (fd : FuncData), FnOk P w K mg base (L2.CX P w) k f fd ps sp ∧ mg x = some (.ref f) ∧ PySem.W.keepIn K (.ref f) = true ∧ Binds K fd ps []
structure MCal (P : Program) (w : World) (K : PySem.W.Frag) (mg : Str → Option Value) (base : Heap) (C : Addr) (k : Nat) (m : Str) (ps : List Str) (sp : Sp) : Prop where
  ex : ∃ (f : Addr) (fd : FuncData), FnOk P w K mg base CX0 k f fd ps sp ∧ Meth K C m f ∧ Binds K fd ps []
section
variable {X : Cx} {k n : Nat} {C : Addr} {x m : Str} {ps : List Str} {sp : Sp} {e o : Expr} {es : List Expr} {t : TA} {ta : TE} {p pos apos cpos : Pos}
theorem pe_cal (S : Cal X.prog X.w X.K X.mg X.base k x ps sp) (hr : Room n X.A) (hx : Passes CX0 X E0) (ha : PA X (e :: es) t) (hk : k ≤ n := by decide) (hg : Gl X x := by rfl) (hdb : (x == ("__debug__" : Str)) = false := by decide)
    (he : starEach (e :: es) X.env = (false, eval e X.env) :: starEach es X.env := by rfl) (hpl : (backTo pos (starEach es X.env)).any (·.1) = false := by rfl) : PE X (.Call (.Name x p) (e :: es) [] pos) (tCall sp [] E0 t) := by
  obtain ⟨f, fd, F, g, kp, b⟩ := S.ex
  exact pe_call F (hr.mono hk) hg g kp b .nil hx ha hdb he hpl
theorem pe_calX {E : XK} (S : CalX X.prog X.w X.K X.mg X.base k x ps sp) (hr : Room n X.A) (hx : Passes (L2.CX X.prog X.w) X E) (ha : PA X (e :: es) t) (hk : k ≤ n := by decide) (hg : Gl X x := by rfl) (hdb : (x == ("__debug__" : Str)) = false := by decide)
    (he : starEach (e :: es) X.env = (false, eval e X.env) :: starEach es X.env := by rfl) (hpl : (backTo pos (starEach es X.env)).any (·.1) = false := by rfl) : PE X (.Call (.Name x p) (e :: es) [] pos) (tCall sp [] E t) := by
  obtain ⟨f, fd, F, g, kp, b⟩ := S.ex
  exact pe_call F (hr.mono hk) hg g kp b .nil hx ha hdb he hpl
theorem Cal.mono (S : Cal X.prog X.w X.K X.mg X.base k x ps sp) : True := trivial
end
structure TreeM (P : Program) (w : World) (K : PySem.W.Frag) (mg : Str → Option Value) (base : Heap) (C : Addr) : Prop where
  tc : TreeC K C
  files : MCal P w K mg base C 1 "files" ["self"] (spTFiles K C)
  lines : MCal P w K mg base C 1 "lines" ["self", "path"] (spTLines K C)
  paths : MCal P w K mg base C 2 "paths" ["self", "place"] (spTPaths K C)
  folder : MCal P w K mg base C 3 "is_folder" ["self", "place"] (spTIsFolder K C)
  with_ : MCal P w K mg base C 8 "with_file" ["self", "path", "lines"] (spTWith K C)
  without : MCal P w K mg base C 8 "without" ["self", "path"] (spTWithout K C)
/-! ### actions -/
inductive Itm
  | tx (z : Str)
  | ln (l : List Str)
def dI : Itm → PyData
  | .tx z => .str z
  | .ln l => dL l
inductive Act
  | read (p : Str)
  | kind (p : Str)
  | list (p : Str)
  | find (p w : Str)
  | count (p : Str)
  | write (p : Str) (l : List Str)
  | remove (p : Str)
  | move (p t : Str)
  | splice (p : Str) (o n : List Str)
def Act.word : Act → Str
  | .read _ => "read"
  | .kind _ => "kind"
  | .list _ => "list"
  | .find _ _ => "find"
  | .count _ => "count"
  | .write _ _ => "write"
  | .remove _ => "remove"
  | .move _ _ => "move"
  | .splice _ _ _ => "splice"
def Act.parts : Act → List (Str × Itm)
  | .read p => [("path", .tx p)]
  | .kind p => [("place", .tx p)]
  | .list p => [("place", .tx p)]
  | .find p w => [("place", .tx p), ("word", .tx w)]
  | .count p => [("place", .tx p)]
  | .write p l => [("path", .tx p), ("lines", .ln l)]
  | .remove p => [("path", .tx p)]
  | .move p t => [("path", .tx p), ("target", .tx t)]
  | .splice p o n => [("path", .tx p), ("old", .ln o), ("new", .ln n)]
def dA (a : Act) : PyData := .tuple (.str a.word :: a.parts.map fun q => dI q.2)
/-- the part of this name is within its bounds -/
def okItm (n : Str) : Itm → Bool
  | .tx z => if n = "place" then isPlace z else if n = "word" then isWord z else isPath z
  | .ln l => isLines l && (!decide (n = "old") || decide (0 < l.length))
def firstBad : List (Str × Itm) → Option Str
  | [] => none
  | q :: r => if okItm q.1 q.2 = true then firstBad r else some q.1
def Act.bad (a : Act) : Option Str := firstBad a.parts
def typed (q : Str × Itm) : Prop := match q.2 with
  | .tx _ => q.1 = "place" ∨ q.1 = "word" ∨ q.1 = "path" ∨ q.1 = "target"
  | .ln _ => q.1 = "lines" ∨ q.1 = "old" ∨ q.1 = "new"
theorem typed_all (a : Act) : ∀ q ∈ a.parts, typed q := by
  intro q hq
  cases a <;> simp only [Act.parts, List.mem_cons, List.not_mem_nil, or_false] at hq <;> (first | (rcases hq with rfl | rfl | rfl) | (rcases hq with rfl | rfl) | (rcases hq with rfl)) <;>
    first | exact .inl rfl | exact .inr (.inl rfl) | exact .inr (.inr (.inl rfl)) | exact .inr (.inr rfl) | exact .inr (.inr (.inr rfl))
def smallI : Itm → Prop
  | .tx z => (tl z).length ≤ 1000
  | .ln l => l.length ≤ 1000 ∧ ∀ z ∈ l, (tl z).length ≤ 1000
def Act.small (a : Act) : Prop := ∀ q ∈ a.parts, smallI q.2
/-- what is asked of a tree's files -/
def Sml (fs : List File) : Prop := ∀ f ∈ fs, (tl f.1).length ≤ 1000 ∧ f.2.length ≤ 1000 ∧ ∀ z ∈ f.2, (tl z).length ≤ 1000
end KX

set_option maxRecDepth 100000
set_option maxHeartbeats 4000000
/-! Hb: paths_under, paths_above, is_question, is_within, places_of, answer_read, answer_kind, first_name, answer_count. -/
namespace KX
open PySem PySem.Spec PyProof.Rows L2 TL Ga
section
variable {X : Cx} {k n : Nat} {C : Addr} {m : Str} {ps : List Str} {sp : Sp} {e o : Expr} {es : List Expr} {t : TA} {ta : TE} {p pos apos : Pos}
theorem pe_mcal {pl : Sem Bool} (c : Cls X.K C) (S : MCal X.prog X.w X.K X.mg X.base C k m ps sp) (hr : Room n X.A) (hx : Passes CX0 X E0) (he : PE X o ta) (ha : PA X (e :: es) t) (hk : k ≤ n := by decide)
    (hst : starEach (e :: es) X.env = (false, eval e X.env) :: starEach es X.env := by rfl) (hpl : (backTo pos (starEach es X.env)).any (·.1) = false := by rfl)
    (ht : eval (.Call (.Attribute o m apos) (e :: es) [] pos) X.env = (do
      let ov ← eval o X.env
      standAt apos.atName
      let (f, first) ← holding [ov] (getMethod ov m pl)
      callWith pos f first (backTo pos (starEach (e :: es) X.env)) (backToKw pos (keywordEach [] X.env))) := by rfl) : PE X (.Call (.Attribute o m apos) (e :: es) [] pos) (tMeth C m sp [] E0 ta t) := by
  obtain ⟨f, fd, F, hm, b⟩ := S.ex
  exact pe_meth he c hm F (hr.mono hk) b .nil hx ha hst hpl ht
end
section
variable {K : PySem.W.Frag} {C p : Addr} {H : Hp} {σ : L2.St} {i j k : Nat} {x : Str} {fs : List File} {Q : VK}
theorem TreeAt.few (h : TreeAt K C H p fs) : fs.length ≤ 40 := by
  obtain ⟨_, _, _, _, _, _, _, l⟩ := h
  exact l
theorem TreeAt.nd (h : TreeAt K C H p fs) : (fs.map (·.1)).Nodup := by
  obtain ⟨_, _, _, _, _, _, n, _⟩ := h
  exact n
theorem tm1 {m : Str} {sp : Sp} {t : TA} (h : TreeAt K C H p fs) (hm : ([("_table", V.non)] : List (Str × V)).lookup m = none) (hi : σ[i]? = some (some (.ref p))) (q : t σ H fun vs H2 => sp (.ref p :: (vs ++ [])) H2 Q E0) : tMeth C m sp [] E0 (tVar i) t σ H Q := by
  obtain ⟨dx, d, hp, tb⟩ := h
  refine ⟨_, hi, p, dx, _, rfl, hp, ?_, q⟩
  cases hb : (m == ("_table" : Str)) with
  | false => simp [List.lookup, hb]
  | true => simp [List.lookup, hb] at hm
theorem tm_lines (h : TreeAt K C H p fs) (hi : σ[i]? = some (some (.ref p))) (hj : σ[j]? = some (some (.str x))) (q : ∀ v, OptAt K H v (getF fs x) → Q v H) : tMeth C "lines" (spTLines K C) [] E0 (tVar i) (tCons (tVar j) tNil) σ H Q :=
  tm1 h (by decide +kernel) hi ⟨_, hj, p, x, fs, rfl, h, q⟩
theorem tm_paths (h : TreeAt K C H p fs) (s : Sml fs) (hx : (tl x).length ≤ 1000) (hi : σ[i]? = some (some (.ref p))) (hj : σ[j]? = some (some (.str x))) (q : ∀ H' a, Same H H' → SqT K H' a ((pathsIn fs x).map V.str) → Q (.ref a) H') :
    tMeth C "paths" (spTPaths K C) [] E0 (tVar i) (tCons (tVar j) tNil) σ H Q :=
  tm1 h (by decide +kernel) hi ⟨_, hj, p, x, fs, rfl, h, hx, fun f hf => (s f hf).1, fun H' a s n e => q H' a s (sqT e)⟩
theorem tm_paths0 (h : TreeAt K C H p fs) (s : Sml fs) (hi : σ[i]? = some (some (.ref p))) (q : ∀ H' a, Same H H' → SqT K H' a ((pathsIn fs "").map V.str) → Q (.ref a) H') :
    tMeth C "paths" (spTPaths K C) [] E0 (tVar i) (tCons (tC (.str "")) tNil) σ H Q :=
  tm1 h (by decide +kernel) hi ⟨p, "", fs, rfl, h, by decide, fun f hf => (s f hf).1, fun H' a s n e => q H' a s (sqT e)⟩
theorem tm_folder (h : TreeAt K C H p fs) (s : Sml fs) (hx : (tl x).length ≤ 1000) (hi : σ[i]? = some (some (.ref p))) (hj : σ[j]? = some (some (.str x))) (q : ∀ H', Same H H' → Q (.bl (isFolder fs x)) H') :
    tMeth C "is_folder" (spTIsFolder K C) [] E0 (tVar i) (tCons (tVar j) tNil) σ H Q :=
  tm1 h (by decide +kernel) hi ⟨_, hj, p, x, fs, rfl, h, hx, fun f hf => (s f hf).1, q⟩
end
theorem pathsIn_len {fs : List File} {x : Str} : (pathsIn fs x).length ≤ fs.length := by
  unfold pathsIn
  refine Nat.le_trans (List.length_filter_le _ _) ?_
  rw [List.length_map, srtF_len]
  exact Nat.le_refl _
theorem pathsIn_sub {fs : List File} {x z : Str} (h : z ∈ pathsIn fs x) : ∃ f ∈ fs, f.1 = z ∧ inside z x = true := by
  obtain ⟨h1, h2⟩ := List.mem_filter.mp h
  obtain ⟨f, hf, e⟩ := List.mem_map.mp h1
  exact ⟨f, (srtF_perm fs).mem_iff.mp hf, e, h2⟩
def underF (fs : List File) (x : Str) : List Str := (if getF fs x = none then [] else [x]) ++ pathsIn fs x
def aboveF (fs : List File) (x : Str) : List Str := (pathsIn fs "").filter fun z => inside x z
def spUnder (K : PySem.W.Frag) (C : Addr) : Sp := fun vs H Q _ => ∃ (p : Addr) (x : Str) (fs : List File), vs = [.ref p, .str x] ∧ TreeAt K C H p fs ∧ Sml fs ∧ (tl x).length ≤ 1000 ∧ ∀ H' v, Same H H' → LinesAt K H' v (underF fs x) → Q v H'
def spAbove (K : PySem.W.Frag) (C : Addr) : Sp := fun vs H Q _ => ∃ (p : Addr) (x : Str) (fs : List File), vs = [.ref p, .str x] ∧ TreeAt K C H p fs ∧ Sml fs ∧ (tl x).length ≤ 1000 ∧ ∀ H' v, Same H H' → LinesAt K H' v (aboveF fs x) → Q v H'
section
variable {P : Program} {w : World} {K : PySem.W.Frag} {mg : Str → Option Value} {base : Heap} {C : Addr}
theorem ok_under {f : Addr} {fd : FuncData} (F : Fun K "paths_under" "paths_under" s_paths_under f fd) (M : TreeM P w K mg base C) : FnOk P w K mg base CX0 4 f fd ["tree", "place"] (spUnder K C) := by
  refine F.ok sc_paths_under (fun vs H Q E h => ?_) (fun cdv A outer s H vs Q E hr h => ?_)
  · obtain ⟨p, x, fs, rfl, _⟩ := h
    rfl
  · obtain ⟨p, x, fs, rfl, tr, sm, hx, q⟩ := h
    refine ⟨_, pss_cons (ps_set (i := 2) sc_paths_under.nd rfl (.inl rfl) (pe_ifExp (pt_cmpR op_isN (pe_mcal M.tc.cl M.lines hr pass0 (pv 0) (pa_cons (pv 1) pa_nil)) pe_non (nomark _)) (pe_tup pa_nil) (pe_tup (pa_cons (pv 1) pa_nil))))
      (pss_one (ps_ret (pe_op op_catA (pv 2) (pe_mcal M.tc.cl M.paths hr pass0 (pv 0) (pa_cons (pv 1) pa_nil))))), ?_⟩
    refine tm_lines tr rfl rfl fun v hv => ⟨rfl, _, rfl, ?_⟩
    have fin : ∀ (H1 : Hp) (a : Addr) (l : List Str), Same H H1 → SqT K H1 a (l.map V.str) → l.length ≤ 1 → l = (if getF fs x = none then [] else [x]) →
        tOp (rCatA K) (tVar 2) (tMeth C "paths" (spTPaths K C) [] E0 (tVar 0) (tCons (tVar 1) tNil)) [some (.ref p), some (.str x), some (.ref a)] H1 Q := fun H1 a l s1 e1 l1 el => by
      refine ⟨_, rfl, tm_paths (tr.same s1) sm hx rfl rfl fun H2 b s2 e2 => ?_⟩
      have e1' := s2.seqT e1
      refine ⟨a, b, _, _, rfl, rfl, e1', e2, ?_, fun z => ?_, fun z z2 => ?_, fun z z2 r nr => ?_⟩
      · rw [List.length_map, List.length_map]
        have := pathsIn_len (fs := fs) (x := x)
        have := tr.few
        exact Nat.le_trans (show l.length + (pathsIn fs x).length ≤ 1000 by omega) (by decide)
      · refine q H2 _ (s1.trans s2) ⟨b, rfl, ?_⟩
        have : l = [] := List.map_eq_nil_iff.mp z
        rw [underF, ← el, this]
        exact e2
      · refine q H2 _ (s1.trans s2) ⟨a, rfl, ?_⟩
        have : pathsIn fs x = [] := List.map_eq_nil_iff.mp z2
        rw [underF, ← el, this, List.append_nil]
        exact e1'
      · refine q _ _ ((s1.trans s2).trans (same_upd nr)) ⟨r, rfl, sqT ?_⟩
        rw [upd_same, underF, ← el, List.map_append]
    have nn : decide (v = V.non) = true ↔ getF fs x = none := by
      rw [decide_eq_true_eq]
      cases e : getF fs x with
      | none => rw [e] at hv; exact ⟨fun _ => rfl, fun _ => hv⟩
      | some l =>
        rw [e] at hv
        obtain ⟨a, rfl, _⟩ := hv
        refine iff_of_false (fun z => ?_) (fun z => ?_) <;> cases z
    refine ite2 (fun e => ?_) (fun e => ?_)
    · exact ⟨by decide, fun a na => fin _ a [] (same_upd na) (sqT upd_same) (by simp) (by rw [if_pos (nn.mp e)])⟩
    · refine ⟨_, rfl, by show 1 ≤ sizeLine; decide, fun a na => fin _ a [x] (same_upd na) (sqT upd_same) (by simp) (by rw [if_neg (fun z => e (nn.mpr z))])⟩
theorem ok_above {f : Addr} {fd : FuncData} (F : Fun K "paths_above" "paths_above" s_paths_above f fd) (T : Tx mg) (M : TreeM P w K mg base C) (CI : Cal P w K mg base 1 "is_inside" ["path", "place"] spInside) : FnOk P w K mg base CX0 4 f fd ["tree", "path"] (spAbove K C) := by
  refine F.ok sc_paths_above (fun vs H Q E h => ?_) (fun cdv A outer s H vs Q E hr h => ?_)
  · obtain ⟨p, x, fs, rfl, _⟩ := h
    rfl
  · obtain ⟨p, x, fs, rfl, tr, sm, hx, q⟩ := h
    refine ⟨_, pss_one (ps_ret (pe_callTy (callTup (K := K) rfl) (by rfl) T.tuple (by decide +kernel) (pa_cons
      (pe_lc (own := [("place", 2)]) rfl sc_paths_above.nd (piT (K := K) rfl (pe_mcal M.tc.cl M.paths hr pass0 (pv 0) (pa_cons pe_str pa_nil))) (blkOk_by (N := n_paths_above) (sc := defScope s_paths_above) (by decide +kernel))
        (fun _ _ _ _ _ => pg_name (i := 2) sc_paths_above.nd rfl (Or.inl rfl)) (fun _ _ _ _ _ => pts_one (pt_val (pe_cal CI hr pass0 (pa_cons (pv 1) (pa_cons (pv 2) pa_nil))))) (fun _ _ _ _ _ => pv 2)) pa_nil))), ?_⟩
    refine tm_paths0 tr sm rfl fun H1 a s1 e1 => ⟨a, rfl, ⟨_, e1⟩, fun D nD => ?_⟩
    refine lc_rel (R := fun H z y => y = V.str z) (as := pathsIn fs "") (p := fun z => inside x z) nD (same_walkT e1) (by simp) (by have := pathsIn_len (fs := fs) (x := ""); have := tr.few; simp; omega) (fun st h => h) (fun i c z hc hz H2 Rk Rn s2 k1 k2 => ?_) fun H2 ws s2 e2 pr2 => ?_
    · have ec : c = V.str z := by
        rw [List.getElem?_map, hz] at hc
        exact (Option.some.inj hc).symm
      subst ec
      refine ⟨by rfl, ?_⟩
      have hz2 : (tl z).length ≤ 1000 := by
        obtain ⟨g, hg, rfl, _⟩ := pathsIn_sub (List.mem_of_getElem? hz)
        exact (sm g hg).1
      refine ⟨_, rfl, _, rfl, x, z, rfl, hx, hz2, fun H3 s3 => ⟨_, rfl, ite2 (fun e => ?_) (fun e => ?_)⟩⟩
      · exact ⟨_, rfl, k1 _ H3 e s3 rfl⟩
      · exact k2 H3 (Bool.eq_false_iff.mpr e) s3
    · refine ⟨D, ws, rfl, .inl ⟨sqL e2, fun r nr => ?_⟩⟩
      refine q _ _ ((s1.trans s2).trans (same_upd nr)) ⟨r, rfl, sqT ?_⟩
      rw [upd_same, paired_map pr2]
      rfl
end
/-! ### words of actions, parts -/
def isQ : Act → Bool
  | .read _ => true
  | .kind _ => true
  | .list _ => true
  | .find _ _ => true
  | .count _ => true
  | _ => false
def spIsQ (K : PySem.W.Frag) : Sp := fun vs H Q _ => ∃ (v : V) (a : Act), vs = [v] ∧ Dt K H v (dA a) ∧ Q (.bl (isQ a)) H
abbrev qWords : List V := [.str "read", .str "kind", .str "list", .str "find", .str "count"]
theorem isQ_word (a : Act) : inV (.str a.word) qWords = isQ a := by cases a <;> (simp only [Act.word, isQ]; decide +kernel)
/-- the module's QUESTIONS -/
def QsIn (K : PySem.W.Frag) (mg : Str → Option Value) : Prop := ∃ d, mg "QUESTIONS" = some (.ref d) ∧ ∀ H : Hp, SqT K H d qWords
def spWithin (K : PySem.W.Frag) : Sp := fun vs H Q _ => ∃ (n : Str) (v : V) (i : Itm), vs = [.str n, v] ∧ typed (n, i) ∧ Dt K H v (dI i) ∧ smallI i ∧ ∀ H', Same H H' → Q (.bl (okItm n i)) H'
section
variable {P : Program} {w : World} {K : PySem.W.Frag} {mg : Str → Option Value} {base : Heap} {C : Addr}
theorem ok_isQ {f : Addr} {fd : FuncData} (F : Fun K "is_question" "is_question" s_is_question f fd) (T : Tx mg) (QI : QsIn K mg) : FnOk P w K mg base CX0 1 f fd ["action"] (spIsQ K) := by
  obtain ⟨d, g, sq⟩ := QI
  refine F.ok sc_is_question (fun vs H Q E h => ?_) (fun cdv A outer s H vs Q E hr h => ?_)
  · obtain ⟨v, a, rfl, _⟩ := h
    rfl
  · obtain ⟨v, a, rfl, hd, q⟩ := h
    refine ⟨_, pss_one (ps_ret (pe_cmpR op_in_seq (pe_ix (ixT (K := K) rfl) (pv 0) pe_int (fun _ _ => rfl)) (pe_glob (v := .ref d) rfl g rfl) (by rfl))), ?_⟩
    obtain ⟨t, vs, rfl, st, dl⟩ := hd.tupE
    cases dl with
    | cons h1 h2 =>
      have e1 := h1.strE
      subst e1
      refine ⟨_, rfl, t, _, 0, .str a.word, rfl, rfl, st, (by exact at_of (j := 0) rfl rfl), d, qWords, rfl, .inr (sq H), rfl, by decide, ?_⟩
      rw [if_neg Bool.false_ne_true, isQ_word]
      exact q
theorem ok_within {f : Addr} {fd : FuncData} (F : Fun K "is_within" "is_within" s_is_within f fd) (T : Tx mg) (C1 : Cal P w K mg base 3 "is_place" ["text"] (spStr isPlace)) (C2 : Cal P w K mg base 2 "is_word" ["text"] (spStr isWord))
    (C3 : Cal P w K mg base 2 "is_path" ["text"] (spStr isPath)) (C4 : Cal P w K mg base 3 "is_lines" ["lines"] (spLines K)) : FnOk P w K mg base CX0 4 f fd ["name", "item"] (spWithin K) := by
  refine F.ok sc_is_within (fun vs H Q E h => ?_) (fun cdv A outer s H vs Q E hr h => ?_)
  · obtain ⟨n, v, i, rfl, _⟩ := h
    rfl
  · obtain ⟨n, v, i, rfl, ty, hd, sm, q⟩ := h
    refine ⟨_, pss_cons (ps_if (pt_cmpR op_eq (pv 0) pe_str (nomark _)) (pss_one (ps_ret (pe_cal C1 hr pass0 (pa_cons (pv 1) pa_nil)))) pss_nil)
      (pss_cons (ps_if (pt_cmpR op_eq (pv 0) pe_str (nomark _)) (pss_one (ps_ret (pe_cal C2 hr pass0 (pa_cons (pv 1) pa_nil)))) pss_nil)
      (pss_cons (ps_if (pt_cmpR op_in_seq (pv 0) (pe_tup (pa_cons pe_str (pa_cons pe_str pa_nil))) (by rfl)) (pss_one (ps_ret (pe_cal C3 hr pass0 (pa_cons (pv 1) pa_nil)))) pss_nil)
      (pss_one (ps_ret (pe_and (pe_cal C4 hr pass0 (pa_cons (pv 1) pa_nil)) (pe_one (pe_or (pe_cmpR op_ne (pv 0) pe_str (nomark _)) (pe_one (pe_cmpR op_gt (pe_callB call_len_seq (by rfl) T.len PySem.boot_len (pa_cons (pv 1) pa_nil)) pe_int (nomark _)))))))))), ?_⟩
    have str_ne : ∀ {x y : Str}, decide (x = y) = false → decide (V.str x = V.str y) = false := fun {x y} e => decide_eq_false fun z => of_decide_eq_false e (V.str.inj z)
    have str_eq : ∀ {x y : Str}, decide (x = y) = true → decide (V.str x = V.str y) = true := fun {x y} e => decide_eq_true (by rw [of_decide_eq_true e])
    have tup2 : ∀ (R : VK), (∀ t, H t = none → R (.bl (inV (.str n) [.str "path", .str "target"])) (upd H t (.tup [.str "path", .str "target"]))) →
        tOp (rIn K false) (tVar 0) (tTup (tCons (tC (.str "path")) (tCons (tC (.str "target")) tNil))) [some (.str n), some v] H R := fun R h => by
      refine ⟨_, rfl, by show 2 ≤ sizeLine; decide, fun t nt => ⟨t, _, rfl, .inr (sqT upd_same), rfl, by decide, ?_⟩⟩
      rw [if_neg Bool.false_ne_true]
      exact h t nt
    cases i with
    | tx z =>
      have e := hd.strE
      subst e
      rcases ty with rfl | rfl | rfl | rfl
      · exact ⟨_, rfl, rfl, _, rfl, iteT ⟨_, rfl, z, rfl, sm, fun H' s => q H' s⟩⟩
      · exact ⟨_, rfl, rfl, _, rfl, iteF ⟨_, rfl, rfl, _, rfl, iteT ⟨_, rfl, z, rfl, sm, fun H' s => q H' s⟩⟩⟩
      · exact ⟨_, rfl, rfl, _, rfl, iteF ⟨_, rfl, rfl, _, rfl, iteF (tup2 _ fun t nt => ⟨_, rfl, iteT ⟨_, rfl, z, rfl, sm, fun H' s => q H' ((same_upd nt).trans s)⟩⟩)⟩⟩
      · exact ⟨_, rfl, rfl, _, rfl, iteF ⟨_, rfl, rfl, _, rfl, iteF (tup2 _ fun t nt => ⟨_, rfl, iteT ⟨_, rfl, z, rfl, sm, fun H' s => q H' ((same_upd nt).trans s)⟩⟩)⟩⟩
    | ln l =>
      obtain ⟨a, rfl, sa⟩ := dt_lines.mp hd
      have len : ∀ H1 : Hp, Same H H1 → SqT K H1 a (l.map V.str) := fun H1 s1 => s1.seqT sa
      have fin : ∀ H1 : Hp, Same H H1 → EvS (tAndV (tCall (spLines K) [] E0 (tCons (tVar 1) tNil)) (tOrV (tOp rNe (tVar 0) (tC (.str "old"))) (tOp (rI0 fun i j => .bl (decide (j < i))) (tCB (fun xs H Q => ∃ p ys, xs = [.ref p] ∧ (SqL K H p ys ∨ SqT K H p ys) ∧ Q (.int ys.length) H) (tCons (tVar 1) tNil)) (tC (.int 0))))) [some (.str n), some (.ref a)] H1 (.bl (isLines l && (!decide (V.str n = V.str "old") || decide ((0 : Int) < ((l.map V.str).length : Nat))))) := fun H1 s1 =>
        evAnd (evLines rfl (len H1 s1) sm.1 sm.2) (evOr (fun H2 s2 R k => ⟨_, rfl, rfl, k H2 (.refl _)⟩) (fun H2 s2 R k => ⟨_, rfl, a, _, rfl, .inr (s2.seqT (len H1 s1)), _, _, rfl, rfl, k H2 (.refl _)⟩))
      have em : (isLines l && (!decide (V.str n = V.str "old") || decide ((0 : Int) < ((l.map V.str).length : Nat)))) = okItm n (.ln l) := by
        show _ = (isLines l && (!decide (n = "old") || decide (0 < l.length)))
        rw [List.length_map, show decide (V.str n = V.str "old") = decide (n = "old") from decide_eq_decide.mpr ⟨V.str.inj, fun z => by rw [z]⟩, show decide ((0 : Int) < (l.length : Nat)) = decide (0 < l.length) from decide_eq_decide.mpr (by omega)]
      rw [em] at fin
      rcases ty with rfl | rfl | rfl
      · exact ⟨_, rfl, rfl, _, rfl, iteF ⟨_, rfl, rfl, _, rfl, iteF (tup2 _ fun t nt => ⟨_, rfl, iteF ((fin _ (same_upd nt)) _ (.refl _) _ fun H2 s2 => q H2 ((same_upd nt).trans s2))⟩)⟩⟩
      · exact ⟨_, rfl, rfl, _, rfl, iteF ⟨_, rfl, rfl, _, rfl, iteF (tup2 _ fun t nt => ⟨_, rfl, iteF ((fin _ (same_upd nt)) _ (.refl _) _ fun H2 s2 => q H2 ((same_upd nt).trans s2))⟩)⟩⟩
      · exact ⟨_, rfl, rfl, _, rfl, iteF ⟨_, rfl, rfl, _, rfl, iteF (tup2 _ fun t nt => ⟨_, rfl, iteF ((fin _ (same_upd nt)) _ (.refl _) _ fun H2 s2 => q H2 ((same_upd nt).trans s2))⟩)⟩⟩
end
end KX

set_option maxRecDepth 100000
set_option maxHeartbeats 4000000
/-! G3: comprehensions of two clauses; the items of a tuple with their indexes. -/
namespace Ga
open PySem PySem.Spec PyProof.Rows L2 TL
theorem walk_enumT {K : PySem.W.Frag} {H : Hp} {a : Addr} {xs : List V} (h : SqT K H a xs) : Walk (IteT K a) xs.length (fun H' => SameT H H') (fun i H1 x H2 => ∃ T y, xs[i]? = some y ∧ x = .ref T ∧ H1 T = none ∧ H2 = upd H1 T (.tup [.int (i : Nat), y])) where
  goes := fun i H1 lt s => ⟨xs, xs[i], s.sq h, List.getElem?_eq_getElem lt⟩
  stops := fun H1 s => ⟨xs, s.sq h, Nat.le_refl _⟩
  yields := fun i H1 x H2 lt s ⟨T, y, e1, e2, e3, e4⟩ => ⟨T, y, e4 xs (s.sq h), e1, e2, e3⟩
/-- what an inner clause is, for the outer item a: its walk, and an element of each of its items -/
def Inn {α β : Type} (bs : α → List β) (p : α → β → Bool) (R : Hp → α → β → V → Prop) (g1 : TG) (tt1 : TT) (te : TE) (vs1 : List Nat) (a : α) (σ2 : L2.St) (J1 : It) (H H4 : Hp) : Prop :=
  Walk J1 (bs a).length (fun H' => SameT H4 H') (fun _ _ _ _ => True) ∧ ∀ (j : Nat) (b : β), (bs a)[j]? = some b → ∀ (H5 : Hp) (x : V) (H6 : Hp), Same H H5 → SameT H4 H5 → J1.yld j H5 x H6 → ∀ (Rk : VK) (Rn : Hp → Prop),
    (∀ y H7, p a b = true → Same H5 H7 → R H7 a b y → Rk y H7) → (∀ H7, p a b = false → Same H5 H7 → Rn H7) → g1 x (wipe σ2 vs1) H6 fun σ3 H7 => wipe σ3 vs1 = wipe σ2 vs1 ∧ tt1 σ3 H7 fun b H8 => if b = true then te σ3 H8 Rk else Rn H8
def pairsOf2 {α β : Type} (bs : α → List β) (p : α → β → Bool) (as : List α) : List (α × β) := as.flatMap fun a => ((bs a).filter (p a)).map fun b => (a, b)
theorem pairs_len {α β : Type} {bs : α → List β} {p : α → β → Bool} {n : Nat} : ∀ {as : List α}, (∀ a ∈ as, (bs a).length ≤ n) → (pairsOf2 bs p as).length ≤ n * as.length
  | [], _ => by simp [pairsOf2]
  | a :: r, h => by
    have ih := pairs_len (p := p) fun b hb => h b (List.mem_cons_of_mem _ hb)
    have h0 := h a List.mem_cons_self
    have h1 : ((bs a).filter (p a)).length ≤ (bs a).length := List.length_filter_le _ _
    show (List.flatMap _ (a :: r)).length ≤ _
    rw [List.flatMap_cons, List.length_append, List.length_map, List.length_cons, Nat.mul_succ]
    have : (pairsOf2 bs p r).length = (List.flatMap (fun a => ((bs a).filter (p a)).map fun b => (a, b)) r).length := rfl
    omega
theorem pairs_snoc {α β : Type} {bs : α → List β} {p : α → β → Bool} {as : List α} {i : Nat} {a : α} (h : as[i]? = some a) : pairsOf2 bs p (as.take (i + 1)) = pairsOf2 bs p (as.take i) ++ ((bs a).filter (p a)).map fun b => (a, b) := by
  unfold pairsOf2
  rw [List.take_add_one, h, List.flatMap_append]
  simp
theorem lc2_rel {α β : Type} {H : Hp} {σ : L2.St} {J : It} {xs : List V} {as : List α} {bs : α → List β} {p : α → β → Bool} {R : Hp → α → β → V → Prop} {g g1 : TG} {wi1 : TI} {tt1 : TT} {te : TE} {vs vs1 : List Nat} {Qd : Hp → Prop} {D : Addr} (nD : H D = none)
    (w : Walk J xs.length (fun H' => Same H H') (YAt xs)) (hal : xs.length = as.length) (hz : xs.length ≤ 1000) (hb : ∀ a ∈ as, (bs a).length ≤ 1000) (hR : ∀ {H1 H2 : Hp} {a : α} {b : β} {y : V}, SameT H1 H2 → R H1 a b y → R H2 a b y)
    (hi : ∀ (i : Nat) (c : V) (a : α), xs[i]? = some c → as[i]? = some a → ∀ (H2 : Hp) (B : L2.St → It → Hp → Prop), Same H H2 → (∀ σ2 J1 H4, Same H2 H4 → Inn bs p R g1 tt1 te vs1 a σ2 J1 H H4 → B σ2 J1 H4) →
      g c (wipe σ vs) H2 fun σ2 H3 => wipe σ2 vs = wipe σ vs ∧ wi1 σ2 H3 fun J1 H4 => B σ2 J1 H4)
    (hq : ∀ H' ys, Same H H' → H' D = some (.lst ys) → Paired (fun (c : α × β) y => R H' c.1 c.2 y) (pairsOf2 bs p as) ys → Qd H') :
    ∃ W : Nat → Nat → Hp → Prop, (∃ m, W 0 m (upd H D (.lst []))) ∧ ∀ i m H, W i m H →
      (J.stop i H ∧ Qd H) ∨ (J.go i H ∧ ∃ Nx : Hp → Prop, (∀ H', Nx H' → ∃ m', m' < m ∧ W (i + 1) m' H') ∧ ∀ x H', J.yld i H x H' → g x (wipe σ vs) H' fun σ2 H2 => wipe σ2 vs = wipe σ vs ∧ tYes σ2 H2 fun b H3 =>
        if b = true then wi1 σ2 H3 fun J1 H4 => ∃ W1 : Nat → Nat → Hp → Prop, (∃ m, W1 0 m H4) ∧ ∀ j k H, W1 j k H →
          (J1.stop j H ∧ Nx H) ∨ (J1.go j H ∧ ∃ Nx1 : Hp → Prop, (∀ H', Nx1 H' → ∃ k', k' < k ∧ W1 (j + 1) k' H') ∧ ∀ x H', J1.yld j H x H' → g1 x (wipe σ2 vs1) H' fun σ3 H5 => wipe σ3 vs1 = wipe σ2 vs1 ∧ tt1 σ3 H5 fun b H6 =>
            if b = true then te σ3 H6 fun y H7 => ∃ acc, H7 D = some (.lst acc) ∧ acc.length < sizeLine ∧ Nx1 (upd H7 D (.lst (acc ++ [y]))) else Nx1 H6)
        else Nx H3) := by
  let Rr : Hp → α × β → V → Prop := fun H c y => R H c.1 c.2 y
  let St : Nat → Hp → Prop := fun i H' => i ≤ xs.length ∧ Same H H' ∧ ∃ ys, H' D = some (.lst ys) ∧ Paired (Rr H') (pairsOf2 bs p (as.take i)) ys
  refine ⟨fun i m H' => m = xs.length - i ∧ St i H', ⟨xs.length, by simp, Nat.zero_le _, same_upd nD, [], upd_same, by simp [pairsOf2]; exact .nil⟩, ?_⟩
  rintro i m H2 ⟨rfl, hle, s, ys, d, pr⟩
  by_cases hlt : i < xs.length
  · refine .inr ⟨w.goes i H2 hlt s, St (i + 1), fun H' q => ⟨xs.length - (i + 1), by omega, rfl, q⟩, fun x H3 y => ?_⟩
    obtain ⟨rfl, hg⟩ := w.yields i H2 x H3 hlt s y
    obtain ⟨a, ha⟩ : ∃ a, as[i]? = some a := ⟨_, List.getElem?_eq_getElem (by omega)⟩
    have ham := List.mem_of_getElem? ha
    refine hi i x a hg ha H3 _ s fun σ2 J1 H4 s4 inn => ?_
    obtain ⟨w1, el⟩ := inn
    let Mid : Nat → Hp → Prop := fun j H' => j ≤ (bs a).length ∧ (Same H H' ∧ SameT H4 H') ∧ ∃ zs, H' D = some (.lst zs) ∧ Paired (Rr H') (pairsOf2 bs p (as.take i) ++ (((bs a).take j).filter (p a)).map fun b => (a, b)) zs
    refine ⟨fun j k H' => k = (bs a).length - j ∧ Mid j H', ⟨(bs a).length, by simp, Nat.zero_le _, ⟨s.trans s4, .refl _⟩, ys, s4 _ _ d, by simp; exact pr.mono fun _ _ r => hR s4.t r⟩, ?_⟩
    rintro j k H5 ⟨rfl, hj, s5, zs, d5, pr5⟩
    by_cases hlj : j < (bs a).length
    · refine .inr ⟨w1.goes j H5 hlj s5.2, Mid (j + 1), fun H' q => ⟨(bs a).length - (j + 1), by omega, rfl, q⟩, fun z H6 y6 => ?_⟩
      have hbj : (bs a)[j]? = some (bs a)[j] := List.getElem?_eq_getElem hlj
      refine el j _ hbj H5 z H6 s5.1 s5.2 y6 _ _ (fun v H7 pp s7 r7 => ?_) (fun H7 pp s7 => ?_)
      · refine ⟨zs, s7 _ _ d5, ?_, hlj, ⟨(s5.1.trans s7).mut nD, (s5.2.trans s7.t).trans (.put (s7 _ _ d5) rfl)⟩, zs ++ [v], upd_same, ?_⟩
        · rw [← pr5.length, List.length_append, List.length_map]
          have l1 := pairs_len (p := p) (n := 1000) fun c (hc : c ∈ as.take i) => hb c (List.mem_of_mem_take hc)
          have l2 : (((bs a).take j).filter (p a)).length ≤ 1000 := Nat.le_trans (List.length_filter_le _ _) (by rw [List.length_take]; exact Nat.le_trans (Nat.min_le_right _ _) (hb a ham))
          have l3 : (as.take i).length ≤ 1000 := by rw [List.length_take, ← hal]; exact Nat.le_trans (Nat.min_le_right _ _) hz
          have l4 : 1000 * (as.take i).length ≤ 1000 * 1000 := Nat.mul_le_mul_left _ l3
          have : sizeLine = 16777216 := by decide
          omega
        · rw [filter_take_succ hbj, if_pos pp, List.map_append, ← List.append_assoc]
          have st : SameT H7 (upd H7 D (.lst (zs ++ [v]))) := .put (s7 _ _ d5) rfl
          exact Paired.snoc (pr5.mono fun _ _ q => hR (s7.t.trans st) q) (hR st r7)
      · refine ⟨hlj, ⟨s5.1.trans s7, s5.2.trans s7.t⟩, zs, s7 _ _ d5, ?_⟩
        rw [filter_take_succ hbj, pp, if_neg Bool.false_ne_true, List.append_nil]
        exact pr5.mono fun _ _ q => hR s7.t q
    · have e : j = (bs a).length := by omega
      subst e
      refine .inl ⟨w1.stops H5 s5.2, hlt, s5.1, zs, d5, ?_⟩
      rw [pairs_snoc ha]
      rw [List.take_length] at pr5
      exact pr5
  · have e : i = xs.length := by omega
    subst e
    refine .inl ⟨w.stops H2 s, hq H2 ys s d ?_⟩
    rw [hal, List.take_length] at pr
    exact pr
end Ga

set_option maxRecDepth 100000
set_option maxHeartbeats 4000000
/-! Hc: places_of, the answers to questions. -/
namespace KX
open PySem PySem.Spec PyProof.Rows L2 TL Ga PySem.Froz
/-! ### tests -/
section
variable {K : PySem.W.Frag} {H : Hp} {σ : L2.St} {p q : Bool} {te : TE} {ta tb : TT}
def EvT (te : TT) (σ : L2.St) (H : Hp) (b : Bool) : Prop := ∀ H1, Same H H1 → ∀ Q : Bool → Hp → Prop, (∀ H2, Same H1 H2 → Q b H2) → te σ H1 Q
theorem etVal (h : EvS te σ H (.bl p)) : EvT (tB te) σ H p := fun H1 s Q k => h H1 s _ fun H2 s2 => ⟨p, rfl, k H2 s2⟩
theorem etNot (h : EvT ta σ H p) : EvT (tNot ta) σ H (!p) := fun H1 s Q k => h H1 s _ fun H2 s2 => k H2 s2
theorem etAnd (ha : EvT ta σ H p) (hb : EvT tb σ H q) : EvT (tAnd ta tb) σ H (p && q) := fun H1 s Q k => by
  refine ha H1 s _ fun H2 s2 => ?_
  cases p with
  | true => exact hb H2 (s.trans s2) _ fun H3 s3 => k H3 (s2.trans s3)
  | false => exact k H2 s2
theorem etOr (ha : EvT ta σ H p) (hb : EvT tb σ H q) : EvT (tOr ta tb) σ H (p || q) := fun H1 s Q k => by
  refine ha H1 s _ fun H2 s2 => ?_
  cases p with
  | true => exact k H2 s2
  | false => exact hb H2 (s.trans s2) _ fun H3 s3 => k H3 (s2.trans s3)
theorem etNe {i j : Nat} {x y : Str} (h : σ[i]? = some (some (.str x))) (g : σ[j]? = some (some (.str y))) : EvT (tTest (tOp rNe (tVar i) (tVar j))) σ H (!decide (x = y)) := fun H1 s Q k =>
  ⟨_, h, _, g, rfl, _, rfl, by
    have : decide (V.str x = V.str y) = decide (x = y) := decide_eq_decide.mpr ⟨V.str.inj, fun z => by rw [z]⟩
    rw [this]
    exact k H1 (.refl _)⟩
theorem EvT.go {b : Bool} (h : EvT ta σ H b) {Q : Bool → Hp → Prop} (k : ∀ H2, Same H H2 → Q b H2) : ta σ H Q := h H (.refl _) Q k
end

/-! ### answers -/
def dNone : PyData := .tuple [.str "none"]
def aRead (fs : List File) (x : Str) : PyData := match getF fs x with
  | none => dNone
  | some l => .tuple [.str "lines", dL l]
def aKind (fs : List File) (x : Str) : PyData := if (getF fs x).isSome = true then .tuple [.str "file"] else if isFolder fs x = true then .tuple [.str "folder"] else dNone
def aCount (fs : List File) (x : Str) : PyData := if isFolder fs x = true then .tuple [.str "many", .int ((pathsIn fs x).length : Nat)] else dNone
def firstName (z : Str) : Str := (Txt.partition z sl).1 ++ (Txt.partition z sl).2.1
def restOf (x z : Str) : Str := cutS z (some (if x = "" then 0 else (x.length : Int) + 1)) none
def srtS (l : List Str) : List Str := (srtF (l.map fun z => (z, []))).map (·.1)
def ddS (l : List Str) : List Str := l.foldl (fun acc z => insX z acc) []
def namesF (fs : List File) (x : Str) : List Str := srtS (ddS ((pathsIn fs x).map fun z => firstName (restOf x z)))
def aList (fs : List File) (x : Str) : PyData := if isFolder fs x = true then .tuple [.str "names", dL (namesF fs x)] else dNone
/-- the word occurs in the line -/
def occ (w l : Str) : Bool := !(Builtin.Str.occurrences l w 0 l.length 1).isEmpty
def rowsF (fs : List File) (x w : Str) : List (Str × Str × Nat) := pairsOf2 (fun z => ((getF fs z).getD []).zipIdx) (fun _ b => occ w b.1) (underF fs x)
def dRow (c : Str × Str × Nat) : PyData := .tuple [.str c.1, .int (c.2.2 : Nat)]
def aFind (fs : List File) (x w : Str) : PyData := if underF fs x = [] ∧ isFolder fs x = false then dNone else .tuple [.str "found", .tuple ((rowsF fs x w).map dRow)]
/-- an answer to a question about a place -/
def spAns (K : PySem.W.Frag) (C : Addr) (fm : List File → Str → PyData) : Sp := fun vs H Q _ => ∃ (p : Addr) (x : Str) (fs : List File), vs = [.ref p, .str x] ∧ TreeAt K C H p fs ∧ Sml fs ∧ (tl x).length ≤ 1000 ∧ ∀ H' v, Same H H' → Dt K H' v (fm fs x) → Q v H'
def spAnsW (K : PySem.W.Frag) (C : Addr) (fm : List File → Str → Str → PyData) : Sp := fun vs H Q _ => ∃ (p : Addr) (x w : Str) (fs : List File), vs = [.ref p, .str x, .str w] ∧ TreeAt K C H p fs ∧ Sml fs ∧ (tl x).length ≤ 1000 ∧ ∀ H' v, Same H H' → Dt K H' v (fm fs x w) → Q v H'
def spotsF (l o : List Str) : List Nat := (List.range (l.length + 1 - o.length)).filter fun i => decide ((l.drop i).take o.length = o)
def spPlaces (K : PySem.W.Frag) : Sp := fun vs H Q _ => ∃ (a b : Addr) (l o : List Str), vs = [.ref a, .ref b] ∧ SqT K H a (l.map V.str) ∧ SqT K H b (o.map V.str) ∧ l.length ≤ 1000 ∧ o.length ≤ 1000 ∧ (∀ z ∈ l, PyData.strOk z = true) ∧ (∀ z ∈ o, PyData.strOk z = true) ∧
  ∀ H' p, Same H H' → H p = none → H' p = some (.lst ((spotsF l o).map fun i => V.int (i : Nat))) → Q (.ref p) H'
section
variable {K : PySem.W.Frag} {H : Hp} {σ : L2.St} {Q : VK}
/-- ("word",) -/
theorem word1 {z : Str} (q : ∀ H' v, Same H H' → Dt K H' v (.tuple [.str z]) → Q v H') : tTup (tCons (tC (.str z)) tNil) σ H Q :=
  ⟨by show 1 ≤ sizeLine; decide, fun t nt => q _ _ (same_upd nt) (dt1 (sqT upd_same) (.str z))⟩
end
section
variable {P : Program} {w : World} {K : PySem.W.Frag} {mg : Str → Option Value} {base : Heap} {C : Addr}
theorem ok_aread {f : Addr} {fd : FuncData} (F : Fun K "answer_read" "answer_read" s_answer_read f fd) (M : TreeM P w K mg base C) : FnOk P w K mg base CX0 4 f fd ["tree", "path"] (spAns K C aRead) := by
  refine F.ok sc_answer_read (fun vs H Q E h => ?_) (fun cdv A outer s H vs Q E hr h => ?_)
  · obtain ⟨p, x, fs, rfl, _⟩ := h
    rfl
  · obtain ⟨p, x, fs, rfl, tr, sm, hx, q⟩ := h
    refine ⟨_, pss_cons (ps_set (i := 2) sc_answer_read.nd rfl (.inl rfl) (pe_mcal M.tc.cl M.lines hr pass0 (pv 0) (pa_cons (pv 1) pa_nil)))
      (pss_one (ps_ret (pe_ifExp (pt_cmpR op_isN (pv 2) pe_non (nomark _)) (pe_tup (pa_cons pe_str pa_nil)) (pe_tup (pa_cons pe_str (pa_cons (pv 2) pa_nil)))))), ?_⟩
    refine tm_lines tr rfl rfl fun v hv => ?_
    cases e : getF fs x with
    | none =>
      rw [e] at hv
      have hv : v = .non := hv
      subst hv
      refine ⟨_, rfl, rfl, _, rfl, ite2 (fun _ => ?_) (fun z => absurd rfl z)⟩
      exact word1 fun H' v s d => q H' v s (by rw [aRead, e]; exact d)
    | some l =>
      rw [e] at hv
      obtain ⟨a, rfl, sa⟩ := id hv
      refine ⟨_, rfl, rfl, _, rfl, ite2 (fun z => nomatch (of_decide_eq_true z)) (fun _ => ?_)⟩
      refine ⟨_, rfl, by show 2 ≤ sizeLine; decide, fun t nt => q _ _ (same_upd nt) ?_⟩
      rw [aRead, e]
      exact dt2 (sqT upd_same) (.str _) (dt_lines.mpr (LinesAt.st hv (same_upd nt).t))
theorem ok_akind {f : Addr} {fd : FuncData} (F : Fun K "answer_kind" "answer_kind" s_answer_kind f fd) (M : TreeM P w K mg base C) : FnOk P w K mg base CX0 4 f fd ["tree", "place"] (spAns K C aKind) := by
  refine F.ok sc_answer_kind (fun vs H Q E h => ?_) (fun cdv A outer s H vs Q E hr h => ?_)
  · obtain ⟨p, x, fs, rfl, _⟩ := h
    rfl
  · obtain ⟨p, x, fs, rfl, tr, sm, hx, q⟩ := h
    refine ⟨_, pss_cons (ps_if (pt_cmpR op_notN (pe_mcal M.tc.cl M.lines hr pass0 (pv 0) (pa_cons (pv 1) pa_nil)) pe_non (nomark _)) (pss_one (ps_ret (pe_tup (pa_cons pe_str pa_nil)))) pss_nil)
      (pss_one (ps_ret (pe_ifExp (pt_val (pe_mcal M.tc.cl M.folder hr pass0 (pv 0) (pa_cons (pv 1) pa_nil))) (pe_tup (pa_cons pe_str pa_nil)) (pe_tup (pa_cons pe_str pa_nil))))), ?_⟩
    refine tm_lines tr rfl rfl fun v hv => ⟨rfl, _, rfl, ?_⟩
    cases e : getF fs x with
    | some l =>
      rw [e] at hv
      obtain ⟨a, rfl, sa⟩ := id hv
      refine ite2 (fun _ => ?_) (fun z => absurd rfl z)
      exact word1 fun H' v s d => q H' v s (by rw [aKind, e]; exact d)
    | none =>
      rw [e] at hv
      have hv : v = .non := hv
      subst hv
      refine ite2 (fun z => nomatch z) (fun _ => ?_)
      refine tm_folder tr sm hx rfl rfl fun H1 s1 => ⟨_, rfl, ite2 (fun b => ?_) (fun b => ?_)⟩
      · exact word1 fun H' v s d => q H' v (s1.trans s) (by rw [aKind, e, if_neg (by simp), if_pos b]; exact d)
      · exact word1 fun H' v s d => q H' v (s1.trans s) (by rw [aKind, e, if_neg (by simp), if_neg b]; exact d)
theorem ok_acount {f : Addr} {fd : FuncData} (F : Fun K "answer_count" "answer_count" s_answer_count f fd) (T : Tx mg) (M : TreeM P w K mg base C) : FnOk P w K mg base CX0 4 f fd ["tree", "place"] (spAns K C aCount) := by
  refine F.ok sc_answer_count (fun vs H Q E h => ?_) (fun cdv A outer s H vs Q E hr h => ?_)
  · obtain ⟨p, x, fs, rfl, _⟩ := h
    rfl
  · obtain ⟨p, x, fs, rfl, tr, sm, hx, q⟩ := h
    refine ⟨_, pss_one (ps_ret (pe_ifExp (pt_val (pe_mcal M.tc.cl M.folder hr pass0 (pv 0) (pa_cons (pv 1) pa_nil)))
      (pe_tup (pa_cons pe_str (pa_cons (pe_callB call_len_seq (by rfl) T.len PySem.boot_len (pa_cons (pe_mcal M.tc.cl M.paths hr pass0 (pv 0) (pa_cons (pv 1) pa_nil)) pa_nil)) pa_nil))) (pe_tup (pa_cons pe_str pa_nil)))), ?_⟩
    refine tm_folder tr sm hx rfl rfl fun H1 s1 => ⟨_, rfl, ite2 (fun b => ?_) (fun b => ?_)⟩
    · refine tm_paths (tr.same s1) sm hx rfl rfl fun H2 a s2 e2 => ⟨a, _, rfl, .inr e2, by show 2 ≤ sizeLine; decide, fun t nt => q _ _ ((s1.trans s2).trans (same_upd nt)) ?_⟩
      rw [aCount, if_pos b]
      refine dt2 (sqT upd_same) (.str _) ?_
      rw [List.length_map]
      exact .int _
    · exact word1 fun H' v s d => q H' v (s1.trans s) (by rw [aCount, if_neg b]; exact d)
theorem tlen_of {z : Str} (h : (tl z).length ≤ 1000) : z.length ≤ sizeLine := lenle h
end
end KX

set_option maxRecDepth 100000
set_option maxHeartbeats 4000000
/-! Hd: first_name, answer_list, answer_find, places_of. -/
namespace KX
open PySem PySem.Spec PyProof.Rows L2 TL Ga PySem.Froz
def spStrS (f : Str → Str) : Sp := fun vs H Q _ => ∃ z : Str, vs = [.str z] ∧ (tl z).length ≤ 1000 ∧ ∀ H', Same H H' → Q (.str (f z)) H'
theorem part_len (z : Str) : (tl (Txt.partition z sl).1).length ≤ (tl z).length ∧ (tl (Txt.partition z sl).2.1).length ≤ 1 := by
  rcases PyProof.Rows.partition_whole z sl with ⟨e, _⟩ | ⟨i, e, _⟩
  · rw [e]
    exact ⟨Nat.le_refl _, (by decide : (tl Str.empty).length ≤ 1)⟩
  · rw [e]
    refine ⟨?_, by rw [tl_sl]; exact Nat.le_refl _⟩
    show (tl (PySem.Builtin.Str.strSub z 0 i)).length ≤ _
    rw [TL.tl_strSub, List.drop_zero, List.length_take]
    exact Nat.min_le_right _ _
section
variable {K : PySem.W.Frag} {H : Hp} {σ : L2.St} {v : V} {b : Bool} {t : TT} {ta tb : TE}
theorem evIf (hb : EvT t σ H b) (h1 : b = true → EvS ta σ H v) (h2 : b = false → EvS tb σ H v) : EvS (tIf t ta tb) σ H v := fun H1 s Q k => hb H1 s _ fun H2 s2 => by
  cases b with
  | true => exact iteT (h1 rfl H2 (s.trans s2) Q fun H3 s3 => k H3 (s2.trans s3))
  | false => exact iteF (h2 rfl H2 (s.trans s2) Q fun H3 s3 => k H3 (s2.trans s3))
theorem evC : EvS (tC v) σ H v := fun H1 s Q k => k H1 (.refl _)
theorem etEqC {i : Nat} {x c : Str} (h : σ[i]? = some (some (.str x))) : EvT (tTest (tOp rEq (tVar i) (tC (.str c)))) σ H (decide (x = c)) := fun H1 s Q k => ⟨_, h, rfl, _, rfl, by
    have : decide (V.str x = V.str c) = decide (x = c) := decide_eq_decide.mpr ⟨V.str.inj, fun z => by rw [z]⟩
    rw [this]
    exact k H1 (.refl _)⟩
end
/-- {f(z) for z in walk}, then sorted -/
theorem sx_rel {P : Program} {w : World} {H : Hp} {σ : L2.St} {J : It} {xs : List Str} {g : TG} {te : TE} {vs : List Nat} {fn : Str → Str} {Qd : Hp → Prop} {D : Addr} (nD : H D = none) (wk : Walk J xs.length (fun H' => Same H H') (YAt (xs.map V.str))) (hz : xs.length ≤ 60)
    (he : ∀ (i : Nat) (z : Str), xs[i]? = some z → ∀ (H2 : Hp) (Rk : VK), Same H H2 → (∀ H3, Same H2 H3 → Rk (.str (fn z)) H3) → g (.str z) (wipe σ vs) H2 fun σ2 H3 => wipe σ2 vs = wipe σ vs ∧ te σ2 H3 Rk)
    (hq : ∀ H' l, Same H H' → H' D = some (SetXO P w D l) → l.Nodup → l.length ≤ 60 → l = ddS (xs.map fn) → Qd H') :
    ∃ W : Nat → Nat → Hp → Prop, (∃ m, W 0 m (upd H D (SetXO P w D []))) ∧ ∀ i m H', W i m H' →
      (J.stop i H' ∧ Qd H') ∨ (J.go i H' ∧ ∃ Nx : Hp → Prop, (∀ H2, Nx H2 → ∃ m', m' < m ∧ W (i + 1) m' H2) ∧ ∀ x H2, J.yld i H' x H2 → g x (wipe σ vs) H2 fun σ2 H3 => wipe σ2 vs = wipe σ vs ∧ tYes σ2 H3 fun b H4 =>
        if b = true then te σ2 H4 fun y H5 => ∃ (z : Str) (l : List Str), y = .str z ∧ H5 D = some (SetXO P w D l) ∧ l.length + 1 < scanBound ∧ Nx (upd H5 D (SetXO P w D (insX z l))) else Nx H4) := by
  let St : Nat → Hp → Prop := fun i H' => i ≤ xs.length ∧ Same H H' ∧ ∃ l, H' D = some (SetXO P w D l) ∧ l.Nodup ∧ l.length ≤ i ∧ l = ddS ((xs.take i).map fn)
  refine ⟨fun i m H' => m = xs.length - i ∧ St i H', ⟨xs.length, by simp, Nat.zero_le _, same_upd nD, [], upd_same, List.nodup_nil, Nat.le_refl _, by simp [ddS]⟩, ?_⟩
  rintro i m H2 ⟨rfl, hle, s, l, d, nd, hl, el⟩
  by_cases hlt : i < xs.length
  · refine .inr ⟨wk.goes i H2 hlt s, St (i + 1), fun H' q => ⟨xs.length - (i + 1), by omega, rfl, q⟩, fun x H3 y => ?_⟩
    obtain ⟨rfl, hg⟩ := wk.yields i H2 x H3 hlt s y
    rw [List.getElem?_map, List.getElem?_eq_getElem hlt] at hg
    have hg := (Option.some.inj hg).symm
    subst hg
    refine he i _ (List.getElem?_eq_getElem hlt) H3 _ s fun H4 s4 => ⟨_, l, rfl, s4 _ _ d, by unfold scanBound; omega, hlt, (s.trans s4).mut nD, _, upd_same, insX_nodup nd, Nat.le_trans (insX_len _ _) (by omega), ?_⟩
    rw [List.take_add_one, List.getElem?_eq_getElem hlt, List.map_append, ddS, List.foldl_append]
    rw [ddS] at el
    rw [← el]
    rfl
  · have e : i = xs.length := by omega
    subst e
    rw [List.take_length] at el
    exact .inl ⟨wk.stops H2 s, hq H2 l s d nd (by omega) el⟩
theorem cut_le {z : Str} {lo hi : Option Int} : (tl (cutS z lo hi)).length ≤ (tl z).length := by
  unfold cutS
  rw [tl_mk, List.length_take, List.length_drop]
  have : z.cps.toList.length = (tl z).length := rfl
  omega
theorem srtS_is {ys l : List Str} (p : ys.Perm l) (h : sortedS ys = true) : ys = srtS l := by
  refine sorted_is (fs := l.map fun z => (z, [])) ?_ h
  rw [List.map_map]
  simpa [Function.comp_def] using p
theorem srtS_perm (l : List Str) : (srtS l).Perm l := by
  have := (srtF_perm (l.map fun z => (z, []))).map (·.1)
  rw [List.map_map] at this
  simpa [Function.comp_def, srtS] using this
section
variable {P : Program} {w : World} {K : PySem.W.Frag} {mg : Str → Option Value} {base : Heap} {C : Addr}
theorem ok_first {f : Addr} {fd : FuncData} (F : Fun K "first_name" "first_name" s_first_name f fd) (T : Tx mg) : FnOk P w K mg base CX0 1 f fd ["path"] (spStrS firstName) := by
  refine F.ok sc_first_name (fun vs H Q E h => ?_) (fun cdv A outer s H vs Q E hr h => ?_)
  · obtain ⟨z, rfl, _⟩ := h
    rfl
  · obtain ⟨z, rfl, hz, q⟩ := h
    refine ⟨_, pss_cons (ps_asg (pe_partition (pv 0) pe_str) (pgT (K := K) (n := 3) rfl rfl (pgs_cons (pg_name (i := 1) sc_first_name.nd rfl (Or.inl rfl)) (pgs_cons (pg_name (i := 2) sc_first_name.nd rfl (Or.inl rfl)) (pgs_cons (pg_name (i := 3) sc_first_name.nd rfl (Or.inl rfl)) pgs_nil)))))
      (pss_one (ps_ret (pe_op op_add_str (pv 1) (pv 2)))), ?_⟩
    have pl := part_len z
    refine ⟨_, rfl, ⟨z, rfl⟩, z, sl, rfl, rfl, by decide, lenle hz, fun p np => ⟨p, _, rfl, sqT upd_same, rfl, ?_⟩⟩
    refine ⟨_, _, rfl, _, _, rfl, _, _, rfl, rfl, _, rfl, _, rfl, _, _, rfl, rfl, ?_, q _ (same_upd np)⟩
    rw [len_tl, len_tl]
    exact Nat.le_trans (show _ ≤ 1001 by omega) (by decide)
theorem ok_alist {f : Addr} {fd : FuncData} (F : Fun K "answer_list" "answer_list" s_answer_list f fd) (T : Tx mg) (M : TreeM P w K mg base C) (CF : Cal P w K mg base 1 "first_name" ["path"] (spStrS firstName)) : FnOk P w K mg base CX0 4 f fd ["tree", "place"] (spAns K C aList) := by
  refine F.ok sc_answer_list (fun vs H Q E h => ?_) (fun cdv A outer s H vs Q E hr h => ?_)
  · obtain ⟨p, x, fs, rfl, _⟩ := h
    rfl
  · obtain ⟨p, x, fs, rfl, tr, sm, hx, q⟩ := h
    refine ⟨_, pss_cons (ps_if (pt_not (pt_val (pe_mcal M.tc.cl M.folder hr pass0 (pv 0) (pa_cons (pv 1) pa_nil)))) (pss_one (ps_ret (pe_tup (pa_cons pe_str pa_nil)))) pss_nil)
      (pss_cons (ps_set (i := 2) sc_answer_list.nd rfl (.inr rfl) (pe_ifExp (pt_cmpR op_eq (pv 1) pe_str (nomark _)) pe_int (pe_op op_add (pe_callB call_len_str (by rfl) T.len PySem.boot_len (pa_cons (pv 1) pa_nil)) pe_int)))
      (pss_one (ps_ret (pe_tup (pa_cons pe_str (pa_cons (pe_callTy (callTup (K := K) rfl) (by rfl) T.tuple (by decide +kernel) (pa_cons (pe_callB (cr_sortX rfl) (by rfl) T.sorted (by decide +kernel) (pa_cons
        (pe_sx (own := [("path", 3)]) rfl sc_answer_list.nd (piT (K := K) rfl (pe_mcal M.tc.cl M.paths hr pass0 (pv 0) (pa_cons (pv 1) pa_nil))) (blkOk_by (N := n_answer_list) (sc := defScope s_answer_list) (by decide +kernel))
          (fun _ _ _ _ _ => pg_name (i := 3) sc_answer_list.nd rfl (Or.inl rfl)) (fun _ _ _ _ _ => pts_nil)
          (fun _ _ _ _ _ => pe_cal CF hr pass0 (pa_cons (pe_slice sl_str (pv 3) (po_some (pv 2)) po_none) pa_nil))) pa_nil)) pa_nil)) pa_nil)))))), ?_⟩
    refine tm_folder tr sm hx rfl rfl fun H1 s1 => ⟨_, rfl, ite2 (fun b => ?_) (fun b => ?_)⟩
    · exact word1 fun H' v s d => q H' v (s1.trans s) (by rw [aList, not_t b, if_neg Bool.false_ne_true]; exact d)
    · have fo := not_f b
      refine (evIf (v := .int (if x = "" then 0 else (x.length : Int) + 1)) (etEqC rfl) (fun e => ?_) (fun e => ?_)) H1 (.refl _) _ fun H2 s2 => ?_
      · rw [if_pos (of_decide_eq_true e)]
        exact evC
      · rw [if_neg (of_decide_eq_false e)]
        exact fun H3 s3 Q k => ⟨_, rfl, x, rfl, lenle hx, _, _, rfl, rfl, k H3 (.refl _)⟩
      have s12 := s1.trans s2
      refine tm_paths (tr.same s12) sm hx rfl rfl fun H3 a s3 e3 => ⟨a, rfl, ⟨_, e3⟩, fun D nD => ?_⟩
      have l40 : (pathsIn fs x).length ≤ 60 := by have := pathsIn_len (fs := fs) (x := x); have := tr.few; omega
      refine sx_rel (fn := fun z => firstName (restOf x z)) (xs := pathsIn fs x) nD (by have := same_walkT (K := K) e3; rwa [List.length_map] at this) l40 (fun i z hz H4 Rk s4 k => ?_) fun H4 l s4 d nd hl el => ?_
      · refine ⟨by rfl, ?_⟩
        have hz2 : (tl z).length ≤ 1000 := by
          obtain ⟨g, hg, rfl, _⟩ := pathsIn_sub (List.mem_of_getElem? hz)
          exact (sm g hg).1
        exact ⟨_, rfl, _, rfl, _, rfl, z, rfl, lenle hz2, _, rfl, Nat.le_trans cut_le hz2, fun H5 s5 => k H5 s5⟩
      · refine ⟨D, l, rfl, d, nd, by omega, fun ys r pm so nr => ?_⟩
        refine ⟨r, _, rfl, .inl ⟨sqL upd_same, fun u nu => ⟨by show 2 ≤ sizeLine; decide, fun t nt => ?_⟩⟩⟩
        have sb := (((s12.trans s3).trans s4).trans (same_upd (o := .lst (ys.map V.str)) nr)).trans (same_upd (o := .tup (ys.map V.str)) nu)
        refine q _ _ (sb.trans (same_upd nt)) ?_
        rw [aList, if_pos fo]
        refine dt2 (sqT upd_same) (.str _) (dt_lines.mpr ⟨u, rfl, ?_⟩)
        refine (same_upd nt).seqT (sqT ?_)
        rw [upd_same, srtS_is pm so, el]
        rfl
end
end KX

set_option maxRecDepth 100000
set_option maxHeartbeats 4000000
/-! G4: enumerate(t), t a tuple. -/
namespace Ga
open PySem PySem.Spec PyProof.Rows L2 TL AutoSeq1
def itT (l : Addr) : Obj := { cls := .type "tuple_iterator", data := .fields #[.ref l, .int 0 0] }
def enT (it : Addr) : Obj := { cls := .type "enumerate", data := .fields #[.none, .bool false, .ref it, rawInt 0, .none, .none] }
theorem enum_newT (l : Addr) (its : Array Value) (n : Nat) (dct : Option Addr) (sl : Array (Option Value)) :
    Meets (Builtin.«enumerate.__new__» ⟨[.type "enumerate", .ref l], []⟩) fun _ R s => s.heap.get? l = some ⟨.type "tuple", dct, .seq its n, sl⟩ ∧
      R (.ok (.ret (.ref (s.heap.push (itT l)).objs.size))) { s with heap := (s.heap.push (itT l)).push (enT s.heap.objs.size) } :=
  .of_wp fun P w A R s h => by
    obtain ⟨hp, g, d, tk, os⟩ := s
    obtain ⟨at_l, fin⟩ := h
    have kind := sub_enumerate
    have T : Heap.IsTuple (Shared.heap ⟨hp, g, d, tk, os⟩) l its := ⟨_, at_l, rfl, n, rfl⟩
    wp_walk using wpAny_loadPart' at_l
    refine wpAny_stack_any fun fr => wpAny_pure ?_
    split
    · rename_i c _ _ _ _ _
      cases (c == Value.type "enumerate") <;> (wp_walk using wpAny_loadPart' at_l, wpAny_pyIter_tuple T; exact ⟨_, rfl, fin⟩)
    · wp_walk using wpAny_loadPart' at_l, wpAny_pyIter_tuple T
      exact ⟨_, rfl, fin⟩
section
variable {P : Program} {w : World} {A : Around} {E : Value → Shared → Prop} {s : Shared}
theorem call_enumT {l : Addr} {its : Array Value} {Q : Value → Shared → Prop} (T : s.heap.IsTuple l its)
    (q : ∀ h', IsEnum h' (s.heap.objs.size + 1) s.heap.objs.size 0 .none → h'.IsTupleIter s.heap.objs.size l 0 → (∀ b o, s.heap.get? b = some o → h'.get? b = some o) → Q (.ref (s.heap.objs.size + 1)) { s with heap := h' }) :
    wpAny (model P w) A (call (.type "enumerate") [.ref l]) Q E s := by
  obtain ⟨⟨c, dct, dt, sl⟩, at_l, ec, n, ed⟩ := T
  obtain rfl : c = .type "tuple" := ec
  obtain rfl : dt = .seq its n := ed
  refine callType_new F.called_enumerate (by decide) (F.typeCall_enumerate_1 _) (F.newCall_enumerate_1 _) (fun obj => F.args_object_init_2 obj _) F.entry_enumerate_new (enum_newT l its n dct sl) ⟨at_l, ?_⟩
  have sz : (s.heap.push (itT l)).objs.size = s.heap.objs.size + 1 := Heap.size_push ..
  show _ ∧ _
  rw [sz]
  have e : IsEnum ((s.heap.push (itT l)).push (enT s.heap.objs.size)) (s.heap.objs.size + 1) s.heap.objs.size 0 .none := by
    have := Heap.get?_push_size (s.heap.push (itT l)) (o := enT s.heap.objs.size) rfl
    rw [sz] at this
    exact this
  exact ⟨⟨_, e, rfl⟩, q _ e ⟨_, Heap.get?_push_of_some _ (Heap.get?_push_size _ rfl), rfl, rfl⟩ fun b o z => Heap.get?_push_of_some _ (Heap.get?_push_of_some _ z)⟩
end
def iEnT (K : PySem.W.Frag) (ta : TE) : TI := fun σ H R => ta σ H fun v H1 => ∃ a xs, v = .ref a ∧ SqT K H1 a xs ∧ R (IteT K a) H1
theorem piE {X : Cx} {K : PySem.W.Frag} (h : X.K = K) {e : Expr} {ta : TE} {p pos tpos : Pos} {elts : List Expr} {kk : Nat} (hg : Gl X "enumerate") (hm : X.mg "enumerate" = none) (he : PE X e ta) (hs : starEach [e] X.env = [(false, eval e X.env)] := by rfl) :
    PI X (.Tuple elts kk tpos) (.Call (.Name "enumerate" p) [e] [] pos) (iEnT K ta) := by
  subst h
  refine ⟨fun pins s σ H R I h => ?_⟩
  refine Call_ (ld_blt I hg hm boot_enumerate (PyProof.Rows.callWith_type1 (args_cons (thn (he.run pins s σ H _ I h) fun u s1 ⟨v, H1, I1, rv, a, xs, ev, sq, q⟩ => ?_) hs) hs rfl))
  subst ev
  obtain rfl : u = Value.ref a := rv
  obtain ⟨its, r, tp, hz⟩ := I1.tuple sq
  refine args_nil (call_enumT tp fun h' e1 t1 k1 => wpAny_pyIter_enum e1 ?_)
  have I2 : Inv X pins σ H1 { s1 with heap := h' } := I1.kept (t' := s1.toks) k1
  have la : a < s1.heap.objs.size := by
    obtain ⟨o, ho, _⟩ := tp
    exact Heap.lt_size ho
  refine ⟨s1.heap.objs.size + 1, [s1.heap.objs.size + 1, s1.heap.objs.size], _, _, H1, rfl, I2, turn_enumT a (s1.heap.objs.size + 1) s1.heap.objs.size, ⟨⟨.none, e1⟩, t1, Nat.succ_ne_self _, Nat.ne_of_lt la, fun z => ?_⟩, fun b hb => ?_, q⟩
  · have z2 : s1.heap.objs.size + 1 = a := z
    exact absurd la (by rw [← z2]; exact Nat.not_lt.mpr (Nat.le_succ _))
  · have lb : s1.heap.objs.size ≤ b := by
      rcases (by simpa using hb : b = s1.heap.objs.size + 1 ∨ b = s1.heap.objs.size) with rfl | rfl
      · exact Nat.le_succ _
      · exact Nat.le_refl _
    exact I1.fpOk lb (I1.hok.fresh lb)
end Ga

set_option maxRecDepth 100000
set_option maxHeartbeats 4000000
/-! He: answer_find, places_of. -/
namespace KX
open PySem PySem.Spec PyProof.Rows L2 TL Ga PySem.Froz
theorem getF_of {fs : List File} (nd : (fs.map (·.1)).Nodup) {f : File} (h : f ∈ fs) : getF fs f.1 = some f.2 := by
  induction fs with
  | nil => cases h
  | cons g r ih =>
    have nd2 := List.nodup_cons.mp nd
    unfold getF
    rcases List.mem_cons.mp h with rfl | h1
    · rw [if_pos rfl]
    · rw [if_neg (fun e => nd2.1 (List.mem_map.mpr ⟨f, h1, e.symm⟩))]
      exact ih nd2.2 h1
theorem getF_in : ∀ {fs : List File} {x : Str} {l : List Str}, getF fs x = some l → (x, l) ∈ fs
  | [], _, _, h => by cases h
  | g :: r, x, l, h => by
    unfold getF at h
    by_cases e : g.1 = x
    · rw [if_pos e] at h
      cases h
      rw [← e]
      exact List.mem_cons_self
    · rw [if_neg e] at h
      exact List.mem_cons_of_mem _ (getF_in h)
theorem getF_none {fs : List File} {x : Str} (h : getF fs x = none) : x ∉ fs.map (·.1) := by
  induction fs with
  | nil => simp
  | cons g r ih =>
    unfold getF at h
    by_cases e : g.1 = x
    · rw [if_pos e] at h; cases h
    · rw [if_neg e] at h
      intro m
      rcases List.mem_cons.mp m with q | q
      · exact e q.symm
      · exact ih h q
theorem under_in {fs : List File} (nd : (fs.map (·.1)).Nodup) {x z : Str} (h : z ∈ underF fs x) : ∃ f ∈ fs, f.1 = z ∧ getF fs z = some f.2 := by
  rcases List.mem_append.mp h with h | h
  · cases e : getF fs x with
    | none => rw [if_pos e] at h; cases h
    | some l =>
      rw [if_neg (by rw [e]; simp)] at h
      obtain rfl := List.mem_singleton.mp h
      exact ⟨_, getF_in e, rfl, e⟩
  · obtain ⟨f, hf, rfl, _⟩ := pathsIn_sub h
    exact ⟨f, hf, rfl, getF_of nd hf⟩
theorem under_len {fs : List File} {x : Str} : (underF fs x).length ≤ fs.length + 1 := by
  unfold underF
  have := pathsIn_len (fs := fs) (x := x)
  rw [List.length_append]
  split <;> simp <;> omega
abbrev rLenS (K : PySem.W.Frag) : List V → Hp → VK → Prop := fun xs H Q => ∃ p ys, xs = [.ref p] ∧ (SqL K H p ys ∨ SqT K H p ys) ∧ Q (.int ys.length) H
section
variable {K : PySem.W.Frag} {H : Hp} {σ : L2.St} {C p u : Addr} {x : Str} {fs : List File} {i j : Nat} {vs : List V} {l : List Str} {n : Int}
theorem etLenEq (h : σ[i]? = some (some (.ref u))) (su : SqT K H u vs) : EvT (tTest (tOp rEq (tCB (rLenS K) (tCons (tVar i) tNil)) (tC (.int n)))) σ H (decide ((vs.length : Int) = n)) := fun H1 s Q k => ⟨_, h, u, _, rfl, .inr (s.seqT su), rfl, _, rfl, by
    have : decide (V.int (vs.length : Nat) = V.int n) = decide ((vs.length : Int) = n) := decide_eq_decide.mpr ⟨V.int.inj, fun z => by rw [z]⟩
    rw [this]
    exact k H1 (.refl _)⟩
theorem etLen0 (h : σ[i]? = some (some (.ref u))) (su : SqT K H u (l.map V.str)) : EvT (tTest (tOp rEq (tCB (rLenS K) (tCons (tVar i) tNil)) (tC (.int 0)))) σ H (decide (l = [])) := by
  have := etLenEq (n := 0) h su
  have e : decide (((l.map V.str).length : Int) = 0) = decide (l = []) := decide_eq_decide.mpr ⟨fun z => List.length_eq_zero_iff.mp (by rw [List.length_map] at z; omega), fun z => by rw [z]; rfl⟩
  rw [e] at this
  exact this
theorem evFolder (h : TreeAt K C H p fs) (s : Sml fs) (hx : (tl x).length ≤ 1000) (hi : σ[i]? = some (some (.ref p))) (hj : σ[j]? = some (some (.str x))) : EvS (tMeth C "is_folder" (spTIsFolder K C) [] E0 (tVar i) (tCons (tVar j) tNil)) σ H (.bl (isFolder fs x)) :=
  fun H1 s1 Q k => tm_folder (h.same s1) s hx hi hj k
end
section
variable {P : Program} {w : World} {K : PySem.W.Frag} {mg : Str → Option Value} {base : Heap} {C : Addr}
theorem ok_afind {f : Addr} {fd : FuncData} (F : Fun K "answer_find" "answer_find" s_answer_find f fd) (T : Tx mg) (M : TreeM P w K mg base C) (CU : Cal P w K mg base 4 "paths_under" ["tree", "place"] (spUnder K C)) : FnOk P w K mg base CX0 5 f fd ["tree", "place", "word"] (spAnsW K C aFind) := by
  refine F.ok sc_answer_find (fun vs H Q E h => ?_) (fun cdv A outer s H vs Q E hr h => ?_)
  · obtain ⟨p, x, z, fs, rfl, _⟩ := h
    rfl
  · obtain ⟨p, x, z, fs, rfl, tr, sm, hx, q⟩ := h
    refine ⟨_, pss_cons (ps_set (i := 3) sc_answer_find.nd rfl (.inl rfl) (pe_cal CU hr pass0 (pa_cons (pv 0) (pa_cons (pv 1) pa_nil))))
      (pss_cons (ps_if (PW.pt (pw_and (pt_cmpR op_eq (pe_callB call_len_seq (by rfl) T.len PySem.boot_len (pa_cons (pv 3) pa_nil)) pe_int (nomark _)) (pw_and1 (pt_not (pt_val (pe_mcal M.tc.cl M.folder hr pass0 (pv 0) (pa_cons (pv 1) pa_nil))))))) (pss_one (ps_ret (pe_tup (pa_cons pe_str pa_nil)))) pss_nil)
      (pss_cons (ps_setLc2 (i := 4) (own := [("path", 5), ("at", 6), ("line", 7)]) (vs1 := [6, 7]) rfl sc_answer_find.nd rfl rfl (sw_true rfl rfl rfl (by decide +kernel)) (piT (K := K) rfl (pv 3)) (blkOk_by (N := n_answer_find) (sc := defScope s_answer_find) (by decide +kernel)) (by decide)
          (fun _ _ _ _ _ => pg_name (i := 5) sc_answer_find.nd rfl (Or.inl rfl)) (fun _ _ _ _ _ => pts_nil) (fun _ _ _ _ _ => piE (K := K) rfl (by rfl) T.enumerate (pe_mcal M.tc.cl M.lines hr pass0 (pv 0) (pa_cons (pv 5) pa_nil)))
          (fun _ _ _ _ _ => pgT (K := K) (n := 2) rfl rfl (pgs_cons (pg_name (i := 6) sc_answer_find.nd rfl (Or.inl rfl)) (pgs_cons (pg_name (i := 7) sc_answer_find.nd rfl (Or.inl rfl)) pgs_nil))) (fun _ _ _ _ _ => pts_one (pt_cmpR op_in_str (pv 2) (pv 7) (by rfl)))
          (fun _ _ _ _ _ => pe_tup (pa_cons (pv 5) (pa_cons (pv 6) pa_nil))))
      (pss_one (ps_ret (pe_tup (pa_cons pe_str (pa_cons (pe_callTy (callTup (K := K) rfl) (by rfl) T.tuple (by decide +kernel) (pa_cons (pv 4) pa_nil)) pa_nil))))))), ?_⟩
    refine ⟨_, rfl, _, rfl, p, x, fs, rfl, tr, sm, hx, fun H1 v s1 lv => ?_⟩
    obtain ⟨u, rfl, su⟩ := id lv
    refine EvT.go (etAnd (etLen0 rfl su) (etNot (etVal (evFolder (tr.same s1) sm hx rfl rfl)))) fun H2 s2 => ?_
    have s12 := s1.trans s2
    refine ite2 (fun b => ?_) (fun b => ?_)
    · refine word1 (K := K) fun H' v s d => q H' v (s12.trans s) ?_
      have bb := Bool.and_eq_true_iff.mp b
      rw [aFind, if_pos ⟨of_decide_eq_true bb.1, not_t bb.2⟩]
      exact d
    · have nb : ¬ (underF fs x = [] ∧ isFolder fs x = false) := fun z => b (by rw [decide_eq_true z.1, z.2]; rfl)
      have su2 := s2.seqT su
      have tr2 := tr.same s12
      refine ⟨_, rfl, u, rfl, ⟨_, su2⟩, fun D nD => ?_⟩
      have sl := srtF_len fs
      refine lc2_rel (as := underF fs x) (bs := fun y => ((getF fs y).getD []).zipIdx) (p := fun _ b => occ z b.1) (R := fun H a b y => Dt K H y (.tuple [.str a, .int (b.2 : Nat)])) nD (same_walkT su2) (by simp)
        (by have := under_len (fs := fs) (x := x); have := tr.few; simp; omega) (fun y hy => ?_) (fun st h => h.st st) (fun i c y hc hy H3 B s3 k => ?_) fun H3 ys s3 d pr => ?_
      · obtain ⟨g, hg, _, e⟩ := under_in tr.nd hy
        rw [e]
        simpa using (sm g hg).2.1
      · have ec : c = V.str y := by
          rw [List.getElem?_map, hy] at hc
          exact (Option.some.inj hc).symm
        subst ec
        refine ⟨by rfl, ?_⟩
        obtain ⟨g, hg, eg, e⟩ := under_in tr.nd (List.mem_of_getElem? hy)
        refine tm_lines (tr2.same s3) rfl rfl fun v hv => ?_
        rw [e] at hv
        obtain ⟨t, rfl, st⟩ := id hv
        refine ⟨t, _, rfl, st, k _ _ _ (.refl _) ⟨?_, fun j b hb H5 c H6 s5 t5 yl Rk Rn k1 k2 => ?_⟩⟩
        · have w0 := walk_enumT st
          have el : ((getF fs y).getD []).zipIdx.length = (g.2.map V.str).length := by rw [e]; simp
          rw [el]
          exact ⟨w0.goes, w0.stops, fun _ _ _ _ _ _ _ => trivial⟩
        · have hb : (((getF fs y).getD []).zipIdx)[j]? = some b := hb
          have hj : j < (g.2.map V.str).length := by
            have := (List.getElem?_eq_some_iff.mp hb).1
            rw [e] at this
            simpa using this
          obtain ⟨T0, u0, e0, rfl, n0, rfl⟩ := (walk_enumT st).yields j H5 c H6 hj t5 yl
          have eb : g.2[j]? = some b.1 ∧ b.2 = j := by
            rw [e] at hb
            simp [List.getElem?_zipIdx] at hb
            obtain ⟨z0, h1, rfl⟩ := hb
            exact ⟨h1, rfl⟩
          have eu : u0 = V.str b.1 := by
            rw [List.getElem?_map, eb.1] at e0
            exact (Option.some.inj e0).symm
          subst eu
          have s6 : Same H5 (upd H5 T0 (.tup [.int (j : Nat), V.str b.1])) := same_upd n0
          refine ⟨T0, _, rfl, sqT upd_same, rfl, _, _, rfl, _, _, rfl, rfl, by rfl, ?_⟩
          refine ⟨_, rfl, _, rfl, _, _, rfl, rfl, _, rfl, ite2 (fun o => ?_) (fun o => ?_)⟩
          · refine ⟨_, rfl, _, rfl, by show 2 ≤ sizeLine; decide, fun T1 n1 => k1 _ _ o (s6.trans (same_upd n1)) ?_⟩
            show Dt K _ _ (.tuple [.str y, .int (b.2 : Nat)])
            rw [eb.2]
            exact dt2 (sqT upd_same) (.str _) (.int _)
          · exact k2 _ (Bool.eq_false_iff.mpr o) s6
      · refine ⟨_, rfl, D, ys, rfl, .inl ⟨sqL d, fun u1 n1 => ⟨by show 2 ≤ sizeLine; decide, fun t n2 => ?_⟩⟩⟩
        refine q _ _ (((s12.trans s3).trans (same_upd n1)).trans (same_upd n2)) ?_
        rw [aFind, if_neg nb]
        refine dt2 (sqT upd_same) (.str _) (.tup ((same_upd n2).seqT (sqT upd_same)) ?_)
        have st : SameT H3 (upd (upd H3 u1 (.tup ys)) t (.tup [.str "found", .ref u1])) := ((same_upd n1).trans (same_upd n2)).t
        have go : ∀ {l : List (Str × Str × Nat)} {vs : List V}, Paired (fun (c : Str × Str × Nat) y => Dt K H3 y (.tuple [.str c.1, .int (c.2.2 : Nat)])) l vs → DtL K (upd (upd H3 u1 (.tup ys)) t (.tup [.str "found", .ref u1])) vs (l.map dRow) := by
          intro l vs h
          induction h with
          | nil => exact .nil
          | cons a _ ih => exact .cons (a.st st) ih
        exact go pr
end
end KX

set_option maxRecDepth 100000
set_option maxHeartbeats 4000000
/-! La: the law's own files: lines, blocked, files, rows, is_folder. -/
namespace KX
open PySem PySem.Spec PyProof.Rows L2 TL Ga NdefX
def blocked (fs : List File) (x : Str) : Bool := fs.any fun f => !decide (f.1 = x) && (inside f.1 x || inside x f.1)
/-- lines, drawn -/
def spLLines (K : PySem.W.Frag) : Sp := fun vs H Q _ => ∃ (B D : Addr) (m : Int), vs = [.ref B, .int m] ∧ 0 ≤ m ∧ m ≤ 12 ∧ Box H B D ∧
  ∀ v l H', LinesAt K H' v l → l.length ≤ 12 → (∀ z ∈ l, okText 20 z ∧ isLine z = true) → Kp B H H' → Box H' B D → Q v H'
def spBlocked (K : PySem.W.Frag) : Sp := fun vs H Q _ => ∃ (d : Addr) (x : Str) (fs : List File), vs = [.ref d, .str x] ∧ Tab K H d fs ∧ (tl x).length ≤ 1000 ∧ (∀ f ∈ fs, (tl f.1).length ≤ 1000) ∧ ∀ H', Same H H' → Q (.bl (blocked fs x)) H'
theorem any_take {α : Type} {p : α → Bool} {l : List α} {i : Nat} {c : α} (h : l[i]? = some c) : (l.take (i + 1)).any p = ((l.take i).any p || p c) := by
  rw [List.take_add_one, h, List.any_append]
  simp
section
variable {P : Program} {w : World} {K : PySem.W.Frag} {mg : Str → Option Value} {base : Heap}
theorem ok_llines {f : Addr} {fd : FuncData} (F : Fun K "_law_lines" "_law_lines" sLLines f fd) (T : Tx mg) (CD : Cal P w K mg base 1 "_law_draw" ["box", "many"] spDraw) (CL : Cal P w K mg base 2 "_law_line" ["box"] spLine) :
    FnOk P w K mg base CX0 3 f fd ["box", "most"] (spLLines K) := by
  obtain ⟨fD, fdD, GD, gD, kD, bD⟩ := CD.ex
  obtain ⟨fL, fdL, GL, gL, kL, bL⟩ := CL.ex
  refine F.ok scLLines (fun vs H Q E h => ?_) (fun cdv A outer s H vs Q E hr h => ?_)
  · obtain ⟨B, D, m, rfl, _⟩ := h
    rfl
  · obtain ⟨B, D, m, rfl, m0, m12, bx, q⟩ := h
    refine ⟨_, pss_one (ps_ret (pe_callTy (callTup (K := K) rfl) (by rfl) T.tuple (by decide +kernel) (pa_cons
      (pe_lc (own := [("k", 2)]) rfl scLLines.nd (pi_range1 (by rfl) T.range (pa_cons (pe_call GD (hr.mono (by decide)) (by rfl) gD kD bD .nil pass0 (pa_cons (pv 0) (pa_cons (pe_op op_add (pv 1) pe_int) pa_nil))) pa_nil))
        (blkOk_by (N := ["box", "most", "k"]) (sc := defScope sLLines) (by decide +kernel)) (fun _ _ _ _ _ => pg_name (i := 2) scLLines.nd rfl (Or.inl rfl)) (fun _ _ _ _ _ => pts_nil)
        (fun _ _ _ _ _ => pe_call GL hr (by rfl) gL kL bL .nil pass0 (pa_cons (pv 0) pa_nil))) pa_nil))), ?_⟩
    refine ⟨_, rfl, _, rfl, _, _, rfl, rfl, B, D, m + 1, rfl, by omega, bx, fun r H1 r0 rm kp1 bx1 => ?_⟩
    refine ⟨r, rfl, by omega, by omega, fun C nC => ?_⟩
    refine lc_rng_box (n := r.toNat) (R := fun v => ∃ z, v = .str z ∧ okText 20 z ∧ isLine z = true) nC bx1 (by omega) (fun m H2 Q2 hm b2 kp2 hq => ?_) (fun H' vs kp b hC hl hR => ?_)
    · exact ⟨_, rfl, B, D, rfl, b2, fun v H' ⟨z, e, o⟩ kp' b' => hq v H' ⟨z, e, o⟩ kp' b'⟩
    · obtain ⟨l, rfl, hz⟩ : ∃ l : List Str, vs = l.map V.str ∧ ∀ z ∈ l, okText 20 z ∧ isLine z = true := by
        clear hC hl
        induction vs with
        | nil => exact ⟨[], rfl, fun _ h => nomatch h⟩
        | cons v r ih =>
          obtain ⟨l, e, g⟩ := ih fun u hu => hR u (List.mem_cons_of_mem _ hu)
          obtain ⟨z, e2, o⟩ := hR v List.mem_cons_self
          refine ⟨z :: l, by rw [e, e2]; rfl, fun u hu => ?_⟩
          rcases List.mem_cons.mp hu with rfl | hu
          · exact o
          · exact g u hu
      rw [List.length_map] at hl
      refine ⟨C, _, rfl, .inl ⟨sqL hC, fun t nt => ?_⟩⟩
      exact q (.ref t) l _ ⟨t, rfl, sqT upd_same⟩ (by omega) hz (Kp.back (kp1.trans kp) (by
        cases e : H t with
        | none => rfl
        | some o =>
          have ntB : t ≠ B := b.ne nt
          rw [kp _ _ ntB (kp1 _ _ ntB e)] at nt
          cases nt)) (b.new nt)
theorem ok_blocked {f : Addr} {fd : FuncData} (F : Fun K "_law_blocked" "_law_blocked" sBlocked f fd) (T : Tx mg) (CI : Cal P w K mg base 1 "_law_inside" ["path", "place"] spInside) :
    FnOk P w K mg base CX0 2 f fd ["files", "path"] (spBlocked K) := by
  obtain ⟨fI, fdI, GI, gI, kI, bI⟩ := CI.ex
  refine F.ok scBlocked (fun vs H Q E h => ?_) (fun cdv A outer s H vs Q E hr h => ?_)
  · obtain ⟨d, x, fs, rfl, _⟩ := h
    rfl
  · obtain ⟨d, x, fs, rfl, ⟨kvs, hd, pr, nd, hl⟩, hx, hf, q⟩ := h
    refine ⟨_, pss_cons (ps_lock (ps_for PassesOwn.never rfl (pi_keys (pv 0)) (pg_name (i := 2) scBlocked.nd rfl (Or.inl rfl))
        (pss_one (ps_if (PW.pt (pw_and (pt_cmpR op_ne (pv 2) (pv 1) (nomark _)) (pw_and1 (PW.pt (pw_or
          (pt_val (pe_call GI hr (by rfl) gI kI bI .nil pass0 (pa_cons (pv 2) (pa_cons (pv 1) pa_nil)))) (pw_or1 (pt_val (pe_call GI hr (by rfl) gI kI bI .nil pass0 (pa_cons (pv 1) (pa_cons (pv 2) pa_nil)))))))))) (pss_one (ps_ret pe_bl)) pss_nil))))
      (pss_one (ps_ret pe_bl)), ?_⟩
    refine ⟨d, _, hd, trivial, fun od => ?_⟩
    refine ⟨_, rfl, d, od, rfl, .inl ⟨kvs, upd_same, ?_⟩⟩
    refine for_it (same_walkK upd_same) (fun i σ H' => Same (upd H d (.frz od (.dK kvs))) H' ∧ (fs.take i).any (fun f => !decide (f.1 = x) && (inside f.1 x || inside x f.1)) = false ∧ ∃ o, σ = [some (.ref d), some (.str x), o]) ⟨.refl _, rfl, none, rfl⟩ (fun _ _ _ _ h => h.1) ?_ ?_
    · rintro i c σ H1 H2 hi ⟨s1, hb, o, rfl⟩ ⟨rfl, hc⟩
      rw [List.getElem?_map] at hc
      cases hk : kvs[i]? with
      | none => rw [hk] at hc; cases hc
      | some kv =>
      obtain ⟨g, hg, rg⟩ := paired_get2 pr i kv hk
      rw [hk] at hc
      have ec : c = V.str g.1 := by
        have : kV kv.1 = c := Option.some.inj hc
        rw [← this, rg.1]
        rfl
      subst ec
      have hg2 := hf g (List.mem_of_getElem? hg)
      refine EvT.go (etAnd (etNe rfl rfl) (etOr (etVal (evIns rfl rfl hg2 hx)) (etVal (evIns rfl rfl hx hg2)))) fun H3 s3 => ?_
      refine ite2 (fun e => ?_) (fun e => ?_)
      · refine ⟨(s1.trans s3) _ _ upd_same, ?_⟩
        have r := q _ (unlock (s1.trans s3) hd)
        have : blocked fs x = true := List.any_eq_true.mpr ⟨g, List.mem_of_getElem? hg, e⟩
        rw [this] at r
        exact r
      · refine ⟨s1.trans s3, ?_, _, rfl⟩
        rw [any_take hg, hb, Bool.false_or]
        exact Bool.eq_false_iff.mpr e
    · rintro σ H1 ⟨s1, hb, o, rfl⟩
      refine ⟨s1 _ _ upd_same, ?_⟩
      rw [List.length_map, ← pr.length, List.take_length] at hb
      have r := q _ (unlock s1 hd)
      rw [blocked, hb] at r
      exact r
end
/-! ### the paths of the law -/
def nm : List Str := ["a", "b", "ab", "x1"]
def pAll : List Str := (nm.map fun a => Txt.join sl [a]) ++ ((nm.flatMap fun a => nm.map fun b => Txt.join sl [a, b]) ++ (nm.flatMap fun a => nm.flatMap fun b => nm.map fun c => Txt.join sl [a, b, c]))
def fAll : List Str := ["f0", "f1", "f2", "f3", "f4", "f5", "f6", "f7", "f8", "f9", "f10", "f11", "f12", "f13", "f14", "f15", "f16", "f17", "f18", "f19"]
def lawPaths : List Str := pAll ++ (fAll ++ (["doubt"] : List Str))
def pchk (z : Str) : Bool := isPath z && (decide (okText 8 z) && (!inside z z && decide (z ≠ "")))
theorem nm_mem {p : Str} (h : V.str p ∈ pnames) : p ∈ nm := by
  have : V.str p ∈ nm.map V.str := h
  obtain ⟨q, hq, e⟩ := List.mem_map.mp this
  cases e
  exact hq
theorem pth_mem {z : Str} (h : isPth (.str z)) : z ∈ pAll := by
  obtain ⟨ps, e, h1, h3, hn⟩ := h
  have e := V.str.inj e
  subst e
  unfold pAll
  match ps, h1, h3, hn with
  | [a], _, _, hn =>
    exact List.mem_append_left _ (List.mem_map.mpr ⟨a, nm_mem (hn a (by simp)), rfl⟩)
  | [a, b], _, _, hn =>
    exact List.mem_append_right _ (List.mem_append_left _ (List.mem_flatMap.mpr ⟨a, nm_mem (hn a (by simp)), List.mem_map.mpr ⟨b, nm_mem (hn b (by simp)), rfl⟩⟩))
  | [a, b, c], _, _, hn =>
    exact List.mem_append_right _ (List.mem_append_right _ (List.mem_flatMap.mpr ⟨a, nm_mem (hn a (by simp)), List.mem_flatMap.mpr ⟨b, nm_mem (hn b (by simp)), List.mem_map.mpr ⟨c, nm_mem (hn c (by simp)), rfl⟩⟩⟩))
theorem pAll_ok : lawPaths.all pchk = true := by decide +kernel
structure Pth (z : Str) : Prop where
  path : isPath z = true
  text : okText 8 z
  self : inside z z = false
  ne : z ≠ ""
theorem pth {z : Str} (h : z ∈ lawPaths) : Pth z := by
  have := List.all_eq_true.mp pAll_ok z h
  simp only [pchk, Bool.and_eq_true, Bool.not_eq_true', decide_eq_true_eq] at this
  obtain ⟨a, b, c, d⟩ := this
  exact ⟨a, b, c, d⟩
theorem pth_law {z : Str} (h : isPth (.str z)) : z ∈ lawPaths := List.mem_append_left _ (pth_mem h)
/-- files of the law -/
structure LawF (fs : List File) : Prop where
  each : ∀ f ∈ fs, f.1 ∈ lawPaths ∧ f.2.length ≤ 12 ∧ ∀ z ∈ f.2, okText 20 z ∧ isLine z = true
  clean : ∀ f ∈ fs, ∀ g ∈ fs, inside f.1 g.1 = false
  few : fs.length ≤ 20
theorem put_mem {fs : List File} {x : Str} {l : List Str} {f : File} (h : f ∈ putFs fs x l) : f = (x, l) ∨ (f ∈ fs ∧ f.1 ≠ x) := by
  unfold putFs at h
  split at h
  · obtain ⟨g, hg, e⟩ := List.mem_map.mp h
    by_cases q : g.1 = x
    · rw [if_pos q, q] at e
      exact .inl e.symm
    · rw [if_neg q] at e
      subst e
      exact .inr ⟨hg, q⟩
  · rename_i n
    rcases List.mem_append.mp h with h | h
    · refine .inr ⟨h, fun e => n ?_⟩
      exact List.any_eq_true.mpr ⟨f, h, decide_eq_true e⟩
    · exact .inl (List.mem_singleton.mp h)
theorem LawF.put {fs : List File} {x : Str} {l : List Str} (h : LawF fs) (hx : x ∈ lawPaths) (hl : l.length ≤ 12) (hz : ∀ z ∈ l, okText 20 z ∧ isLine z = true) (hb : blocked fs x = false) (h7 : fs.length ≤ 19) : LawF (putFs fs x l) := by
  have nb : ∀ f ∈ fs, f.1 ≠ x → inside f.1 x = false ∧ inside x f.1 = false := fun f hf ne => by
    have := List.any_eq_false.mp hb f hf
    rw [decide_eq_false ne, Bool.not_false, Bool.true_and] at this
    exact Bool.or_eq_false_iff.mp (Bool.eq_false_iff.mpr this)
  refine ⟨fun f hf => ?_, fun f hf g hg => ?_, Nat.le_trans (put_len fs x l) (by omega)⟩
  · rcases put_mem hf with rfl | ⟨hf, _⟩
    · exact ⟨hx, hl, hz⟩
    · exact h.each f hf
  · rcases put_mem hf with rfl | ⟨hf, n1⟩
    · rcases put_mem hg with rfl | ⟨hg, n2⟩
      · exact (pth hx).self
      · exact (nb g hg n2).2
    · rcases put_mem hg with rfl | ⟨hg, n2⟩
      · exact (nb f hf n1).1
      · exact h.clean f hf g hg
def spLFiles (K : PySem.W.Frag) : Sp := fun vs H Q _ => ∃ (B D : Addr) (m : Int), vs = [.ref B, .int m] ∧ 0 ≤ m ∧ m ≤ 12 ∧ Box H B D ∧ ∀ d fs H', Tab K H' d fs → LawF fs → fs.length ≤ 12 → Kp B H H' → H d = none → Box H' B D → Q (.ref d) H'
def spRows (K : PySem.W.Frag) : Sp := fun vs H Q _ => ∃ (d : Addr) (fs : List File), vs = [.ref d] ∧ Tab K H d fs ∧ ∀ H' a ws, Same H H' → H a = none → H' a = some (.tup ws) → RowsAt K H' ws (srtF fs) → Q (.ref a) H'
def lFolder (fs : List File) (x : Str) : Bool := fs.any (fun f => inside f.1 x) || decide (x = "")
def spLIsFolder (K : PySem.W.Frag) : Sp := fun vs H Q _ => ∃ (d : Addr) (x : Str) (fs : List File), vs = [.ref d, .str x] ∧ Tab K H d fs ∧ (tl x).length ≤ 1000 ∧ (∀ f ∈ fs, (tl f.1).length ≤ 1000) ∧ ∀ H', Same H H' → Q (.bl (lFolder fs x)) H'
theorem Tab.kp {K : PySem.W.Frag} {H H' : Hp} {d B D : Addr} {fs : List File} (t : Tab K H d fs) (k : Kp B H H') (bx : Box H B D) : Tab K H' d fs := by
  obtain ⟨kvs, hd, pr, nd, hl⟩ := t
  have nB : d ≠ B := fun z => by
    obtain ⟨ds, i, h1, _⟩ := bx.ex
    rw [z, h1] at hd
    cases hd
  exact ⟨kvs, k _ _ nB hd, pr.mono fun _ _ h => ⟨h.1, h.2.st (SameT.box k bx)⟩, nd, hl⟩
section
variable {P : Program} {w : World} {K : PySem.W.Frag} {mg : Str → Option Value} {base : Heap}
theorem ok_lfiles {f : Addr} {fd : FuncData} (F : Fun K "_law_files" "_law_files" sLFiles f fd) (T : Tx mg) (CD : Cal P w K mg base 1 "_law_draw" ["box", "many"] spDraw) (CP : Cal P w K mg base 2 "_law_path" ["box"] spPth)
    (CL : Cal P w K mg base 3 "_law_lines" ["box", "most"] (spLLines K)) (CB : Cal P w K mg base 2 "_law_blocked" ["files", "path"] (spBlocked K)) :
    FnOk P w K mg base CX0 4 f fd ["box", "most"] (spLFiles K) := by
  obtain ⟨fD, fdD, GD, gD, kD, bD⟩ := CD.ex
  obtain ⟨fP, fdP, GP, gP, kP, bP⟩ := CP.ex
  obtain ⟨fL, fdL, GL, gL, kL, bL⟩ := CL.ex
  obtain ⟨fB, fdB, GB, gB, kB, bB⟩ := CB.ex
  refine F.ok scLFiles (fun vs H Q E h => ?_) (fun cdv A outer s H vs Q E hr h => ?_)
  · obtain ⟨B, D, m0, rfl, _⟩ := h
    rfl
  · obtain ⟨B, D, m0, rfl, ma, mb, bx, q⟩ := h
    refine ⟨_, pss_cons (ps_set (i := 2) scLFiles.nd rfl (.inl rfl) pe_dnewK)
      (pss_cons (ps_for PassesOwn.never rfl (pi_range1 (by rfl) T.range (pa_cons (pe_call GD (hr.mono (by decide)) (by rfl) gD kD bD .nil pass0 (pa_cons (pv 0) (pa_cons (pe_op op_add (pv 1) pe_int) pa_nil))) pa_nil)) (pg_name (i := 3) scLFiles.nd rfl (Or.inl rfl))
        (pss_cons (ps_set (i := 4) scLFiles.nd rfl (.inl rfl) (pe_call GP (hr.mono (by decide)) (by rfl) gP kP bP .nil pass0 (pa_cons (pv 0) pa_nil)))
        (pss_cons (ps_set (i := 5) scLFiles.nd rfl (.inl rfl) (pe_call GL hr (by rfl) gL kL bL .nil pass0 (pa_cons (pv 0) (pa_cons pe_int pa_nil))))
        (pss_one (ps_if (pt_not (pt_val (pe_call GB (hr.mono (by decide)) (by rfl) gB kB bB .nil pass0 (pa_cons (pv 2) (pa_cons (pv 4) pa_nil))))) (pss_one (ps_dput (hu_of hr) (pv 2) (pv 4) (pv 5) rfl)) pss_nil)))))
      (pss_one (ps_ret (pv 2)))), ?_⟩
    intro d nd
    have bx0 := bx.new (o := .dK []) nd
    refine ⟨_, rfl, _, rfl, _, _, rfl, rfl, B, D, m0 + 1, rfl, by omega, bx0, fun r H1 r0 r9 kp1 bx1 => ?_⟩
    refine ⟨r, rfl, by omega, by omega, ?_⟩
    have dB : d ≠ B := bx.ne nd
    have sd : Kp B H (upd H d (.dK [])) := fun b o _ e => same_upd nd b o e
    refine for_range (lo := 0) (n := r.toNat) (fun i σ H' => ∃ (a b c : Option V) (fs : List File), σ = [some (.ref B), some (.int m0), some (.ref d), a, b, c] ∧ Tab K H' d fs ∧ LawF fs ∧ fs.length ≤ i ∧ Kp B H H' ∧ Box H' B D)
      ⟨none, none, none, [], rfl, ⟨[], kp1 _ _ dB upd_same, .nil, List.nodup_nil, by decide⟩, ⟨(fun _ h => nomatch h), (fun _ h => nomatch h), by decide⟩, Nat.le_refl _, sd.trans kp1, bx1⟩ ?_ ?_
    · rintro i σ H2 hi ⟨a, b, c, fs, rfl, tb, lf, hl, kp2, bx2⟩
      refine ⟨_, rfl, B, D, rfl, bx2, fun v H3 hv kp3 bx3 => ?_⟩
      obtain ⟨ps, rfl, hps⟩ := id hv
      refine ⟨_, rfl, B, D, 4, rfl, by decide, by decide, bx3, fun u l H4 lv l12 lz kp4 bx4 => ?_⟩
      have tb3 := (tb.kp kp3 bx2).kp kp4 bx3
      have hvm := pth_law hv
      have hx := Nat.le_trans (pth hvm).text.1 (show 8 ≤ 1000 by decide)
      refine ⟨_, rfl, _, rfl, d, _, fs, rfl, tb3, by omega, fun f hf => by have := (pth (lf.each f hf).1).text.1; omega, fun H5 s5 => ⟨_, rfl, ite2 (fun e => ?_) (fun e => ?_)⟩⟩
      · have tb5 := tb3.same s5
        obtain ⟨kvs, hd, pr, ndp, h40⟩ := tb5
        have lf2 := lf.put hvm l12 lz (not_t e) (by omega)
        have kl : kvs.length = fs.length := pr.length.symm
        have lv5 := lv.st s5.t
        refine ⟨_, rfl, _, rfl, _, rfl, d, _, rfl, DPut.k (k := .inr _) hd (Nat.lt_of_le_of_lt (show kvs.length ≤ 40 by omega) (by decide)), ?_⟩
        have st : SameT H5 (upd H5 d (.dK (putK kvs (.inr (Txt.join sl ps)) u))) := .put hd rfl
        refine ⟨_, _, _, putFs fs (Txt.join sl ps) l, rfl, ⟨_, upd_same, put_tab (lv5.st st) (pr.mono fun _ _ h => ⟨h.1, h.2.st st⟩), put_nodup ndp, by have := put_len fs (Txt.join sl ps) l; omega⟩, lf2, by have := put_len fs (Txt.join sl ps) l; omega, ?_, ?_⟩
        · exact Kp.back (((kp2.trans kp3).trans kp4).trans (.same s5)) nd
        · exact (bx4.same s5).put dB (bx.neD nd)
      · exact ⟨_, _, _, fs, rfl, tb3.same s5, lf, by omega, ((kp2.trans kp3).trans kp4).trans (.same s5), bx4.same s5⟩
    · rintro σ H2 ⟨a, b, c, fs, rfl, tb, lf, hl, kp2, bx2⟩
      exact ⟨_, rfl, q d fs H2 tb lf (by omega) kp2 nd bx2⟩
end
theorem log2_le {n k : Nat} (h : n < 2 ^ k) : n.log2 ≤ k := by
  by_cases h0 : n = 0
  · subst h0; rw [Nat.log2_zero]; exact Nat.zero_le _
  · exact Nat.le_of_lt ((Nat.log2_lt h0).mpr h)
theorem okc_strOk {n : Nat} {z : Str} (h : okText n z) : PyData.strOk z = true := by
  have : (tl z).all (· < 0x110000) = true := by
    refine List.all_eq_true.mpr fun c hc => ?_
    have := List.all_eq_true.mp h.2 c hc
    simp only [okc, Bool.and_eq_true, decide_eq_true_eq] at this
    exact decide_eq_true (by omega)
  unfold PyData.strOk
  rw [← Array.all_toList]
  exact this
section
variable {P : Program} {w : World} {K : PySem.W.Frag} {mg : Str → Option Value} {base : Heap}
theorem ok_rows {f : Addr} {fd : FuncData} (F : Fun K "_law_rows" "_law_rows" sRows f fd) (T : Tx mg) : FnOk P w K mg base CX0 1 f fd ["files"] (spRows K) := by
  refine F.ok scRows (fun vs H Q E h => ?_) (fun cdv A outer s H vs Q E hr h => ?_)
  · obtain ⟨p, fs, rfl, _⟩ := h
    rfl
  · obtain ⟨d, fs, rfl, ⟨kvs, hd, pr, nd, hl⟩, q⟩ := h
    refine ⟨_, pss_one (ps_ret (pe_callTy (callTup (K := K) rfl) (by rfl) T.tuple (by decide +kernel) (pa_cons
      (pe_lc (own := [("path", 1)]) rfl scRows.nd (piL (K := K) rfl (pe_callB (call_sortedD rfl) (by rfl) T.sorted (by decide +kernel) (pa_cons (pv 0) pa_nil)))
        (blkOk_by (N := ["files", "path"]) (sc := defScope sRows) (by decide +kernel)) (fun _ _ _ _ _ => pg_name (i := 1) scRows.nd rfl (Or.inl rfl)) (fun _ _ _ _ _ => pts_nil)
        (fun _ _ _ _ _ => pe_tup (pa_cons (pv 1) (pa_cons (pe_dget (hu_of hr) (pv 0) (pv 1) (fun _ _ => rfl)) pa_nil)))) pa_nil))), ?_⟩
    refine ⟨_, rfl, d, kvs, fs.map (·.1), rfl, .inl hd, keys_of pr, by rw [List.length_map]; omega, fun ys l perm srt nl => ?_⟩
    have ey := sorted_is perm srt
    subst ey
    have s1 : Same H (upd H l (.lst (((srtF fs).map (·.1)).map V.str))) := same_upd nl
    refine ⟨l, rfl, ⟨_, sqL upd_same⟩, fun D nD => ?_⟩
    refine lc_rel (R := fun H f y => RowAt K H y f) (as := srtF fs) (p := fun _ => true) nD (same_walkL (sqL upd_same)) (by simp) (by simp [srtF_len]; omega) (fun st h => h.st st) (fun i c x hc hx H2 Rk Rn s2 k _ => ?_) fun H2 ws s2 e2 pr2 => ?_
    · have ec : c = V.str x.1 := by
        rw [List.map_map, List.getElem?_map, hx] at hc
        exact (Option.some.inj hc).symm
      subst ec
      refine ⟨by rfl, ?_⟩
      dsimp only [tYes]
      rw [if_pos rfl]
      obtain ⟨v, ev, lv⟩ := (val_of pr (x := x.1)).2 nd x ((srtF_perm fs).mem_iff.mp (List.mem_of_getElem? hx)) rfl
      have sa := s1.trans s2
      refine ⟨_, rfl, _, rfl, _, rfl, d, v, rfl, ?_, by show 2 ≤ sizeLine; decide, fun t nt => ?_⟩
      · rw [← ev]
        exact DGet.k (k := .inr x.1) (sa _ _ hd)
      · exact k _ _ rfl (same_upd nt) ⟨t, v, rfl, sqT upd_same, lv.st (sa.trans (same_upd nt)).t⟩
    · rw [filterY] at pr2
      refine ⟨D, ws, rfl, .inl ⟨sqL e2, fun r nr => ?_⟩⟩
      exact q _ r ws ((s1.trans s2).trans (same_upd nr)) (same_at (s1.trans s2) nr) upd_same (RowsAt.st (paired_swap pr2) (same_upd nr).t)
theorem ok_lisfolder {f : Addr} {fd : FuncData} (F : Fun K "_law_is_folder" "_law_is_folder" sLIsFolder f fd) (T : Tx mg) (CI : Cal P w K mg base 1 "_law_inside" ["path", "place"] spInside) :
    FnOk P w K mg base CX0 2 f fd ["files", "place"] (spLIsFolder K) := by
  obtain ⟨fI, fdI, GI, gI, kI, bI⟩ := CI.ex
  refine F.ok scLIsFolder (fun vs H Q E h => ?_) (fun cdv A outer s H vs Q E hr h => ?_)
  · obtain ⟨d, x, fs, rfl, _⟩ := h
    rfl
  · obtain ⟨d, x, fs, rfl, ⟨kvs, hd, pr, nd, hl⟩, hx, hf, q⟩ := h
    refine ⟨_, pss_cons (ps_lock (ps_for PassesOwn.never rfl (pi_keys (pv 0)) (pg_name (i := 2) scLIsFolder.nd rfl (Or.inl rfl))
        (pss_one (ps_if (pt_val (pe_call GI hr (by rfl) gI kI bI .nil pass0 (pa_cons (pv 2) (pa_cons (pv 1) pa_nil)))) (pss_one (ps_ret pe_bl)) pss_nil))))
      (pss_one (ps_ret (pe_cmpR op_eq (pv 1) pe_str (nomark _)))), ?_⟩
    refine ⟨d, _, hd, trivial, fun od => ?_⟩
    refine ⟨_, rfl, d, od, rfl, .inl ⟨kvs, upd_same, ?_⟩⟩
    refine for_it (same_walkK upd_same) (fun i σ H' => Same (upd H d (.frz od (.dK kvs))) H' ∧ (fs.take i).any (fun f => inside f.1 x) = false ∧ ∃ o, σ = [some (.ref d), some (.str x), o]) ⟨.refl _, rfl, none, rfl⟩ (fun _ _ _ _ h => h.1) ?_ ?_
    · rintro i c σ H1 H2 hi ⟨s1, hb, o, rfl⟩ ⟨rfl, hc⟩
      rw [List.getElem?_map] at hc
      cases hk : kvs[i]? with
      | none => rw [hk] at hc; cases hc
      | some kv =>
      obtain ⟨g, hg, rg⟩ := paired_get2 pr i kv hk
      rw [hk] at hc
      have ec : c = V.str g.1 := by
        have : kV kv.1 = c := Option.some.inj hc
        rw [← this, rg.1]
        rfl
      subst ec
      have hg2 := hf g (List.mem_of_getElem? hg)
      refine ⟨_, rfl, _, rfl, g.1, x, rfl, hg2, hx, fun H3 s3 => ⟨_, rfl, ite2 (fun e => ?_) (fun e => ?_)⟩⟩
      · refine ⟨(s1.trans s3) _ _ upd_same, ?_⟩
        have r := q _ (unlock (s1.trans s3) hd)
        have : fs.any (fun f => inside f.1 x) = true := List.any_eq_true.mpr ⟨g, List.mem_of_getElem? hg, e⟩
        rw [lFolder, this, Bool.true_or] at r
        exact r
      · refine ⟨s1.trans s3, ?_, _, rfl⟩
        rw [any_take hg, hb, Bool.false_or]
        exact Bool.eq_false_iff.mpr e
    · rintro σ H1 ⟨s1, hb, o, rfl⟩
      refine ⟨s1 _ _ upd_same, ?_⟩
      rw [List.length_map, ← pr.length, List.take_length] at hb
      have r := q _ (unlock s1 hd)
      rw [lFolder, hb, Bool.false_or] at r
      refine ⟨_, rfl, rfl, ?_⟩
      have : decide (V.str x = V.str "") = decide (x = "") := decide_eq_decide.mpr ⟨V.str.inj, fun z => by rw [z]⟩
      rw [this]
      exact r
end
theorem apart_of {l : List Str} (nd : l.Nodup) (h : ∀ a ∈ l, ∀ b ∈ l, inside a b = false) : apart l = true := by
  have h3 := (cnt_nodup l l.length (Nat.le_refl _)).mpr (by rw [List.take_length]; exact nd)
  have h4 : (l.any fun a => l.any fun b => inside a b) = false := List.any_eq_false.mpr fun a ha => by
    rw [Bool.not_eq_true]
    exact List.any_eq_false.mpr fun b hb => by rw [h a ha b hb]; exact Bool.false_ne_true
  rw [apart, h3, h4, decide_eq_false (by omega)]
  rfl
theorem LawF.nodupI {fs : List File} (h : LawF fs) (nd : (fs.map (·.1)).Nodup) : apart (fs.map (·.1)) = true := by
  refine apart_of nd fun a ha b hb => ?_
  obtain ⟨f, hf, rfl⟩ := List.mem_map.mp ha
  obtain ⟨g, hg, rfl⟩ := List.mem_map.mp hb
  exact h.clean f hf g hg
theorem LawF.linesT {fs : List File} (h : LawF fs) {f : File} (hf : f ∈ fs) : isLines f.2 = true := by
  obtain ⟨_, h2, h3⟩ := h.each f hf
  rw [isLines, decide_eq_true (by omega)]
  exact List.all_eq_true.mpr fun z hz => (h3 z hz).2
theorem LawF.good {fs : List File} (h : LawF fs) (nd : (fs.map (·.1)).Nodup) : goodFiles fs = true := by
  rw [goodFiles, h.nodupI nd, decide_eq_true (by have := h.few; omega)]
  have : (fs.all fun f => isPath f.1 && isLines f.2) = true := List.all_eq_true.mpr fun f hf => by
    rw [(pth (h.each f hf).1).path, h.linesT hf]
    rfl
  rw [this]
  rfl
theorem getF_perm {fs gs : List File} (p : gs.Perm fs) (nd : (fs.map (·.1)).Nodup) (x : Str) : getF gs x = getF fs x := by
  have nd2 : (gs.map (·.1)).Nodup := (p.map _).nodup_iff.mpr nd
  cases e : getF fs x with
  | some l =>
    have := getF_mem e
    exact getF_of nd2 (f := (x, l)) (p.mem_iff.mpr this)
  | none =>
    cases e2 : getF gs x with
    | none => rfl
    | some l =>
      have := getF_of nd (f := (x, l)) (p.mem_iff.mp (getF_mem e2))
      rw [e] at this
      cases this
theorem srtF_congr {fs gs : List File} (p : gs.Perm fs) (nd : (fs.map (·.1)).Nodup) : srtF gs = srtF fs :=
  sortedF_is ((srtF_perm gs).trans p) nd (srtF_pw gs)
theorem srtF_nodup {fs : List File} (nd : (fs.map (·.1)).Nodup) : ((srtF fs).map (·.1)).Nodup := ((srtF_perm fs).map _).nodup_iff.mpr nd
theorem srtF_drop {fs gs : List File} (p : gs.Perm fs) (nd : (fs.map (·.1)).Nodup) (x : Str) : srtF (dropFs gs x) = (srtF fs).filter fun f => decide (f.1 ≠ x) := by
  have nd2 : (gs.map (·.1)).Nodup := (p.map _).nodup_iff.mpr nd
  refine (sortedF_is (((srtF_perm fs).trans p.symm).filter _) (nd2.sublist (List.Sublist.map _ List.filter_sublist)) ((srtF_pw fs).sublist List.filter_sublist)).symm
end KX

set_option maxRecDepth 100000
set_option maxHeartbeats 4000000
/-! Hf: check_action. -/
namespace KX
open PySem PySem.Spec PyProof.Rows L2 TL Ga PySem.Froz RZ
/-- a dict of the module with text keys, read at a key -/
def tKd (w : World) (K : PySem.W.Frag) (d : Addr) (ty : TE) : TE := fun σ H Q => ty σ H fun y H1 => ∃ (z : Str) (u0 : Value) (v0 : V), y = .str z ∧ PySem.W.nsIn K d z = some (some u0) ∧ RelV v0 u0 ∧ Q v0 H1
theorem pe_kd {X : Cx} {K : PySem.W.Frag} (hK : X.K = K) {d : Addr} {es : Array DictEntry} {n : Nat} (D : KDict X.K X.w d es n) {x : Str} {p pos : Pos} {i : Expr} {ty : TE} (hg : Gl X x) (hm : X.mg x = some (.ref d)) (hi : PE X i ty) (hs : NoSl i) (hdb : (x == ("__debug__" : Str)) = false := by decide) :
    PE X (.Subscript (.Name x p) i pos) (tKd X.w K d ty) := by
  subst hK
  refine ⟨fun pins s σ H Q I h => ?_⟩
  refine subD_of PySem.F.slot_dict_getitem.lookup hs (thn ((pe_glob (v := V.ref d) (u := Value.ref d) hg hm rfl hdb).run pins s σ H (fun v H1 => v = .ref d ∧ H1 = H) I ⟨rfl, rfl⟩) fun u s1 ⟨v, H1, I1, rv, ev, eH⟩ => ?_)
  subst ev eH
  obtain rfl : u = Value.ref d := rv
  refine thn (hi.run pins s1 σ _ _ I1 h) fun iv s2 ⟨y, H2, I2, ry, z, u0, v0, ey, e, r, q⟩ => ⟨kd_type D I2, ?_⟩
  exact op_item_kd D pins s2 σ H2 (.ref d) y (.ref d) iv Q I2 rfl ry ⟨z, u0, v0, rfl, ey, e, r, q⟩
/-- the module's table of parts -/
structure PtsIn (K : PySem.W.Frag) (w : World) (mg : Str → Option Value) : Prop where
  ex : ∃ (d : Addr) (es : Array DictEntry) (n : Nat), mg "PARTS" = some (.ref d) ∧ KDict K w d es n ∧ ∀ a : Act, ∃ t, PySem.W.nsIn K d a.word = some (some (.ref t)) ∧ ∀ H : Hp, SqT K H t (a.parts.map fun q => V.str q.1)
/-- check_action: nothing, or the first bad part's name is told by an error -/
def spCheck (K : PySem.W.Frag) (Co : Addr) : Sp := fun vs H Q E => ∃ (v : V) (a : Act), vs = [v] ∧ Dt K H v (dA a) ∧ a.small ∧ (a.bad = none → ∀ H', Same H H' → Q .non H') ∧ ∀ n, a.bad = some n → Oor Co n H E
theorem Oor.same {Co : Addr} {z : Str} {H H1 : Hp} {E : XK} (h : Oor Co z H E) (s : Same H H1) : Oor Co z H1 E := fun H' e s' n d => h H' e (s.trans s') (same_at s n) d
theorem bad_take : ∀ {l : List (Str × Itm)} {i : Nat} {q : Str × Itm}, l[i]? = some q → firstBad (l.take i) = none → okItm q.1 q.2 = false → firstBad l = some q.1
  | [], i, q, h, _, _ => by simp at h
  | a :: l, 0, q, h, _, o => by
    cases h
    unfold firstBad
    rw [o, if_neg Bool.false_ne_true]
  | a :: l, i + 1, q, h, n, o => by
    rw [List.take_succ_cons] at n
    unfold firstBad at n ⊢
    split at n
    · rename_i e
      rw [if_pos e]
      exact bad_take (by simpa using h) n o
    · cases n
theorem bad_snoc : ∀ {l : List (Str × Itm)} {i : Nat} {q : Str × Itm}, l[i]? = some q → firstBad (l.take i) = none → okItm q.1 q.2 = true → firstBad (l.take (i + 1)) = none
  | [], i, q, h, _, _ => by simp at h
  | a :: l, 0, q, h, _, o => by
    cases h
    show firstBad (a :: l.take 0) = none
    unfold firstBad
    rw [if_pos o]
    rfl
  | a :: l, i + 1, q, h, n, o => by
    rw [List.take_succ_cons] at n ⊢
    unfold firstBad at n ⊢
    split at n
    · rename_i e
      rw [if_pos e]
      exact bad_snoc (by simpa using h) n o
    · cases n
theorem act_parts {K : PySem.W.Frag} {H : Hp} {v : V} {a : Act} (h : Dt K H v (dA a)) : ∃ t vs, v = .ref t ∧ SqT K H t (.str a.word :: vs) ∧ DtL K H vs (a.parts.map fun q => dI q.2) := by
  obtain ⟨t, vs, rfl, st, dl⟩ := h.tupE
  cases dl with
  | cons h1 h2 =>
    have e1 := h1.strE
    subst e1
    exact ⟨t, _, rfl, st, h2⟩
theorem one_sIx (n : Nat) : HT.sIx (n + 1) 0 (some 1) = 1 := by
  have : HT.sIx (n + 1) 0 (some ((1 : Nat) : Int)) = 1 := by rw [HT.sIx_nat]; omega
  exact this
theorem cut_tail (x : V) (vs : List V) : cutV (x :: vs) (some 1) none = vs := by
  unfold cutV
  rw [HT.sIx_none, List.length_cons, one_sIx, List.drop_succ_cons, List.drop_zero, Nat.add_sub_cancel, List.take_length]
theorem parts_few (a : Act) : a.parts.length ≤ 3 := by cases a <;> simp [Act.parts]
theorem dtl_get {K : PySem.W.Frag} {H : Hp} : ∀ {vs : List V} {ds : List PyData}, DtL K H vs ds → ∀ {i : Nat} {v : V} {d : PyData}, vs[i]? = some v → ds[i]? = some d → Dt K H v d
  | _, _, .nil, i, v, d, h, _ => by simp at h
  | _, _, .cons a b, 0, v, d, h, g => by
    cases h
    cases g
    exact a
  | _, _, .cons a b, i + 1, v, d, h, g => dtl_get b (by simpa using h) (by simpa using g)
theorem name_len {q : Str × Itm} (h : typed q) : (tl q.1).length ≤ 1000 := by
  obtain ⟨n, i⟩ := q
  cases i with
  | tx z => rcases (h : n = "place" ∨ _) with rfl | rfl | rfl | rfl <;> (dsimp only; decide +kernel)
  | ln l => rcases (h : n = "lines" ∨ _) with rfl | rfl | rfl <;> (dsimp only; decide +kernel)
section
variable {P : Program} {w : World} {K : PySem.W.Frag} {mg : Str → Option Value} {base : Heap} {C : Addr}
theorem ok_check {f Co fo : Addr} {fd fdo : FuncData} (F : Fun K "check_action" "check_action" s_check_action f fd) (T : Tx mg) (PT : PtsIn K w mg) (CW : Cal P w K mg base 4 "is_within" ["name", "item"] (spWithin K)) (O : OorC P w K mg base Co fo fdo) :
    FnOk P w K mg base (L2.CX P w) 5 f fd ["action"] (spCheck K Co) := by
  obtain ⟨d, es, n, gP, KD, hP⟩ := PT.ex
  refine F.okX sc_check_action (fun vs H Q E h => ?_) (fun cdv A outer s H vs Q E hr h => ?_)
  · obtain ⟨v, a, rfl, _⟩ := h
    rfl
  · obtain ⟨v, a, rfl, hd, sm, q1, q2⟩ := h
    refine ⟨_, pss_one (ps_for (passes_of rfl) rfl (pi_zipA (by rfl) T.zip (pa_cons (pe_kd (K := K) rfl KD (by rfl) gP (pe_ix (ixT (K := K) rfl) (pv 0) pe_int (fun _ _ => rfl)) (fun _ _ => rfl)) (pa_cons (pe_slice (r := rSlA K) sl_tupA (pv 0) (po_some pe_int) po_none) pa_nil)))
      (pgT (K := K) (n := 2) rfl rfl (pgs_cons (pg_name (i := 1) sc_check_action.nd rfl (Or.inl rfl)) (pgs_cons (pg_name (i := 2) sc_check_action.nd rfl (Or.inl rfl)) pgs_nil)))
      (pss_one (ps_if (pt_not (pt_val (pe_cal CW hr pass0 (pa_cons (pv 1) (pa_cons (pv 2) pa_nil)))))
        (pss_one (ps_raise (W := fun cls d _ H => E cls d H) rfl (takes_of rfl rfl rfl rfl) (pmk_oex O.ex O.init O.fn O.ok (hr.mono (by decide)) O.binds .nil pass0 (by rfl) O.gl (pa_cons (pv 1) pa_nil)))) pss_nil))), ?_⟩
    obtain ⟨t, vs, rfl, st, dl⟩ := act_parts hd
    obtain ⟨tp, eP, sP⟩ := hP a
    have ln : vs.length = a.parts.length := by rw [dl.len, List.length_map]
    refine ⟨_, rfl, t, _, 0, .str a.word, rfl, rfl, st, (by exact at_of (j := 0) rfl rfl), a.word, .ref tp, .ref tp, rfl, eP, rfl, ?_⟩
    refine ⟨_, rfl, _, rfl, t, _, rfl, st, fun z => ?_, fun _ r nr => ?_⟩
    · have := z.1
      rw [List.length_cons, one_sIx] at this
      cases this
    · rw [cut_tail]
      have s1 : Same H (upd H r (.tup vs)) := same_upd nr
      refine ⟨tp, r, _, _, rfl, .inr ⟨sP _, sqT upd_same, ?_⟩⟩
      refine for_zipT (by rw [List.length_map, ln]) (fun i σ H' => Same (upd H r (.tup vs)) H' ∧ firstBad (a.parts.take i) = none ∧ ∃ o1 o2, σ = [some (.ref t), o1, o2]) ⟨.refl _, rfl, none, none, rfl⟩ (fun i σ H' p => ⟨sP _, p.1.seqT (sqT upd_same)⟩) ?_ ?_
      · rintro i x y T1 σ H1 hx hy ⟨s2, fb, o1, o2, rfl⟩ nT
        obtain ⟨q, hq, ex⟩ : ∃ q, a.parts[i]? = some q ∧ V.str q.1 = x := by
          rw [List.getElem?_map] at hx
          cases e : a.parts[i]? with
          | none => rw [e] at hx; cases hx
          | some q => rw [e] at hx; exact ⟨q, rfl, Option.some.inj hx⟩
        subst ex
        have qm := List.mem_of_getElem? hq
        have s3 : Same H1 (upd H1 T1 (.tup [.str q.1, y])) := same_upd nT
        have dy : Dt K H y (dI q.2) := dtl_get dl hy (by rw [List.getElem?_map, hq]; rfl)
        have sa := (s1.trans s2).trans s3
        refine ⟨T1, _, rfl, sqT upd_same, rfl, _, _, rfl, _, _, rfl, rfl, ?_⟩
        refine ⟨_, rfl, _, rfl, q.1, y, q.2, rfl, typed_all a q qm, dy.st sa.t, sm q qm, fun H2 s4 => ⟨_, rfl, ite2 (fun b => ?_) (fun b => ?_)⟩⟩
        · have bb := bad_take hq fb (not_t b)
          refine ⟨_, rfl, ?_⟩
          have := raise_oor (Q := E) (Co := Co) (z := q.1) (H := H2) (σ := [some (V.ref t), some (V.str q.1), some y]) (name_len (typed_all a q qm)) ((q2 _ bb).same (sa.trans s4))
          exact this
        · exact ⟨(s2.trans s3).trans s4, bad_snoc hq fb (not_f b), _, _, rfl⟩
      · rintro σ H1 ⟨s2, fb, o1, o2, rfl⟩
        rw [List.length_map, List.take_length] at fb
        exact q1 fb H1 (s1.trans s2)
end
end KX

set_option maxRecDepth 100000
set_option maxHeartbeats 4000000
/-! Hg: act. -/
namespace KX
open PySem PySem.Spec PyProof.Rows L2 TL Ga PySem.Froz StX
/-- the answer of a question -/
def askM (fs : List File) : Act → PyData
  | .read p => aRead fs p
  | .kind p => aKind fs p
  | .list p => aList fs p
  | .find p z => aFind fs p z
  | .count p => aCount fs p
  | _ => dNone
def aboveOf (fs : List File) (x : Str) : Bool := (aboveF fs x).isEmpty
/-- the answer of a deed, and the files that it leaves -/
def doM (fs : List File) : Act → PyData × List File
  | .write p l => if pathsIn fs p ≠ [] ∨ aboveF fs p ≠ [] then (.tuple [.str "blocked"], fs) else if getF fs p = none ∧ 20 ≤ (pathsIn fs "").length then (.tuple [.str "full"], fs) else (.tuple [.str "done"], putFs fs p l)
  | .remove p => if getF fs p = none then (.tuple [.str "missing"], fs) else (.tuple [.str "done"], dropFs fs p)
  | .move p t => match getF fs p with
    | none => (.tuple [.str "missing"], fs)
    | some l => if underF (dropFs fs p) t ≠ [] ∨ aboveF (dropFs fs p) t ≠ [] then (.tuple [.str "blocked"], fs) else (.tuple [.str "done"], putFs (dropFs fs p) t l)
  | .splice p o n => match getF fs p with
    | none => (.tuple [.str "missing"], fs)
    | some l => match spotsF l o with
      | [] => (.tuple [.str "absent"], fs)
      | [i] => if 12 < (l.take i ++ n ++ l.drop (i + o.length)).length then (.tuple [.str "long"], fs) else (.tuple [.str "done"], putFs fs p (l.take i ++ n ++ l.drop (i + o.length)))
      | _ => (.tuple [.str "ambiguous"], fs)
  | _ => (dNone, fs)
def actM (fs : List File) (a : Act) : PyData × List File := if isQ a = true then (askM fs a, fs) else doM fs a
/-- an answer and a tree -/
def ActRes (K : PySem.W.Frag) (C : Addr) (H : Hp) (v : V) (r : PyData × List File) : Prop := ∃ t u p, v = .ref t ∧ SqT K H t [u, .ref p] ∧ Dt K H u r.1 ∧ TreeAt K C H p r.2
/-- the files' lines are texts that may be compared -/
def okS (fs : List File) : Prop := ∀ f ∈ fs, ∀ z ∈ f.2, PyData.strOk z = true
def spAct (K : PySem.W.Frag) (C Co : Addr) (ok : Act → Bool) : Sp := fun vs H Q E => ∃ (p : Addr) (v : V) (fs : List File) (a : Act), vs = [.ref p, v] ∧ TreeAt K C H p fs ∧ Sml fs ∧ fs.length ≤ 39 ∧ okS fs ∧ Dt K H v (dA a) ∧ a.small ∧ ok a = true ∧
  (a.bad = none → ∀ H' v, Same H H' → ActRes K C H' v (actM fs a) → Q v H') ∧ ∀ n, a.bad = some n → Oor Co n H E
/-- a written dict of defs, the one for each action of these -/
structure TabIn (P : Program) (w : World) (K : PySem.W.Frag) (mg : Str → Option Value) (base : Heap) (C : Addr) (x : Str) (ok : Act → Bool) (k : Nat) (Res : Hp → V → Addr → List File → Act → Prop) : Prop where
  ex : ∃ (d : Addr) (es : Array DictEntry) (n : Nat), mg x = some (.ref d) ∧ KDict K w d es n ∧ ∀ a : Act, ok a = true → ∃ (f : Addr) (sp : Sp), PySem.W.nsIn K d a.word = some (some (.ref f)) ∧ FnR P w K mg base CX0 k f sp ∧ PySem.W.keepIn K (.ref f) = true ∧
    ∀ (p : Addr) (fs : List File) (vs : List V) (H : Hp) (Q : VK), TreeAt K C H p fs → Sml fs → fs.length ≤ 39 → okS fs → a.small → a.bad = none → DtL K H vs (a.parts.map fun q => dI q.2) → (∀ H' v, Same H H' → Res H' v p fs a → Q v H') → sp (.ref p :: vs) H Q E0
abbrev AskIn (P : Program) (w : World) (K : PySem.W.Frag) (mg : Str → Option Value) (base : Heap) (C : Addr) (k : Nat) := TabIn P w K mg base C "ANSWERS" isQ k fun H v _ fs a => Dt K H v (askM fs a)
abbrev DoIn (P : Program) (w : World) (K : PySem.W.Frag) (mg : Str → Option Value) (base : Heap) (C : Addr) (ok : Act → Bool) (k : Nat) := TabIn P w K mg base C "DOINGS" (fun a => ok a && !isQ a) k fun H v _ fs a => ActRes K C H v (doM fs a)
section
variable {P : Program} {w : World} {K : PySem.W.Frag} {mg : Str → Option Value} {base : Heap} {C : Addr}
theorem ok_act {f Co fo : Addr} {fd fdo : FuncData} {ok : Act → Bool} (F : Fun K "act" "act" s_act f fd) (T : Tx mg) (tc : TreeC K C) (CC : CalX P w K mg base 5 "check_action" ["action"] (spCheck K Co)) (CQ : Cal P w K mg base 1 "is_question" ["action"] (spIsQ K))
    (AI : AskIn P w K mg base C 9) (DI : DoIn P w K mg base C ok 9) : FnOk P w K mg base (L2.CX P w) 10 f fd ["tree", "action"] (spAct K C Co ok) := by
  obtain ⟨d1, es1, n1, g1, KD1, h1⟩ := AI.ex
  obtain ⟨d2, es2, n2, g2, KD2, h2⟩ := DI.ex
  refine F.okX sc_act (fun vs H Q E h => ?_) (fun cdv A outer s H vs Q E hr h => ?_)
  · obtain ⟨p, v, fs, a, rfl, _⟩ := h
    rfl
  · obtain ⟨p, v, fs, a, rfl, tr, sm, few, oks, hd, sa, oka, q1, q2⟩ := h
    refine ⟨_, pss_cons (ps_expr (pe_calX CC hr (passes_call (takes_of rfl rfl rfl rfl) fun _ _ _ _ h => h) (pa_cons (pv 1) pa_nil)))
      (pss_cons (ps_asg (pv 1) (pg_head (K := K) rfl rfl (pgs_cons (pg_name (i := 2) sc_act.nd rfl (Or.inl rfl)) (pgs_cons (pg_name (i := 3) sc_act.nd rfl (Or.inl rfl)) pgs_nil))))
      (pss_cons (ps_if (pt_val (pe_cal CQ hr pass0 (pa_cons (pv 1) pa_nil))) (pss_cons (ps_set (i := 4) sc_act.nd rfl (.inl rfl) (pe_kd (K := K) rfl KD1 (by rfl) g1 (pv 2) (fun _ _ => rfl)))
          (pss_one (ps_ret (pe_tup (pa_cons (pe_callV (i := 4) (E := E0) (CX := CX0) (Rl := fun f sp => FnR P w K mg base CX0 9 f sp ∧ PySem.W.keepIn K (.ref f) = true) (fun f sp h => h) hr rfl (by first | exact .inl rfl | exact .inr rfl | exact .inr (.inl rfl)) pass0 (pa_cons (pv 0) (pa_star (pv 3) pa_nil))) (pa_cons (pv 0) pa_nil)))))) pss_nil)
      (pss_cons (ps_set (i := 5) sc_act.nd rfl (.inl rfl) (pe_kd (K := K) rfl KD2 (by rfl) g2 (pv 2) (fun _ _ => rfl)))
      (pss_one (ps_ret (pe_callV (i := 5) (E := E0) (CX := CX0) (Rl := fun f sp => FnR P w K mg base CX0 9 f sp ∧ PySem.W.keepIn K (.ref f) = true) (fun f sp h => h) hr rfl (by first | exact .inl rfl | exact .inr rfl | exact .inr (.inl rfl)) pass0 (pa_cons (pv 0) (pa_star (pv 3) pa_nil)))))))), ?_⟩
    refine ⟨_, rfl, v, a, rfl, hd, sa, fun hb H1 s1 => ?_, fun n hb => q2 n hb⟩
    obtain ⟨t, vs, rfl, st, dl⟩ := act_parts hd
    have ln : vs.length ≤ 3 := by rw [dl.len, List.length_map]; exact parts_few a
    refine ⟨_, rfl, t, .str a.word, vs, rfl, s1.seqT st, by omega, fun D nD => ?_⟩
    have s2 : Same H (upd H1 D (.lst vs)) := s1.trans (same_upd nD)
    refine ⟨_, _, rfl, _, _, rfl, rfl, ?_⟩
    refine ⟨_, rfl, _, a, rfl, hd.st s2.t, _, rfl, ?_⟩
    refine ite2 (fun b => ?_) (fun b => ?_)
    · obtain ⟨f1, sp1, e1, F1, k1, c1⟩ := h1 a b
      refine ⟨_, rfl, _, .ref f1, .ref f1, rfl, e1, rfl, ?_⟩
      refine ⟨f1, sp1, rfl, ⟨F1, k1⟩, _, rfl, _, rfl, D, vs, rfl, .inr (sqL upd_same), ?_⟩
      show sp1 (V.ref p :: (vs ++ [])) _ _ E0
      rw [List.append_nil]
      refine c1 p fs vs _ _ (tr.same s2) sm few oks sa hb (dl.st s2.t) fun H3 u s3 du => ?_
      refine ⟨_, rfl, by show 2 ≤ sizeLine; decide, fun r nr => ?_⟩
      have s4 : Same H3 (upd H3 r (.tup [u, .ref p])) := same_upd nr
      refine q1 hb _ _ ((s2.trans s3).trans s4) ⟨r, u, p, rfl, sqT upd_same, ?_, ?_⟩
      · rw [actM, if_pos b]
        exact du.st s4.t
      · rw [actM, if_pos b]
        exact tr.same ((s2.trans s3).trans s4)
    · obtain ⟨f1, sp1, e1, F1, k1, c1⟩ := h2 a (by rw [oka, Bool.eq_false_iff.mpr b]; rfl)
      refine ⟨_, rfl, _, .ref f1, .ref f1, rfl, e1, rfl, ?_⟩
      refine ⟨f1, sp1, rfl, ⟨F1, k1⟩, _, rfl, _, rfl, D, vs, rfl, .inr (sqL upd_same), ?_⟩
      show sp1 (V.ref p :: (vs ++ [])) _ _ E0
      rw [List.append_nil]
      refine c1 p fs vs _ _ (tr.same s2) sm few oks sa hb (dl.st s2.t) fun H3 u s3 du => ?_
      refine q1 hb _ _ (s2.trans s3) ?_
      rw [actM, if_neg b]
      exact du
end
end KX

set_option maxRecDepth 100000
set_option maxHeartbeats 4000000
/-! Lb: data that may be shown and compared. -/
namespace KX
open PySem PySem.Spec PyProof.Rows L2 TL Ga NdefX
structure Plain (d : PyData) : Prop where
  sh : d.showable = true
  nd : d.hasDict = false
  dp : d.depth ≤ 40
  ln : d.shown.length ≤ sizeLine
/-- data of the law: small, shallow -/
structure Pl (n k : Nat) (d : PyData) : Prop where
  can : d.canLay0 = true
  dep : d.depth ≤ k
  wt : d.weight ≤ n
  ish : d.intsShort 13 = true
  sh : d.showable = true
structure PlL (n k : Nat) (ds : List PyData) : Prop where
  can : PyData.canLayAll0 ds = true
  dep : PyData.depthAll ds ≤ k
  wt : PyData.weightAll ds ≤ n
  ish : PyData.intsShortAll 13 ds = true
  sh : PyData.showableAll ds = true
theorem Pl.plain {n k : Nat} {d : PyData} (h : Pl n k d) (hn : n ≤ 1000000) (hk : k ≤ 40) : Plain d := by
  refine ⟨h.sh, PyData.hasDict_of_canLay d h.can, Nat.le_trans h.dep hk, ?_⟩
  have a := PyData.shown_le 13 (by decide) d (PyData.leavesShort_of_canLay0 13 d h.can h.ish)
  have b := h.wt
  rw [sizeLine_eq]
  omega
theorem Pl.shaped {n k : Nat} {d : PyData} (h : Pl n k d) (hk : k ≤ 64) : SeqAt.shaped d = true := by
  unfold SeqAt.shaped
  rw [h.can, decide_eq_true (Nat.le_trans h.dep hk)]
  rfl
theorem Pl.mono {n k n' k' : Nat} {d : PyData} (h : Pl n k d) (hn : n ≤ n') (hk : k ≤ k') : Pl n' k' d := ⟨h.can, Nat.le_trans h.dep hk, Nat.le_trans h.wt hn, h.ish, h.sh⟩
theorem PlL.nil {n k : Nat} : PlL n k [] := ⟨rfl, Nat.zero_le _, Nat.zero_le _, rfl, rfl⟩
theorem PlL.cons {n m k : Nat} {d : PyData} {ds : List PyData} (h : Pl n k d) (t : PlL m k ds) : PlL (n + 1 + m) k (d :: ds) := by
  refine ⟨?_, ?_, ?_, ?_, ?_⟩
  · show (d.canLay0 && PyData.canLayAll0 ds) = true
    rw [h.can, t.can]
    rfl
  · show max d.depth (PyData.depthAll ds) ≤ k
    exact Nat.max_le.mpr ⟨h.dep, t.dep⟩
  · show d.weight + 1 + PyData.weightAll ds ≤ _
    have := h.wt
    have := t.wt
    omega
  · show (d.intsShort 13 && PyData.intsShortAll 13 ds) = true
    rw [h.ish, t.ish]
    rfl
  · show (d.showable && PyData.showableAll ds) = true
    rw [h.sh, t.sh]
    rfl
theorem PlL.tup {n k : Nat} {ds : List PyData} (h : PlL n k ds) : Pl n (k + 1) (.tuple ds) := by
  refine ⟨h.can, ?_, h.wt, h.ish, h.sh⟩
  show PyData.depthAll ds + 1 ≤ k + 1
  have := h.dep
  omega
theorem PlL.mono {n k n' k' : Nat} {d : List PyData} (h : PlL n k d) (hn : n ≤ n') (hk : k ≤ k') : PlL n' k' d := ⟨h.can, Nat.le_trans h.dep hk, Nat.le_trans h.wt hn, h.ish, h.sh⟩
/-- all of the same kind -/
theorem PlL.all {n k : Nat} : ∀ {ds : List PyData}, (∀ d ∈ ds, Pl n k d) → PlL ((n + 1) * ds.length) k ds
  | [], _ => .nil
  | d :: ds, h => (PlL.cons (h d List.mem_cons_self) (PlL.all fun e he => h e (List.mem_cons_of_mem _ he))).mono (by rw [List.length_cons, Nat.mul_succ]; omega) (Nat.le_refl _)
theorem pl_str {n : Nat} {z : Str} (h : okText n z) : Pl n 0 (.str z) := by
  refine ⟨okc_strOk h, Nat.le_refl _, ?_, rfl, rfl⟩
  have := h.1
  rw [← size_tl] at this
  exact this
theorem pl_none {n k : Nat} : Pl n k .none := ⟨rfl, Nat.zero_le _, Nat.zero_le _, rfl, rfl⟩
theorem pl_bool {n k : Nat} (b : Bool) : Pl n k (.bool b) := ⟨rfl, Nat.zero_le _, Nat.zero_le _, rfl, rfl⟩
theorem nat_chk : ((List.range 64).all fun i : Nat => (PyData.int (i : Nat)).intsShort 13 && (decide ((PyData.int (i : Nat)).weight ≤ 13) && (PyData.int (i : Nat)).showable)) = true := by decide +kernel
theorem pl_nat {k i : Nat} (h : i < 64) : Pl 13 k (.int (i : Nat)) := by
  have := List.all_eq_true.mp nat_chk i (List.mem_range.mpr h)
  simp only [Bool.and_eq_true, decide_eq_true_eq] at this
  exact ⟨rfl, Nat.zero_le _, this.2.1, this.1, this.2.2⟩
theorem pl_lines {n m : Nat} {l : List Str} (h : ∀ z ∈ l, okText n z) (hl : l.length ≤ m) : Pl ((n + 1) * m) 1 (dL l) := by
  have : PlL ((n + 1) * (l.map PyData.str).length) 0 (l.map PyData.str) := PlL.all fun d hd => by
    obtain ⟨z, hz, rfl⟩ := List.mem_map.mp hd
    exact pl_str (h z hz)
  exact (this.mono (Nat.mul_le_mul_left _ (by rw [List.length_map]; exact hl)) (Nat.le_refl _)).tup
/-! ### what the law's files and answers are -/
/-- a file of the law: few short lines -/
theorem pl_file {f : File} (h1 : f.1 ∈ lawPaths) (h2 : f.2.length ≤ 12) (h3 : ∀ z ∈ f.2, okText 20 z) : Pl 300 2 (dF f) := by
  have a := pl_lines (m := 12) h3 h2
  have b : Pl 8 1 (.str f.1) := (pl_str (pth h1).text).mono (Nat.le_refl _) (by omega)
  exact ((PlL.cons b (PlL.cons a (PlL.nil (n := 0)))).tup).mono (by omega) (by omega)
def dR (gs : List File) : PyData := .tuple (gs.map dF)
theorem LawF.rows {fs : List File} (h : LawF fs) : Pl 7000 3 (dR fs) := by
  have : PlL ((300 + 1) * (fs.map dF).length) 2 (fs.map dF) := PlL.all fun d hd => by
    obtain ⟨f, hf, rfl⟩ := List.mem_map.mp hd
    obtain ⟨a, b, c⟩ := h.each f hf
    exact pl_file a b fun z hz => (c z hz).1
  refine (this.mono ?_ (Nat.le_refl _)).tup
  rw [List.length_map]
  have := h.few
  omega
theorem LawF.perm {fs gs : List File} (h : LawF fs) (p : gs.Perm fs) : LawF gs := ⟨fun f hf => h.each f (p.mem_iff.mp hf), fun f hf g hg => h.clean f (p.mem_iff.mp hf) g (p.mem_iff.mp hg), by rw [p.length_eq]; exact h.few⟩
theorem LawF.sml {fs : List File} (h : LawF fs) : Sml fs := fun f hf => by
  obtain ⟨a, b, c⟩ := h.each f hf
  exact ⟨Nat.le_trans (pth a).text.1 (by decide), by omega, fun z hz => Nat.le_trans (c z hz).1.1 (by decide)⟩
theorem LawF.small {fs : List File} (h : LawF fs) : Small fs := ⟨by have := h.few; omega, h.sml⟩
end KX

set_option maxRecDepth 100000
set_option maxHeartbeats 4000000
/-! Lc: the law's drawn paths, places, questions. -/
namespace KX
open PySem PySem.Spec PyProof.Rows L2 TL Ga NdefX
def spSome (K : PySem.W.Frag) : Sp := fun vs H Q _ => ∃ (B D d : Addr) (fs : List File), vs = [.ref B, .ref d] ∧ Box H B D ∧ Tab K H d fs ∧ (∀ f ∈ fs, f.1 ∈ lawPaths) ∧ ∀ z H', z ∈ lawPaths → Kp B H H' → Box H' B D → Q (.str z) H'
def lawPlaces : List Str := "" :: lawPaths
def spPlace (K : PySem.W.Frag) : Sp := fun vs H Q _ => ∃ (B D d : Addr) (fs : List File), vs = [.ref B, .ref d] ∧ Box H B D ∧ Tab K H d fs ∧ (∀ f ∈ fs, f.1 ∈ lawPaths) ∧ ∀ z H', z ∈ lawPlaces → Kp B H H' → Box H' B D → Q (.str z) H'
theorem Box.dne {H : Hp} {B D d : Addr} {kvs : List (Key × V)} (b : Box H B D) (h : H d = some (.dK kvs)) : d ≠ B := fun e => by
  obtain ⟨ds, i, h1, _⟩ := b.ex
  rw [e, h1] at h
  cases h
section
variable {P : Program} {w : World} {K : PySem.W.Frag} {mg : Str → Option Value} {base : Heap}
theorem ok_some {f : Addr} {fd : FuncData} (F : Fun K "_law_some_path" "_law_some_path" s_L_some_path f fd) (T : Tx mg) (CD : Cal P w K mg base 1 "_law_draw" ["box", "many"] spDraw) (CP : Cal P w K mg base 2 "_law_path" ["box"] spPth) : FnOk P w K mg base CX0 3 f fd ["box", "files"] (spSome K) := by
  refine F.ok sc_L_some_path (fun vs H Q E h => ?_) (fun cdv A outer s H vs Q E hr h => ?_)
  · obtain ⟨B, D, d, fs, rfl, _⟩ := h
    rfl
  · obtain ⟨B, D, d, fs, rfl, bx, ⟨kvs, hd, pr, nd, hl⟩, lp, q⟩ := h
    refine ⟨_, pss_cons (ps_set (i := 2) sc_L_some_path.nd rfl (.inl rfl) (pe_callB (call_sortedD rfl) (by rfl) T.sorted (by decide +kernel) (pa_cons (pv 1) pa_nil)))
      (pss_cons (ps_if (PW.pt (pw_and (pt_cmpR (op_neD hr.units) (pv 2) (pe_lst pa_nil) (nomark _)) (pw_and1 (pt_cmpR op_gt (pe_cal CD hr pass0 (pa_cons (pv 0) (pa_cons pe_int pa_nil))) pe_int (nomark _)))))
        (pss_one (ps_ret (pe_ix (ixL (K := K) rfl) (pv 2) (pe_cal CD hr pass0 (pa_cons (pv 0) (pa_cons (pe_callB call_len_seq (by rfl) T.len PySem.boot_len (pa_cons (pv 2) pa_nil)) pa_nil))) (fun _ _ => rfl)))) pss_nil)
      (pss_one (ps_ret (pe_cal CP hr pass0 (pa_cons (pv 0) pa_nil))))), ?_⟩
    refine ⟨_, rfl, d, kvs, fs.map (·.1), rfl, .inl hd, keys_of pr, by rw [List.length_map]; omega, fun ys l perm srt nl => ?_⟩
    have b1 := bx.new (o := .lst (ys.map V.str)) nl
    have kp1 : Kp B H (upd H l (.lst (ys.map V.str))) := .same (same_upd nl)
    have yin : ∀ y ∈ ys, y ∈ lawPaths := fun y hy => by
      obtain ⟨g, hg, rfl⟩ := List.mem_map.mp (perm.mem_iff.mp hy)
      exact lp g hg
    have yok : ∀ y ∈ ys, PyData.strOk y = true := fun y hy => okc_strOk (pth (yin y hy)).text
    refine ⟨_, rfl, by show 0 ≤ sizeLine; decide, fun m nm => ?_⟩
    have b2 := b1.new (o := .lst []) nm
    have kp2 : Kp B H (upd (upd H l (.lst (ys.map V.str))) m (.lst [])) := kp1.trans (.same (same_upd nm))
    have lB : l ≠ B := bx.ne nl
    have hlL : (upd (upd H l (.lst (ys.map V.str))) m (.lst [])) l = some (.lst (ys.map V.str)) := by rw [upd_ne (ne_of_none upd_same nm)]; exact upd_same
    refine ⟨.list (ys.map PyData.str), .list [], .lst (sqL hlL) (dpAll_strs ys), .lst (sqL upd_same) .nil, shaped_strs yok, rfl, _, rfl, ?_⟩
    rw [eqv_nil, List.isEmpty_map]
    have path : ∀ H2 : Hp, Kp B H H2 → Box H2 B D → spPth [.ref B] H2 Q E0 := fun H2 kp b => ⟨B, D, rfl, b, fun v H' hv kp' b' => by
      obtain ⟨ps, rfl, _⟩ := id hv
      exact q _ H' (pth_law hv) (kp.trans kp') b'⟩
    cases em : ys.isEmpty with
    | true => exact iteF (iteF ⟨_, rfl, path _ kp2 b2⟩)
    | false =>
      refine iteT ⟨_, rfl, B, D, 4, rfl, by decide, b2, fun r H3 r0 r4 kp3 b3 => ⟨_, _, rfl, rfl, _, rfl, ite2 (fun _ => ?_) (fun _ => ?_)⟩⟩
      · have hl3 := kp3 _ _ lB hlL
        have pos : 0 < ys.length := List.length_pos_iff.mpr fun z => by rw [z] at em; cases em
        refine ⟨_, rfl, _, rfl, _, rfl, l, _, rfl, .inl (sqL hl3), B, D, _, rfl, by rw [List.length_map]; omega, b3, fun r2 H4 r0 rn kp4 b4 => ?_⟩
        rw [List.length_map] at rn
        have lt : r2.toNat < ys.length := by omega
        refine ⟨l, _, r2, V.str (ys[r2.toNat]), rfl, rfl, sqL (kp4 _ _ lB hl3), at_of (j := r2.toNat) (by omega) (by rw [List.getElem?_map, List.getElem?_eq_getElem lt]; rfl), ?_⟩
        exact q _ H4 (yin _ (List.getElem_mem lt)) ((kp2.trans kp3).trans kp4) b4
      · exact ⟨_, rfl, path _ (kp2.trans kp3) b3⟩
theorem place_chk : (lawPaths.all fun z => decide ((Txt.split z sl).headD "" ∈ lawPaths) && (decide (Txt.join sl ((Txt.split z sl).take 2) ∈ lawPaths) && (decide ((Txt.split z sl).length ≤ 3) && decide ((((Txt.split z sl).take 2).map (·.length)).sum + ((Txt.split z sl).take 2).length * sl.length ≤ 100)))) = true := by decide +kernel
theorem ok_place {f : Addr} {fd : FuncData} (F : Fun K "_law_place" "_law_place" s_L_place f fd) (T : Tx mg) (CD : Cal P w K mg base 1 "_law_draw" ["box", "many"] spDraw) (CS : Cal P w K mg base 3 "_law_some_path" ["box", "files"] (spSome K)) : FnOk P w K mg base CX0 4 f fd ["box", "files"] (spPlace K) := by
  refine F.ok sc_L_place (fun vs H Q E h => ?_) (fun cdv A outer s H vs Q E hr h => ?_)
  · obtain ⟨B, D, d, fs, rfl, _⟩ := h
    rfl
  · obtain ⟨B, D, d, fs, rfl, bx, tb, lp, q⟩ := h
    refine ⟨_, pss_cons (ps_set (i := 2) sc_L_place.nd rfl (.inl rfl) (pe_cal CS hr pass0 (pa_cons (pv 0) (pa_cons (pv 1) pa_nil))))
      (pss_cons (ps_set (i := 3) sc_L_place.nd rfl (.inl rfl) (pe_split (pv 2) pe_str))
      (pss_one (ps_ret (pe_ix (ixL (K := K) rfl) (pe_lst (pa_cons pe_str (pa_cons (pv 2) (pa_cons (pe_ix (ixL (K := K) rfl) (pv 3) pe_int (fun _ _ => rfl)) (pa_cons (pe_join pe_str (pe_slice (r := rSlL K) sl_list (pv 3) po_none (po_some pe_int))) pa_nil)))))
        (pe_cal CD hr pass0 (pa_cons (pv 0) (pa_cons pe_int pa_nil))) (fun _ _ => rfl))))), ?_⟩
    refine ⟨_, rfl, _, rfl, B, D, d, fs, rfl, bx, tb, lp, fun z H1 hz kp1 b1 => ?_⟩
    have hz1 := (pth hz).text.1
    refine ⟨_, rfl, ⟨_, rfl⟩, z, sl, rfl, rfl, rfl, ?_, fun p np => ?_⟩
    · rw [len_tl]
      exact Nat.le_trans (Nat.add_le_add_right hz1 2) (by decide)
    have chk := List.all_eq_true.mp place_chk z hz
    simp only [Bool.and_eq_true, decide_eq_true_eq] at chk
    obtain ⟨c1, c2, c3, c4⟩ := chk
    have np' : H1 p = none := np
    obtain ⟨p0, ps, es⟩ : ∃ p0 ps, Txt.split z sl = p0 :: ps := by
      cases e : Txt.split z sl with
      | nil => exact absurd e (split_ne z)
      | cons a b => exact ⟨a, b, rfl⟩
    have b2 := b1.new (o := .lst ((Txt.split z sl).map V.str)) np
    have kp2 : Kp B H (upd H1 p (.lst ((Txt.split z sl).map V.str))) := kp1.trans (.same (same_upd np))
    refine ⟨_, rfl, _, rfl, p, _, 0, .str p0, rfl, rfl, sqL upd_same, at_of (j := 0) rfl (by rw [es]; rfl), ⟨_, rfl⟩, _, rfl, _, rfl, p, _, rfl, sqL upd_same, fun u nu => ?_⟩
    have cut : cutV ((Txt.split z sl).map V.str) none (some 2) = ((Txt.split z sl).take 2).map V.str := by
      have h1 : HT.sIx ((Txt.split z sl).map V.str).length ((Txt.split z sl).map V.str).length (some ((2 : Nat) : Int)) = min 2 ((Txt.split z sl).map V.str).length := HT.sIx_nat _ _ _
      unfold cutV
      rw [HT.sIx_none, show HT.sIx ((Txt.split z sl).map V.str).length ((Txt.split z sl).map V.str).length (some 2) = min 2 ((Txt.split z sl).map V.str).length from h1, List.drop_zero, Nat.sub_zero, List.map_take, ← List.take_eq_take_min]
    rw [cut]
    have sb : Same (upd H1 p (.lst ((Txt.split z sl).map V.str))) (upd (upd H1 p (.lst ((Txt.split z sl).map V.str))) u (.lst (((Txt.split z sl).take 2).map V.str))) := same_upd nu
    refine ⟨_, u, (Txt.split z sl).take 2, rfl, rfl, .inl (sqL upd_same), ?_, by show 4 ≤ sizeLine; decide, fun l nl => ?_⟩
    · exact Nat.le_trans c4 (by decide)
    · have b3 := b2.same sb
      refine draw_is (by decide) rfl (b3.new nl) fun r H2 r0 r4 kp3 b4 => ?_
      have lB : l ≠ B := b3.ne nl
      have hl := kp3 _ _ lB upd_same
      have kpz : Kp B H H2 := ((kp2.trans (.same sb)).trans (.same (same_upd nl))).trans kp3
      have four : ∀ r : Int, 0 ≤ r → r < 4 → ∃ y, atI [V.str "", V.str z, V.str p0, V.str (Txt.join sl ((Txt.split z sl).take 2))] r = some (.str y) ∧ y ∈ lawPlaces := fun r a b => by
        have : r = 0 ∨ r = 1 ∨ r = 2 ∨ r = 3 := by omega
        rcases this with rfl | rfl | rfl | rfl
        · exact ⟨_, at_of (j := 0) rfl rfl, List.mem_cons_self⟩
        · exact ⟨_, at_of (j := 1) rfl rfl, List.mem_cons_of_mem _ hz⟩
        · exact ⟨_, at_of (j := 2) rfl rfl, List.mem_cons_of_mem _ (by rw [es] at c1; exact c1)⟩
        · exact ⟨_, at_of (j := 3) rfl rfl, List.mem_cons_of_mem _ c2⟩
      obtain ⟨y, ey, my⟩ := four r r0 r4
      exact ⟨l, _, r, .str y, rfl, rfl, sqL hl, ey, q y H2 my kpz b4⟩
/-- a question of the law: its parts are within their bounds -/
structure LawQ (a : Act) : Prop where
  q : isQ a = true
  ok : a.bad = none
  pl : Pl 100 1 (dA a)
  small : a.small
  place : ∀ q ∈ a.parts.head?, ∃ z, q.2 = .tx z ∧ z ∈ lawPlaces
def spQuest (K : PySem.W.Frag) : Sp := fun vs H Q _ => ∃ (B D d : Addr) (fs : List File), vs = [.ref B, .ref d] ∧ Box H B D ∧ Tab K H d fs ∧ (∀ f ∈ fs, f.1 ∈ lawPaths) ∧ ∀ v a H', Dt K H' v (dA a) → LawQ a → Kp B H H' → Box H' B D → Q v H'
abbrev wMenu : List Str := ["x", "y", " ", "todo", "x y"]
theorem place_ok {z : Str} (h : z ∈ lawPlaces) : isPlace z = true ∧ okText 8 z := by
  rcases List.mem_cons.mp h with rfl | h
  · exact ⟨by decide +kernel, by decide +kernel⟩
  · refine ⟨?_, (pth h).text⟩
    unfold isPlace
    rw [(pth h).path, Bool.or_true]
theorem word_ok {z : Str} (h : z ∈ wMenu) : isWord z = true ∧ okText 20 z := by
  have : ∀ z ∈ wMenu, isWord z = true ∧ okText 20 z := by
    intro z hz
    simp only [List.mem_cons, List.not_mem_nil, or_false] at hz
    rcases hz with rfl | rfl | rfl | rfl | rfl <;> exact ⟨by decide +kernel, by decide +kernel⟩
  exact this z h
theorem word_txt (a : Act) : okText 20 a.word := by cases a <;> (simp only [Act.word]; decide +kernel)
theorem lawQ_place {c : Str → Act} {z : Str} (hz : z ∈ lawPlaces) (h : c = .kind ∨ c = .list ∨ c = .count) : LawQ (c z) := by
  obtain ⟨h1, h2⟩ := place_ok hz
  have w : ∀ {n : Str}, okText 20 n → Pl 100 1 (.tuple [.str n, .str z]) := fun {n} hn => ((PlL.cons (pl_str hn) (PlL.cons (pl_str h2) (PlL.nil (n := 0)))).tup).mono (by omega) (Nat.le_refl _)
  have b : firstBad [("place", Itm.tx z)] = none := by
    unfold firstBad
    rw [if_pos (show okItm "place" (.tx z) = true from h1)]
    rfl
  have sm : ∀ q ∈ [(("place" : Str), Itm.tx z)], smallI q.2 := fun q hq => by
    obtain rfl := List.mem_singleton.mp hq
    exact Nat.le_trans h2.1 (by decide)
  have pl : ∀ q ∈ [(("place" : Str), Itm.tx z)].head?, ∃ y, q.2 = .tx y ∧ y ∈ lawPlaces := fun q hq => by
    cases hq
    exact ⟨z, rfl, hz⟩
  rcases h with rfl | rfl | rfl
  · exact ⟨by simp [isQ], b, w (word_txt _), sm, pl⟩
  · exact ⟨by simp [isQ], b, w (word_txt _), sm, pl⟩
  · exact ⟨by simp [isQ], b, w (word_txt _), sm, pl⟩
theorem lawQ_read {z : Str} (hz : z ∈ lawPaths) : LawQ (.read z) := by
  have h2 := (pth hz).text
  refine ⟨by simp [isQ], ?_, ((PlL.cons (pl_str (n := 20) (word_txt _)) (PlL.cons (pl_str h2) (PlL.nil (n := 0)))).tup).mono (by omega) (Nat.le_refl _), fun q hq => ?_, fun q hq => ?_⟩
  · show firstBad [("path", Itm.tx z)] = none
    unfold firstBad
    rw [if_pos (show okItm "path" (.tx z) = true from (pth hz).path)]
    rfl
  · obtain rfl := List.mem_singleton.mp hq
    exact Nat.le_trans h2.1 (by decide)
  · cases hq
    exact ⟨z, rfl, List.mem_cons_of_mem _ hz⟩
theorem lawQ_find {z y : Str} (hz : z ∈ lawPlaces) (hy : y ∈ wMenu) : LawQ (.find z y) := by
  obtain ⟨h1, h2⟩ := place_ok hz
  obtain ⟨g1, g2⟩ := word_ok hy
  refine ⟨by simp [isQ], ?_, ((PlL.cons (pl_str (n := 20) (word_txt _)) (PlL.cons (pl_str h2) (PlL.cons (pl_str g2) (PlL.nil (n := 0))))).tup).mono (by omega) (Nat.le_refl _), fun q hq => ?_, fun q hq => ?_⟩
  · show firstBad [("place", Itm.tx z), ("word", Itm.tx y)] = none
    unfold firstBad
    rw [if_pos (show okItm "place" (.tx z) = true from h1)]
    unfold firstBad
    rw [if_pos (show okItm "word" (.tx y) = true from g1)]
    rfl
  · rcases List.mem_cons.mp hq with rfl | hq
    · exact Nat.le_trans h2.1 (by decide)
    · obtain rfl := List.mem_singleton.mp hq
      exact Nat.le_trans g2.1 (by decide)
  · cases hq
    exact ⟨z, rfl, hz⟩
abbrev qMenu : List V := qWords
theorem ok_quest {f : Addr} {fd : FuncData} (F : Fun K "_law_question" "_law_question" s_L_question f fd) (T : Tx mg) (CD : Cal P w K mg base 1 "_law_draw" ["box", "many"] spDraw) (CS : Cal P w K mg base 3 "_law_some_path" ["box", "files"] (spSome K))
    (CP : Cal P w K mg base 4 "_law_place" ["box", "files"] (spPlace K)) : FnOk P w K mg base CX0 5 f fd ["box", "files"] (spQuest K) := by
  refine F.ok sc_L_question (fun vs H Q E h => ?_) (fun cdv A outer s H vs Q E hr h => ?_)
  · obtain ⟨B, D, d, fs, rfl, _⟩ := h
    rfl
  · obtain ⟨B, D, d, fs, rfl, bx, tb, lp, q⟩ := h
    refine ⟨_, pss_cons (ps_set (i := 2) sc_L_question.nd rfl (.inl rfl) (pe_ix (ixL (K := K) rfl) (pe_lst (pa_consts (vs := qMenu) rfl)) (pe_cal CD hr pass0 (pa_cons (pv 0) (pa_cons pe_int pa_nil))) (fun _ _ => rfl)))
      (pss_cons (ps_if (pt_cmpR op_eq (pv 2) pe_str (nomark _)) (pss_one (ps_ret (pe_tup (pa_cons pe_str (pa_cons (pe_cal CS hr pass0 (pa_cons (pv 0) (pa_cons (pv 1) pa_nil))) pa_nil))))) pss_nil)
      (pss_cons (ps_if (pt_cmpR op_eq (pv 2) pe_str (nomark _)) (pss_one (ps_ret (pe_tup (pa_cons pe_str (pa_cons (pe_cal CP hr pass0 (pa_cons (pv 0) (pa_cons (pv 1) pa_nil)))
          (pa_cons (pe_ix (ixL (K := K) rfl) (pe_lst (pa_consts (vs := wMenu.map V.str) rfl)) (pe_cal CD hr pass0 (pa_cons (pv 0) (pa_cons pe_int pa_nil))) (fun _ _ => rfl)) pa_nil)))))) pss_nil)
      (pss_one (ps_ret (pe_tup (pa_cons (pv 2) (pa_cons (pe_cal CP hr pass0 (pa_cons (pv 0) (pa_cons (pv 1) pa_nil))) pa_nil))))))), ?_⟩
    refine pick rfl (by decide) (by decide) rfl bx fun v hv H1 kp1 b1 => ?_
    have tb1 := tb.kp kp1 bx
    -- the place behind a word
    have ends : ∀ (c : Str → Act), (c = .kind ∨ c = .list ∨ c = .count) → ∀ z H2, z ∈ lawPlaces → Kp B H1 H2 → Box H2 B D → ∀ t, H2 t = none → Q (.ref t) (upd H2 t (.tup [.str (c z).word, .str z])) := fun c hc z H2 hz kp2 b2 t nt => by
      refine q _ (c z) _ ?_ (lawQ_place hz hc) ((kp1.trans kp2).trans (.same (same_upd nt))) (b2.new nt)
      rcases hc with rfl | rfl | rfl <;> exact dt2 (sqT upd_same) (.str _) (.str _)
    simp only [qMenu, qWords, List.mem_cons, List.not_mem_nil, or_false] at hv
    rcases hv with rfl | rfl | rfl | rfl | rfl
    · refine ⟨_, rfl, rfl, _, rfl, iteT ⟨_, rfl, _, rfl, B, D, d, fs, rfl, b1, tb1, lp, fun z H2 hz kp2 b2 => ⟨by show 2 ≤ sizeLine; decide, fun t nt => ?_⟩⟩⟩
      exact q _ (.read z) _ (dt2 (sqT upd_same) (.str _) (.str _)) (lawQ_read hz) ((kp1.trans kp2).trans (.same (same_upd nt))) (b2.new nt)
    · exact ⟨_, rfl, rfl, _, rfl, iteF ⟨_, rfl, rfl, _, rfl, iteF ⟨_, rfl, _, rfl, _, rfl, B, D, d, fs, rfl, b1, tb1, lp, fun z H2 hz kp2 b2 => ⟨by show 2 ≤ sizeLine; decide, fun t nt => ends .kind (.inl rfl) z H2 hz kp2 b2 t nt⟩⟩⟩⟩
    · exact ⟨_, rfl, rfl, _, rfl, iteF ⟨_, rfl, rfl, _, rfl, iteF ⟨_, rfl, _, rfl, _, rfl, B, D, d, fs, rfl, b1, tb1, lp, fun z H2 hz kp2 b2 => ⟨by show 2 ≤ sizeLine; decide, fun t nt => ends .list (.inr (.inl rfl)) z H2 hz kp2 b2 t nt⟩⟩⟩⟩
    · refine ⟨_, rfl, rfl, _, rfl, iteF ⟨_, rfl, rfl, _, rfl, iteT ⟨_, rfl, _, rfl, B, D, d, fs, rfl, b1, tb1, lp, fun z H2 hz kp2 b2 => ?_⟩⟩⟩
      refine pick rfl (by decide) (by decide) rfl b2 fun v hv H3 kp3 b3 => ⟨by show 3 ≤ sizeLine; decide, fun t nt => ?_⟩
      obtain ⟨y, hy, rfl⟩ := List.mem_map.mp hv
      exact q _ (.find z y) _ (.tup (sqT upd_same) (.cons (.str _) (.cons (.str _) (.cons (.str _) .nil)))) (lawQ_find hz hy) (((kp1.trans kp2).trans kp3).trans (.same (same_upd nt))) (b3.new nt)
    · exact ⟨_, rfl, rfl, _, rfl, iteF ⟨_, rfl, rfl, _, rfl, iteF ⟨_, rfl, _, rfl, _, rfl, B, D, d, fs, rfl, b1, tb1, lp, fun z H2 hz kp2 b2 => ⟨by show 2 ≤ sizeLine; decide, fun t nt => ends .count (.inr (.inr rfl)) z H2 hz kp2 b2 t nt⟩⟩⟩⟩
end
end KX

set_option maxRecDepth 100000
set_option maxHeartbeats 4000000
/-! Ld: the law's own answers: names, rows found. -/
namespace KX
open PySem PySem.Spec PyProof.Rows L2 TL Ga NdefX
theorem joinG {P G : L2.St → Hp → Prop} {R : Prop} (main : (∀ σ H, G σ H → P σ H) → R) (key : ∀ σ H, G σ H → P σ H) : R := main key
theorem joinE {P : L2.St → Hp → Prop} {H : Hp} {σ τ : L2.St} (e : σ = τ) (h : P τ H) : P σ H := by
  subst e
  exact h
theorem inV_str (z : Str) (l : List Str) : inV (.str z) (l.map V.str) = decide (z ∈ l) := by
  unfold inV
  rw [List.any_map]
  induction l with
  | nil => rfl
  | cons y l ih =>
    rw [List.any_cons, ih]
    have e1 : (Function.comp (fun y => eqV y (V.str z)) V.str) y = decide (y = z) := by
      show eqV (.str y) (.str z) = _
      unfold eqV
      exact decide_eq_decide.mpr Iff.rfl
    rw [e1]
    by_cases h : y = z
    · subst h
      simp
    · rw [decide_eq_false h, Bool.false_or]
      exact decide_eq_decide.mpr ⟨fun q => List.mem_cons_of_mem _ q, fun q => (List.mem_cons.mp q).resolve_left fun e => h e.symm⟩
theorem flat_strs (l : List Str) : (l.map V.str).all flatV = true := by
  rw [List.all_map]
  exact List.all_eq_true.mpr fun _ _ => rfl
/-- the first name behind a place, as the law says it -/
def lawName (x z : Str) : Str := if 1 < (Txt.split (restOf x z) sl).length then (Txt.split (restOf x z) sl).headD "" ++ "/" else (Txt.split (restOf x z) sl).headD ""
def snocX (acc : List Str) (z : Str) : List Str := if z ∈ acc then acc else acc ++ [z]
theorem snocX_nodup {acc : List Str} {z : Str} (h : acc.Nodup) : (snocX acc z).Nodup := by
  unfold snocX
  split
  · exact h
  · rename_i n
    exact List.nodup_append.mpr ⟨h, by simp, fun a ha b hb e => n (by rw [← List.mem_singleton.mp hb, ← e]; exact ha)⟩
theorem snocX_mem {acc : List Str} {y z : Str} : y ∈ snocX acc z ↔ y = z ∨ y ∈ acc := by
  unfold snocX
  split
  · rename_i m
    exact ⟨.inr, fun h => h.elim (fun e => e ▸ m) id⟩
  · rw [List.mem_append, List.mem_singleton]
    exact Or.comm
theorem snocX_len {acc : List Str} {z : Str} : (snocX acc z).length ≤ acc.length + 1 := by
  unfold snocX
  split
  · omega
  · simp
def lNames (fs : List File) (x : Str) : List Str := (fs.filter fun f => inside f.1 x).foldl (fun acc f => snocX acc (lawName x f.1)) []
theorem ff_nodup {fs : List File} {x : Str} : ∀ {acc : List Str}, acc.Nodup → (fs.foldl (fun acc f => snocX acc (lawName x f.1)) acc).Nodup := by
  induction fs with
  | nil => exact fun h => h
  | cons f r ih => exact fun h => ih (snocX_nodup h)
theorem ff_mem {fs : List File} {x y : Str} : ∀ {acc : List Str}, y ∈ fs.foldl (fun acc f => snocX acc (lawName x f.1)) acc ↔ y ∈ acc ∨ ∃ f ∈ fs, y = lawName x f.1 := by
  induction fs with
  | nil => exact fun {acc} => ⟨.inl, fun h => h.elim id fun ⟨f, hf, _⟩ => nomatch hf⟩
  | cons f r ih =>
    intro acc
    rw [List.foldl_cons, ih, snocX_mem]
    constructor
    · rintro ((e | h) | ⟨g, hg, e⟩)
      · exact .inr ⟨f, List.mem_cons_self, e⟩
      · exact .inl h
      · exact .inr ⟨g, List.mem_cons_of_mem _ hg, e⟩
    · rintro (h | ⟨g, hg, e⟩)
      · exact .inl (.inr h)
      · rcases List.mem_cons.mp hg with rfl | hg
        · exact .inl (.inl e)
        · exact .inr ⟨g, hg, e⟩
theorem dd_mem {l : List Str} {y : Str} : ∀ {acc : List Str}, y ∈ l.foldl (fun acc z => insX z acc) acc ↔ y ∈ acc ∨ y ∈ l := by
  induction l with
  | nil => exact fun {acc} => ⟨.inl, fun h => h.elim id fun h => nomatch h⟩
  | cons z r ih =>
    intro acc
    rw [List.foldl_cons, ih, insX_mem, List.mem_cons]
    constructor
    · rintro ((e | h) | h)
      · exact .inr (.inl e)
      · exact .inl h
      · exact .inr (.inr h)
    · rintro (h | e | h)
      · exact .inl (.inr h)
      · exact .inl (.inl e)
      · exact .inr h
theorem dd_nodup {l : List Str} : ∀ {acc : List Str}, acc.Nodup → (l.foldl (fun acc z => insX z acc) acc).Nodup := by
  induction l with
  | nil => exact fun h => h
  | cons z r ih => exact fun h => ih (insX_nodup h)
/-- for the paths of the law both first names are the same -/
theorem name_chk : (lawPaths.all fun z => (List.range 10).all fun n => decide (firstName (cutS z (some (n : Nat)) none) = if 1 < (Txt.split (cutS z (some (n : Nat)) none) sl).length then (Txt.split (cutS z (some (n : Nat)) none) sl).headD "" ++ "/" else (Txt.split (cutS z (some (n : Nat)) none) sl).headD "")
    && decide (((Txt.split (cutS z (some (n : Nat)) none) sl).headD "").length ≤ 8)) = true := by decide +kernel
end KX

set_option maxRecDepth 100000
set_option maxHeartbeats 4000000
/-! Le: _law_names. -/
namespace KX
open PySem PySem.Spec PyProof.Rows L2 TL Ga NdefX
def spNames (K : PySem.W.Frag) : Sp := fun vs H Q _ => ∃ (d : Addr) (x : Str) (fs : List File), vs = [.ref d, .str x] ∧ Tab K H d fs ∧ LawF fs ∧ (tl x).length ≤ 8 ∧ ∀ H' v, Same H H' → LinesAt K H' v (srtS (lNames fs x)) → Q v H'
theorem drop_cut (z : Str) (n : Nat) : cutS z (some (n : Int)) none = cutS z (some ((n : Nat) : Int)) none := rfl
theorem name_at {x z : Str} (hz : z ∈ lawPaths) (hx : (tl x).length ≤ 8) : firstName (restOf x z) = lawName x z ∧ ((Txt.split (restOf x z) sl).headD "").length ≤ 8 := by
  have h := List.all_eq_true.mp name_chk z hz
  have : ∃ n : Nat, n < 10 ∧ restOf x z = cutS z (some ((n : Nat) : Int)) none := by
    unfold restOf
    by_cases e : x = ""
    · rw [if_pos e]
      exact ⟨0, by omega, rfl⟩
    · rw [if_neg e]
      refine ⟨x.length + 1, by rw [len_tl]; omega, ?_⟩
      rfl
  obtain ⟨n, hn, e⟩ := this
  have h2 := List.all_eq_true.mp h n (List.mem_range.mpr hn)
  simp only [Bool.and_eq_true, decide_eq_true_eq] at h2
  unfold lawName
  rw [e]
  exact h2
theorem cut0 (z : Str) : cutS z (some 0) none = z := by
  refine ext_tl ?_
  unfold cutS
  have h0 : HT.sIx z.length 0 (some 0) = 0 := (HT.sIx_nat z.length 0 0).trans (Nat.zero_min _)
  rw [tl_mk, HT.sIx_none, h0, List.drop_zero, Nat.sub_zero, len_tl]
  exact List.take_length
section
variable {P : Program} {w : World} {K : PySem.W.Frag} {mg : Str → Option Value} {base : Heap}
theorem ok_names {f : Addr} {fd : FuncData} (F : Fun K "_law_names" "_law_names" s_L_names f fd) (T : Tx mg) (CI : Cal P w K mg base 1 "_law_inside" ["path", "place"] spInside) : FnOk P w K mg base CX0 2 f fd ["files", "place"] (spNames K) := by
  refine F.ok sc_L_names (fun vs H Q E h => ?_) (fun cdv A outer s H vs Q E hr h => ?_)
  · obtain ⟨d, x, fs, rfl, _⟩ := h
    rfl
  · obtain ⟨d, x, fs, rfl, tb, lf, hx, q⟩ := h
    have hx2 : (tl x).length ≤ 1000 := by omega
    obtain ⟨kvs, hd, pr, nd, hl⟩ := id tb
    refine ⟨_, pss_cons (ps_set (i := 2) sc_L_names.nd rfl (.inl rfl) (pe_lst pa_nil))
      (pss_cons (ps_lock (ps_for PassesOwn.never rfl (pi_keys (pv 0)) (pg_name (i := 3) sc_L_names.nd rfl (Or.inl rfl))
        (pss_one (ps_if (pt_val (pe_cal CI hr pass0 (pa_cons (pv 3) (pa_cons (pv 1) pa_nil))))
          (pss_cons (ps_set (i := 4) sc_L_names.nd rfl (.inl rfl) (pv 3))
          (pss_cons (ps_if (pt_cmpR op_ne (pv 1) pe_str (nomark _)) (pss_one (ps_set (i := 4) sc_L_names.nd rfl (.inl rfl) (pe_slice sl_str (pv 3) (po_some (pe_op op_add (pe_callB call_len_str (by rfl) T.len PySem.boot_len (pa_cons (pv 1) pa_nil)) pe_int)) po_none))) pss_nil)
          (pss_cons (ps_set (i := 5) sc_L_names.nd rfl (.inl rfl) (pe_split (pv 4) pe_str))
          (pss_cons (ps_set (i := 6) sc_L_names.nd rfl (.inl rfl) (pe_ix (ixL (K := K) rfl) (pv 5) pe_int (fun _ _ => rfl)))
          (pss_cons (ps_if (pt_cmpR op_gt (pe_callB call_len_seq (by rfl) T.len PySem.boot_len (pa_cons (pv 5) pa_nil)) pe_int (nomark _)) (pss_one (ps_set (i := 6) sc_L_names.nd rfl (.inl rfl) (pe_op op_add_str (pv 6) pe_str))) pss_nil)
          (pss_one (ps_if (pt_cmpR op_notIn_seq (pv 6) (pv 2) (by rfl)) (pss_one (ps_expr (pe_bm PySem.F.plainAttrs_list PySem.F.slot_list_append PySem.F.type_list_append mt_append (pv 2) (pa_cons (pv 6) pa_nil)))) pss_nil))))))) pss_nil))))
      (pss_one (ps_ret (pe_callTy (callTup (K := K) rfl) (by rfl) T.tuple (by decide +kernel) (pa_cons (pe_callB cr_sortedS (by rfl) T.sorted (by decide +kernel) (pa_cons (pv 2) pa_nil)) pa_nil))))), ?_⟩
    refine ⟨by show 0 ≤ sizeLine; decide, fun l nl => ?_⟩
    have ld : l ≠ d := fun e => by rw [e, hd] at nl; cases nl
    have hd1 : (upd H l (.lst [])) d = some (.dK kvs) := by rw [upd_ne (Ne.symm ld)]; exact hd
    refine ⟨d, _, hd1, trivial, fun od => ?_⟩
    refine ⟨_, rfl, d, od, rfl, .inl ⟨kvs, upd_same, ?_⟩⟩
    have base0 : Same (upd H d (.frz od (.dK kvs))) (upd (upd H l (.lst [])) d (.frz od (.dK kvs))) := fun b o e => by
      by_cases bd : b = d
      · subst bd
        rw [upd_same] at e ⊢
        exact e
      · rw [upd_ne bd] at e ⊢
        rw [upd_ne (ne_of_none e nl)]
        exact e
    let acc : Nat → List Str := fun i => ((fs.take i).filter fun f => inside f.1 x).foldl (fun acc f => snocX acc (lawName x f.1)) []
    refine for_it (same_walkK (H := upd H d (.frz od (.dK kvs))) upd_same) (fun i σ H' => Same (upd H d (.frz od (.dK kvs))) H' ∧ H' l = some (.lst ((acc i).map V.str)) ∧ (acc i).length ≤ i ∧ ∃ o3 o4 o5 o6, σ = [some (.ref d), some (.str x), some (.ref l), o3, o4, o5, o6])
      ⟨base0, by rw [upd_ne ld, upd_same]; rfl, Nat.zero_le _, none, none, none, none, rfl⟩ (fun _ _ _ _ h => h.1) ?_ ?_
    · rintro i c σ H1 H2 hi ⟨s1, hacc, hlen, o3, o4, o5, o6, rfl⟩ ⟨rfl, hc⟩
      rw [List.getElem?_map] at hc
      cases hk : kvs[i]? with
      | none => rw [hk] at hc; cases hc
      | some kv =>
      obtain ⟨g, hg, rg⟩ := paired_get2 pr i kv hk
      rw [hk] at hc
      have ec : c = V.str g.1 := by
        have : kV kv.1 = c := Option.some.inj hc
        rw [← this, rg.1]
        rfl
      subst ec
      have gm := List.mem_of_getElem? hg
      have gp := (lf.each g gm).1
      have hg2 : (tl g.1).length ≤ 1000 := Nat.le_trans (pth gp).text.1 (by decide)
      have step : acc (i + 1) = if inside g.1 x = true then snocX (acc i) (lawName x g.1) else acc i := by
        show ((fs.take (i + 1)).filter _).foldl _ [] = _
        rw [filter_take_succ hg]
        split
        · rw [List.foldl_append]; rfl
        · rw [List.append_nil]
      refine ⟨_, rfl, _, rfl, g.1, x, rfl, hg2, hx2, fun H3 s3 => ⟨_, rfl, ite2 (fun e => ?_) (fun e => ?_)⟩⟩
      · refine ⟨_, rfl, ?_⟩
        obtain ⟨na, nb⟩ := name_at (x := x) gp hx
        have hacc3 := s3 _ _ hacc
        have s13 := s1.trans s3
        refine joinG (P := ?P) (G := fun σ H' => H' = H3 ∧ σ = [some (.ref d), some (.str x), some (.ref l), some (.str g.1), some (.str (restOf x g.1)), o5, o6]) (fun k => ?_) ?_
        rotate_left
        · refine ⟨_, rfl, rfl, _, rfl, ?_⟩
          refine ite2 (fun z => ?_) (fun z => ?_)
          · have ex : x ≠ "" := fun e => by rw [e] at z; exact absurd z (by decide)
            refine ⟨_, rfl, _, rfl, x, rfl, lenle hx2, _, _, rfl, rfl, _, rfl, g.1, rfl, lenle hg2, ?_⟩
            dsimp only [gName, tNext]
            refine k _ _ ⟨rfl, ?_⟩
            unfold restOf
            rw [if_neg ex]
            rfl
          · have ex : x = "" := Classical.byContradiction fun y => z (by rw [decide_eq_false fun w => y (V.str.inj w)]; rfl)
            dsimp only [gName, tNext]
            refine k _ _ ⟨rfl, ?_⟩
            unfold restOf
            rw [if_pos ex, cut0]
            rfl
        · rintro σ H4 ⟨rfl, rfl⟩
          have rl : (tl (restOf x g.1)).length ≤ 8 := Nat.le_trans cut_le (pth gp).text.1
          refine ⟨_, rfl, ⟨_, rfl⟩, restOf x g.1, sl, rfl, rfl, rfl, ?_, fun p np => ?_⟩
          · rw [len_tl]
            exact Nat.le_trans (Nat.add_le_add_right rl 2) (by decide)
          obtain ⟨p0, ps, es⟩ : ∃ p0 ps, Txt.split (restOf x g.1) sl = p0 :: ps := by
            cases e : Txt.split (restOf x g.1) sl with
            | nil => exact absurd e (split_ne _)
            | cons a b => exact ⟨a, b, rfl⟩
          have s4 : Same H4 (upd H4 p (.lst ((Txt.split (restOf x g.1) sl).map V.str))) := same_upd np
          have hacc4 := s4 _ _ hacc3
          have p0l : p0.length ≤ 8 := by rw [es] at nb; exact nb
          refine ⟨_, rfl, p, _, 0, .str p0, rfl, rfl, sqL upd_same, at_of (j := 0) rfl (by rw [es]; rfl), ?_⟩
          refine joinG (P := ?P2) (G := fun σ H' => H' = upd H4 p (.lst ((Txt.split (restOf x g.1) sl).map V.str)) ∧ σ = [some (.ref d), some (.str x), some (.ref l), some (.str g.1), some (.str (restOf x g.1)), some (.ref p), some (.str (lawName x g.1))]) (fun k => ?_) ?_
          rotate_left
          · refine ⟨_, rfl, p, _, rfl, .inl (sqL upd_same), _, _, rfl, rfl, _, rfl, ite2 (fun z => ?_) (fun z => ?_)⟩
            · have big : 1 < (Txt.split (restOf x g.1) sl).length := by
                have := of_decide_eq_true z
                rw [List.length_map] at this
                omega
              refine ⟨_, rfl, p0, "/", rfl, rfl, Nat.le_trans (Nat.add_le_add_right p0l _) (by decide), ?_⟩
              dsimp only [gName, tNext]
              refine k _ _ ⟨rfl, ?_⟩
              rw [lawName, if_pos big, es]
              rfl
            · have small : ¬ 1 < (Txt.split (restOf x g.1) sl).length := fun y => z (decide_eq_true (by rw [List.length_map]; omega))
              dsimp only [gName, tNext]
              refine k _ _ ⟨rfl, ?_⟩
              rw [lawName, if_neg small, es]
              rfl
          · rintro σ H5 ⟨rfl, rfl⟩
            refine ⟨_, rfl, _, rfl, l, _, rfl, .inl (sqL hacc4), rfl, flat_strs _, _, rfl, ?_⟩
            rw [if_pos rfl, inV_str]
            have s14 := s13.trans s4
            refine ite2 (fun z => ?_) (fun z => ?_)
            · have nin : lawName x g.1 ∉ acc i := of_decide_eq_false (not_t z)
              have new : snocX (acc i) (lawName x g.1) = acc i ++ [lawName x g.1] := by rw [snocX, if_neg nin]
              rw [if_pos e, new] at step
              refine ⟨_, rfl, .inl ⟨rfl, _, sqL hacc4⟩, _, rfl, l, _, _, rfl, rfl, hacc4, ?_, ?_⟩
              · rw [List.length_map]
                have := lf.few
                exact Nat.lt_of_le_of_lt (show (acc i).length ≤ 100 by rw [List.length_map] at hi; have := pr.length; omega) (by decide)
              · refine ⟨fun b o eb => ?_, ?_, ?_, _, _, _, _, rfl⟩
                · have nb2 : b ≠ l := fun w => by
                    rw [w, upd_ne ld, nl] at eb
                    cases eb
                  rw [upd_ne nb2]
                  exact s14 _ _ eb
                · rw [upd_same, step, List.map_append]
                  rfl
                · rw [step, List.length_append]
                  show _ + 1 ≤ i + 1
                  omega
            · have isin : lawName x g.1 ∈ acc i := of_decide_eq_true (not_f z)
              have same : snocX (acc i) (lawName x g.1) = acc i := by rw [snocX, if_pos isin]
              rw [if_pos e, same] at step
              exact ⟨s14, by rw [step]; exact hacc4, by rw [step]; omega, _, _, _, _, rfl⟩
      · rw [if_neg e] at step
        exact ⟨s1.trans s3, by rw [step]; exact s3 _ _ hacc, by rw [step]; omega, _, _, _, _, rfl⟩
    · rintro σ H1 ⟨s1, hacc, hlen, o3, o4, o5, o6, rfl⟩
      refine ⟨s1 _ _ upd_same, ?_⟩
      have full : acc (kvs.map fun kv => kV kv.1).length = lNames fs x := by
        show ((fs.take _).filter _).foldl _ [] = _
        rw [List.length_map, ← pr.length, List.take_length]
        rfl
      rw [full] at hacc hlen
      rw [List.length_map] at hlen
      have few := lf.few
      have pl := pr.length
      have sU : Same H (upd H1 d (.dK kvs)) := unlock s1 hd
      have hl2 : (upd H1 d (.dK kvs)) l = some (.lst ((lNames fs x).map V.str)) := by rw [upd_ne ld]; exact hacc
      refine ⟨_, rfl, l, lNames fs x, rfl, sqL hl2, by omega, fun ys p perm srt np => ?_⟩
      refine ⟨p, _, rfl, .inl ⟨sqL upd_same, fun t nt => ?_⟩⟩
      refine q _ _ ((sU.trans (same_upd (o := .lst (ys.map V.str)) np)).trans (same_upd nt)) ⟨t, rfl, sqT ?_⟩
      rw [upd_same, srtS_is perm srt]
end
end KX

set_option maxRecDepth 100000
set_option maxHeartbeats 4000000
/-! Lf: _law_found. -/
namespace KX
open PySem PySem.Spec PyProof.Rows L2 TL Ga NdefX
/-- the paths that are the place or lie inside it, in order -/
def hereF (fs : List File) (x : Str) : List Str := ((srtF fs).map (·.1)).filter fun z => decide (z = x) || inside z x
def lRows (fs : List File) (x w : Str) : List (Str × Str × Nat) := pairsOf2 (fun z => ((getF fs z).getD []).zipIdx) (fun _ b => occ w b.1) (hereF fs x)
def spFound (K : PySem.W.Frag) : Sp := fun vs H Q _ => ∃ (d : Addr) (x z : Str) (fs : List File), vs = [.ref d, .str x, .str z] ∧ Tab K H d fs ∧ LawF fs ∧ (tl x).length ≤ 8 ∧ ∀ H' v, Same H H' → Dt K H' v (.tuple ((lRows fs x z).map dRow)) → Q v H'
theorem tab_get {K : PySem.W.Frag} {H : Hp} {d : Addr} {fs : List File} (t : Tab K H d fs) {f : File} (hf : f ∈ fs) : ∃ v, DGet H d (.str f.1) (some v) ∧ LinesAt K H v f.2 := by
  obtain ⟨kvs, hd, pr, nd, hl⟩ := t
  obtain ⟨v, ev, lv⟩ := (val_of pr (x := f.1)).2 nd f hf rfl
  exact ⟨v, by rw [← ev]; exact DGet.k (k := .inr f.1) hd, lv⟩
theorem etEqV {σ : L2.St} {H : Hp} {i j : Nat} {x y : Str} (h : σ[i]? = some (some (.str x))) (g : σ[j]? = some (some (.str y))) : EvT (tTest (tOp rEq (tVar i) (tVar j))) σ H (decide (x = y)) := fun H1 s Q k =>
  ⟨_, h, _, g, rfl, _, rfl, by
    have : decide (V.str x = V.str y) = decide (x = y) := decide_eq_decide.mpr ⟨V.str.inj, fun z => by rw [z]⟩
    rw [this]
    exact k H1 (.refl _)⟩
section
variable {P : Program} {w : World} {K : PySem.W.Frag} {mg : Str → Option Value} {base : Heap}
theorem ok_found {f : Addr} {fd : FuncData} (F : Fun K "_law_found" "_law_found" s_L_found f fd) (T : Tx mg) (CI : Cal P w K mg base 1 "_law_inside" ["path", "place"] spInside) : FnOk P w K mg base CX0 2 f fd ["files", "place", "word"] (spFound K) := by
  refine F.ok sc_L_found (fun vs H Q E h => ?_) (fun cdv A outer s H vs Q E hr h => ?_)
  · obtain ⟨d, x, z, fs, rfl, _⟩ := h
    rfl
  · obtain ⟨d, x, z, fs, rfl, tb, lf, hx, q⟩ := h
    have hx2 : (tl x).length ≤ 1000 := by omega
    obtain ⟨kvs, hd, pr, nd, hl⟩ := id tb
    refine ⟨_, pss_cons (ps_set (i := 3) sc_L_found.nd rfl (.inl rfl) (pe_lst pa_nil))
      (pss_cons (ps_for PassesOwn.never rfl (piL (K := K) rfl (pe_callB (call_sortedD rfl) (by rfl) T.sorted (by decide +kernel) (pa_cons (pv 0) pa_nil))) (pg_name (i := 4) sc_L_found.nd rfl (Or.inl rfl))
        (pss_one (ps_if (PW.pt (pw_or (pt_cmpR op_eq (pv 4) (pv 1) (nomark _)) (pw_or1 (pt_val (pe_cal CI hr pass0 (pa_cons (pv 4) (pa_cons (pv 1) pa_nil)))))))
          (pss_one (ps_for PassesOwn.never rfl (pi_range1 (by rfl) T.range (pa_cons (pe_callB call_len_seq (by rfl) T.len PySem.boot_len (pa_cons (pe_dget (hu_of hr) (pv 0) (pv 4) (fun _ _ => rfl)) pa_nil)) pa_nil)) (pg_name (i := 5) sc_L_found.nd rfl (Or.inl rfl))
            (pss_one (ps_if (pt_cmpR op_in_str (pv 2) (pe_ix (ixT (K := K) rfl) (pe_dget (hu_of hr) (pv 0) (pv 4) (fun _ _ => rfl)) (pv 5) (fun _ _ => rfl)) (by rfl))
              (pss_one (ps_expr (pe_bm PySem.F.plainAttrs_list PySem.F.slot_list_append PySem.F.type_list_append mt_append (pv 3) (pa_cons (pe_tup (pa_cons (pv 4) (pa_cons (pv 5) pa_nil))) pa_nil)))) pss_nil)))) pss_nil)))
      (pss_one (ps_ret (pe_callTy (callTup (K := K) rfl) (by rfl) T.tuple (by decide +kernel) (pa_cons (pv 3) pa_nil))))), ?_⟩
    refine ⟨by show 0 ≤ sizeLine; decide, fun l nl => ?_⟩
    have s1 : Same H (upd H l (.lst [])) := same_upd nl
    refine ⟨_, rfl, d, kvs, fs.map (·.1), rfl, .inl (s1 _ _ hd), keys_of pr, by rw [List.length_map]; omega, fun ys m perm srt nm => ?_⟩
    have ey := sorted_is perm srt
    subst ey
    have s2 : Same (upd H l (.lst [])) (upd (upd H l (.lst [])) m (.lst (((srtF fs).map (·.1)).map V.str))) := same_upd nm
    have lm : l ≠ m := ne_of_none upd_same nm
    let P1 : List Str := (srtF fs).map (·.1)
    let bs : Str → List (Str × Nat) := fun y => ((getF fs y).getD []).zipIdx
    let pp : Str → Str × Nat → Bool := fun _ b => occ z b.1
    let here : Str → Bool := fun y => decide (y = x) || inside y x
    let Rr : Hp → Str × Str × Nat → V → Prop := fun H' c v => Dt K H' v (dRow c)
    refine ⟨m, rfl, ⟨_, sqL upd_same⟩, ?_⟩
    refine for_it (same_walkL (H := upd H m (.lst (P1.map V.str))) (sqL upd_same)) (fun i σ H' => Same (upd H m (.lst (P1.map V.str))) H' ∧ (∃ ys, H' l = some (.lst ys) ∧ Paired (Rr H') (pairsOf2 bs pp ((P1.take i).filter here)) ys) ∧ ∃ o4 o5, σ = [some (.ref d), some (.str x), some (.str z), some (.ref l), o4, o5])
      ⟨?_, ⟨[], by rw [upd_ne lm, upd_same], by simp [pairsOf2]; exact .nil⟩, none, none, rfl⟩ (fun _ _ _ _ h => h.1) ?_ ?_
    · intro b o e
      by_cases bm : b = m
      · rw [bm, upd_same] at e ⊢
        exact e
      · rw [upd_ne bm] at e ⊢
        rw [upd_ne (ne_of_none e nl)]
        exact e
    · rintro i c σ H1 H2 hi ⟨s3, ⟨ys, hacc, pa⟩, o4, o5, rfl⟩ ⟨rfl, hc⟩
      obtain ⟨g, hg0⟩ : ∃ g, (srtF fs)[i]? = some g := by
        rw [List.length_map, List.length_map] at hi
        exact ⟨_, List.getElem?_eq_getElem hi⟩
      have hp : P1[i]? = some g.1 := by
        show ((srtF fs).map (·.1))[i]? = _
        rw [List.getElem?_map, hg0]
        rfl
      have ec : c = V.str g.1 := by
        rw [List.getElem?_map, hp] at hc
        exact (Option.some.inj hc).symm
      subst ec
      have gm : g ∈ fs := (srtF_perm fs).mem_iff.mp (List.mem_of_getElem? hg0)
      have gp := (lf.each g gm).1
      have hg2 : (tl g.1).length ≤ 1000 := Nat.le_trans (pth gp).text.1 (by decide)
      have nmH : H m = none := by rw [upd_ne (Ne.symm lm)] at nm; exact nm
      have sH : Same H H2 := (same_upd nmH).trans s3
      have eg : getF fs g.1 = some g.2 := getF_of nd gm
      refine EvT.go (etOr (etEqV rfl rfl) (etVal (evIns rfl rfl hg2 hx2))) fun H3 s4 => ?_
      have step : (P1.take (i + 1)).filter here = (P1.take i).filter here ++ if here g.1 = true then [g.1] else [] := filter_take_succ hp
      refine ite2 (fun e => ?_) (fun e => ?_)
      · have e : here g.1 = true := e
        obtain ⟨v, dg, lv⟩ := tab_get (tb.same (sH.trans s4)) gm
        obtain ⟨a, rfl, sa⟩ := id lv
        refine ⟨_, rfl, _, rfl, d, _, rfl, dg, a, _, rfl, .inr sa, _, rfl, by omega, ?_, ?_⟩
        · rw [List.length_map]
          have := (lf.each g gm).2.1
          omega
        rw [List.length_map]
        have sB := s3.trans s4
        have nn : ((g.2.length : Nat) : Int).toNat = g.2.length := by omega
        let Mid : Nat → List (Str × Str × Nat) := fun j => pairsOf2 bs pp ((P1.take i).filter here) ++ (((bs g.1).take j).filter (pp g.1)).map fun b => (g.1, b)
        refine for_range (lo := 0) (n := ((g.2.length : Nat) : Int).toNat) (fun j σ H' => Same (upd H m (.lst (P1.map V.str))) H' ∧ SameT H3 H' ∧ (∃ ys, H' l = some (.lst ys) ∧ Paired (Rr H') (Mid j) ys) ∧ ∃ o5, σ = [some (.ref d), some (.str x), some (.str z), some (.ref l), some (.str g.1), o5])
          ⟨sB, .refl _, ⟨ys, s4 _ _ hacc, by simp [Mid]; exact pa.mono fun _ _ r => r.st s4.t⟩, o5, rfl⟩ ?_ ?_
        · rintro j σ H4 hj ⟨s5, t5, ⟨zs, hz, pz⟩, q5, rfl⟩
          rw [nn] at hj
          have hline : g.2[j]? = some g.2[j] := List.getElem?_eq_getElem hj
          have hb : (bs g.1)[j]? = some (g.2[j], j) := by
            show (((getF fs g.1).getD []).zipIdx)[j]? = _
            rw [eg]
            simp [List.getElem?_zipIdx, hline]
          obtain ⟨v2, dg2, lv2⟩ := tab_get (tb.same ((same_upd nmH).trans s5)) gm
          obtain ⟨a2, rfl, sa2⟩ := id lv2
          have st : Mid (j + 1) = Mid j ++ if pp g.1 (g.2[j], j) = true then [(g.1, g.2[j], j)] else [] := by
            show _ ++ (((bs g.1).take (j + 1)).filter (pp g.1)).map _ = _
            rw [filter_take_succ hb, List.map_append, ← List.append_assoc]
            congr 1
            split <;> rfl
          refine ⟨_, rfl, _, rfl, _, rfl, d, _, rfl, dg2, _, rfl, a2, _, 0 + (j : Int), .str g.2[j], rfl, rfl, sa2, at_of (j := j) (by omega) (by rw [List.getElem?_map, hline]; rfl), _, _, rfl, rfl, _, rfl, ite2 (fun o => ?_) (fun o => ?_)⟩
          · have o : pp g.1 (g.2[j], j) = true := o
            rw [if_pos o] at st
            refine ⟨_, rfl, .inl ⟨rfl, _, sqL hz⟩, _, rfl, _, rfl, by show 2 ≤ sizeLine; decide, fun t nt => ?_⟩
            have s6 : Same H4 (upd H4 t (.tup [.str g.1, .int (0 + (j : Int))])) := same_upd nt
            refine ⟨l, _, _, rfl, rfl, s6 _ _ hz, ?_, ?_⟩
            · rw [← pz.length]
              have few := lf.few
              have l1 := pairs_len (bs := bs) (p := pp) (n := 12) (as := (P1.take i).filter here) fun y hy => by
                obtain ⟨f2, hf2, rfl⟩ := List.mem_map.mp (List.mem_of_mem_take (List.mem_filter.mp hy).1)
                have f2m := (srtF_perm fs).mem_iff.mp hf2
                show (((getF fs f2.1).getD []).zipIdx).length ≤ 12
                rw [getF_of nd f2m]
                simpa using (lf.each f2 f2m).2.1
              have l2 : (((bs g.1).take j).filter (pp g.1)).length ≤ j := Nat.le_trans (List.length_filter_le _ _) (by rw [List.length_take]; exact Nat.min_le_left _ _)
              have l3 : ((P1.take i).filter here).length ≤ 40 := Nat.le_trans (List.length_filter_le _ _) (by
                rw [List.length_take]
                refine Nat.le_trans (Nat.min_le_right _ _) ?_
                show ((srtF fs).map (·.1)).length ≤ 40
                rw [List.length_map, srtF_len]
                omega)
              have l4 := (lf.each g gm).2.1
              rw [List.length_append, List.length_map]
              exact Nat.lt_of_le_of_lt (show _ ≤ 1000 by omega) (by decide)
            · have lt : l ≠ t := ne_of_none hz nt
              have s7 : SameT H4 (upd (upd H4 t (.tup [.str g.1, .int (0 + (j : Int))])) l (.lst (zs ++ [.ref t]))) := s6.t.trans (.put (s6 _ _ hz) rfl)
              refine ⟨fun b o2 eb => ?_, t5.trans s7, ⟨_, upd_same, ?_⟩, _, rfl⟩
              · have nb2 : b ≠ l := fun w => by
                  rw [w, upd_ne lm, nl] at eb
                  cases eb
                rw [upd_ne nb2]
                exact s6 _ _ (s5 _ _ eb)
              · rw [st]
                refine Paired.snoc (pz.mono fun _ _ r => r.st s7) ?_
                show Dt K _ (.ref t) (.tuple [.str g.1, .int (j : Nat)])
                have key : ∀ (n : Int) (H' : Hp), n = j → SqT K H' t [.str g.1, .int n] → Dt K H' (.ref t) (.tuple [.str g.1, .int (j : Nat)]) := fun n H' e s => by
                  subst e
                  exact dt2 s (.str _) (.int _)
                exact key (0 + (j : Int)) _ (Int.zero_add _) ((SameT.put (s6 _ _ hz) rfl).sq (sqT upd_same))
          · have o : ¬ pp g.1 (g.2[j], j) = true := o
            rw [if_neg o, List.append_nil] at st
            exact ⟨s5, t5, ⟨zs, hz, by rw [st]; exact pz⟩, _, rfl⟩
        · rintro σ H4 ⟨s5, t5, ⟨zs, hz, pz⟩, q5, rfl⟩
          refine ⟨s5, ⟨zs, hz, ?_⟩, _, _, rfl⟩
          rw [step, if_pos e]
          have full : (bs g.1).take ((g.2.length : Nat) : Int).toNat = bs g.1 := by
            rw [nn]
            refine List.take_of_length_le ?_
            show (((getF fs g.1).getD []).zipIdx).length ≤ _
            rw [eg]
            simp
          have : pairsOf2 bs pp ((P1.take i).filter here ++ [g.1]) = Mid ((g.2.length : Nat) : Int).toNat := by
            show List.flatMap _ _ = pairsOf2 bs pp _ ++ (((bs g.1).take _).filter (pp g.1)).map _
            rw [full, List.flatMap_append]
            simp [pairsOf2]
          rw [this]
          exact pz
      · have e : ¬ here g.1 = true := e
        refine ⟨s3.trans s4, ⟨ys, s4 _ _ hacc, ?_⟩, _, _, rfl⟩
        rw [step, if_neg e, List.append_nil]
        exact pa.mono fun _ _ r => r.st s4.t
    · rintro σ H1 ⟨s3, ⟨ys, hacc, pa⟩, o4, o5, rfl⟩
      have nmH : H m = none := by rw [upd_ne (Ne.symm lm)] at nm; exact nm
      rw [List.length_map, List.take_length] at pa
      refine ⟨_, rfl, l, ys, rfl, .inl ⟨sqL hacc, fun t nt => ?_⟩⟩
      have st := same_upd (o := .tup ys) nt
      refine q _ _ (((same_upd nmH).trans s3).trans st) (.tup (sqT upd_same) ?_)
      have go : ∀ {l : List (Str × Str × Nat)} {vs : List V}, Paired (Rr H1) l vs → DtL K (upd H1 t (.tup ys)) vs (l.map dRow) := by
        intro l vs h
        induction h with
        | nil => exact .nil
        | cons a _ ih => exact .cons (a.st st.t) ih
      exact go pa
end
end KX

set_option maxRecDepth 100000
set_option maxHeartbeats 4000000
/-! Lg: _law_asked. -/
namespace KX
open PySem PySem.Spec PyProof.Rows L2 TL Ga NdefX
theorem pathsIn_perm {fs gs : List File} (p : gs.Perm fs) (nd : (fs.map (·.1)).Nodup) (x : Str) : pathsIn gs x = pathsIn fs x := by
  unfold pathsIn
  rw [srtF_congr p nd]
theorem isFolder_perm {fs gs : List File} (p : gs.Perm fs) (nd : (fs.map (·.1)).Nodup) (x : Str) : isFolder gs x = isFolder fs x := by
  unfold isFolder
  rw [pathsIn_perm p nd]
theorem underF_perm {fs gs : List File} (p : gs.Perm fs) (nd : (fs.map (·.1)).Nodup) (x : Str) : underF gs x = underF fs x := by
  unfold underF
  rw [pathsIn_perm p nd, getF_perm p nd]
theorem askM_perm {fs gs : List File} (p : gs.Perm fs) (nd : (fs.map (·.1)).Nodup) (a : Act) : askM gs a = askM fs a := by
  cases a with
  | read x => show aRead gs x = aRead fs x; unfold aRead; rw [getF_perm p nd]
  | kind x => show aKind gs x = aKind fs x; unfold aKind; rw [getF_perm p nd, isFolder_perm p nd]
  | list x => show aList gs x = aList fs x; unfold aList namesF; rw [pathsIn_perm p nd, isFolder_perm p nd]
  | find x w =>
    show aFind gs x w = aFind fs x w
    have e : (fun z => ((getF gs z).getD []).zipIdx) = fun z => ((getF fs z).getD []).zipIdx := funext fun z => by rw [getF_perm p nd]
    unfold aFind rowsF
    rw [underF_perm p nd, isFolder_perm p nd, e]
  | count x => show aCount gs x = aCount fs x; unfold aCount; rw [pathsIn_perm p nd, isFolder_perm p nd]
  | _ => rfl
theorem folder_is {fs : List File} (x : Str) : lFolder fs x = isFolder fs x := by
  unfold isFolder lFolder
  have : decide (0 < (pathsIn fs x).length) = fs.any (fun f => inside f.1 x) := by
    cases e : fs.any (fun f => inside f.1 x) with
    | true =>
      obtain ⟨f, hf, h⟩ := List.any_eq_true.mp e
      exact decide_eq_true (List.length_pos_of_mem (a := f.1) (List.mem_filter.mpr ⟨List.mem_map.mpr ⟨f, (srtF_perm fs).mem_iff.mpr hf, rfl⟩, h⟩))
    | false =>
      refine decide_eq_false fun z => ?_
      obtain ⟨y, hy⟩ := List.exists_mem_of_length_pos z
      obtain ⟨f, hf, rfl, h2⟩ := pathsIn_sub hy
      exact List.any_eq_false.mp e f hf h2
  rw [this, Bool.or_comm]
/-- a file that is there has none inside it -/
theorem LawF.bare {fs : List File} (h : LawF fs) {x : Str} {l : List Str} (e : getF fs x = some l) : pathsIn fs x = [] := by
  refine List.eq_nil_iff_forall_not_mem.mpr fun z hz => ?_
  obtain ⟨f, hf, rfl, h2⟩ := pathsIn_sub hz
  rw [h.clean f hf (x, l) (getF_in e)] at h2
  cases h2
theorem here_is {fs : List File} (h : LawF fs) (nd : (fs.map (·.1)).Nodup) (x : Str) : hereF fs x = underF fs x := by
  unfold hereF underF
  cases e : getF fs x with
  | none =>
    rw [if_pos rfl, List.nil_append]
    unfold pathsIn
    refine List.filter_congr fun z hz => ?_
    have : z ≠ x := fun q => by
      obtain ⟨f, hf, rfl⟩ := List.mem_map.mp hz
      exact getF_none e (List.mem_map.mpr ⟨f, (srtF_perm fs).mem_iff.mp hf, q⟩)
    rw [decide_eq_false this, Bool.false_or]
  | some l =>
    rw [if_neg (by simp), h.bare e, List.append_nil]
    have nin : ∀ z ∈ (srtF fs).map (·.1), inside z x = false := fun z hz => by
      obtain ⟨f, hf, rfl⟩ := List.mem_map.mp hz
      exact h.clean f ((srtF_perm fs).mem_iff.mp hf) (x, l) (getF_in e)
    have e1 : ((srtF fs).map (·.1)).filter (fun z => decide (z = x) || inside z x) = ((srtF fs).map (·.1)).filter fun z => decide (z = x) := List.filter_congr fun z hz => by rw [nin z hz, Bool.or_false]
    rw [e1]
    have m : x ∈ (srtF fs).map (·.1) := List.mem_map.mpr ⟨(x, l), (srtF_perm fs).mem_iff.mpr (getF_in e), rfl⟩
    have ndS := srtF_nodup nd
    generalize (srtF fs).map (·.1) = L at m ndS ⊢
    induction L with
    | nil => cases m
    | cons y L ih =>
      have nd2 := List.nodup_cons.mp ndS
      by_cases q : y = x
      · subst q
        rw [List.filter_cons, if_pos (by simp)]
        have : L.filter (fun z => decide (z = y)) = [] := List.filter_eq_nil_iff.mpr fun z hz => by
          rw [decide_eq_true_eq]
          exact fun w => nd2.1 (w ▸ hz)
        rw [this]
      · rw [List.filter_cons, if_neg (by simpa using q)]
        exact ih ((List.mem_cons.mp m).resolve_left fun w => q w.symm) nd2.2
theorem rows_is {fs : List File} (h : LawF fs) (nd : (fs.map (·.1)).Nodup) (x w : Str) : lRows fs x w = rowsF fs x w := by
  unfold lRows rowsF
  rw [here_is h nd]
theorem srtS_perm2 {l m : List Str} (p : l.Perm m) : srtS l = srtS m := by
  have h1 : sortedS (srtS l) = true := sortedS_of_pairwise _ (List.pairwise_map.mpr (srtF_pw _))
  exact srtS_is ((srtS_perm l).trans p) h1
theorem nd_le : ∀ {l m : List Str}, l.Nodup → (∀ k ∈ l, k ∈ m) → l.length ≤ m.length
  | [], m, _, _ => Nat.zero_le _
  | x :: l, m, nd, sub => by
    have nd2 := List.nodup_cons.mp nd
    have pm := List.perm_cons_erase (sub x List.mem_cons_self)
    have ln := pm.length_eq
    have := nd_le (m := m.erase x) nd2.2 fun k hk => by
      rcases List.mem_cons.mp (pm.mem_iff.mp (sub k (List.mem_cons_of_mem _ hk))) with e | e
      · exact (nd2.1 (e ▸ hk)).elim
      · exact e
    rw [List.length_cons] at ln ⊢
    omega
theorem names_is {fs : List File} (h : LawF fs) {x : Str} (hx : (tl x).length ≤ 8) : srtS (lNames fs x) = namesF fs x := by
  refine srtS_perm2 ?_
  have n1 : (lNames fs x).Nodup := ff_nodup List.nodup_nil
  have n2 : (ddS ((pathsIn fs x).map fun z => firstName (restOf x z))).Nodup := dd_nodup List.nodup_nil
  have mem : ∀ y, y ∈ lNames fs x ↔ y ∈ ddS ((pathsIn fs x).map fun z => firstName (restOf x z)) := fun y => by
    unfold lNames ddS
    rw [ff_mem, dd_mem]
    constructor
    · rintro (q | ⟨f, hf, rfl⟩)
      · cases q
      · obtain ⟨h1, h2⟩ := List.mem_filter.mp hf
        refine .inr (List.mem_map.mpr ⟨f.1, List.mem_filter.mpr ⟨List.mem_map.mpr ⟨f, (srtF_perm fs).mem_iff.mpr h1, rfl⟩, h2⟩, ?_⟩)
        exact (name_at (h.each f h1).1 hx).1
    · rintro (q | q)
      · cases q
      · obtain ⟨z, hz, rfl⟩ := List.mem_map.mp q
        obtain ⟨f, hf, rfl, h2⟩ := pathsIn_sub hz
        exact .inr ⟨f, List.mem_filter.mpr ⟨hf, h2⟩, (name_at (h.each f hf).1 hx).1⟩
  exact nd_perm n1 (fun k hk => (mem k).mp hk) (nd_le n2 fun k hk => (mem k).mpr hk)
def spAsked (K : PySem.W.Frag) : Sp := fun vs H Q _ => ∃ (d : Addr) (v : V) (a : Act) (fs : List File), vs = [.ref d, v] ∧ Tab K H d fs ∧ LawF fs ∧ Dt K H v (dA a) ∧ LawQ a ∧ ∀ H' u, Same H H' → Dt K H' u (askM fs a) → Q u H'
section
variable {K : PySem.W.Frag} {H : Hp} {σ : L2.St} {t d : Addr} {vs : List V} {wd c x : Str} {fs : List File} {i j : Nat}
/-- action[0] == c -/
theorem tWordY {Q : Bool → Hp → Prop} (h1 : σ[i]? = some (some (.ref t))) (st : SqT K H t (.str wd :: vs)) (e : wd = c) (q : Q true H) : tTest (tOp rEq (tOp (rIxT K) (tVar i) (tC (.int 0))) (tC (.str c))) σ H Q := by
  subst e
  exact ⟨_, h1, t, _, 0, .str wd, rfl, rfl, st, at_of (j := 0) rfl rfl, rfl, _, rfl, by rw [decide_eq_true rfl]; exact q⟩
theorem tWordN {Q : Bool → Hp → Prop} (h1 : σ[i]? = some (some (.ref t))) (st : SqT K H t (.str wd :: vs)) (e : wd ≠ c) (q : Q false H) : tTest (tOp rEq (tOp (rIxT K) (tVar i) (tC (.int 0))) (tC (.str c))) σ H Q :=
  ⟨_, h1, t, _, 0, .str wd, rfl, rfl, st, at_of (j := 0) rfl rfl, rfl, _, rfl, by rw [decide_eq_false fun z => e (V.str.inj z)]; exact q⟩
/-- x in files -/
theorem etInD (h1 : σ[i]? = some (some (.str x))) (h2 : σ[j]? = some (some (.ref d))) (tb : Tab K H d fs) : EvT (tB (tDIn (tVar i) (tVar j))) σ H (getF fs x).isSome := fun H1 s Q k => by
  obtain ⟨kvs, hd, pr, nd, hl⟩ := tb.same s
  refine ⟨_, h1, _, h2, d, _, rfl, DGet.k (k := .inr x) hd, _, rfl, ?_⟩
  have : (valV kvs (.inr x)).isSome = (getF fs x).isSome := by
    rcases val_opt pr (x := x) with ⟨a, b⟩ | ⟨l, v, a, b, _⟩ <;> rw [a, b] <;> rfl
  rw [this]
  exact k H1 (.refl _)
theorem evLFolder (h1 : σ[i]? = some (some (.ref d))) (h2 : σ[j]? = some (some (.str x))) (tb : Tab K H d fs) (hx : (tl x).length ≤ 1000) (sm : Sml fs) : EvS (tCall (spLIsFolder K) [] E0 (tCons (tVar i) (tCons (tVar j) tNil))) σ H (.bl (isFolder fs x)) := fun H1 s Q k =>
  ⟨_, h1, _, h2, d, x, fs, rfl, tb.same s, hx, fun f hf => (sm f hf).1, fun H2 s2 => by rw [folder_is]; exact k H2 s2⟩
theorem EvT.yes {ta : TT} {b : Bool} (h : EvT ta σ H b) (e : b = true) {Q : Bool → Hp → Prop} (k : ∀ H2, Same H H2 → Q true H2) : ta σ H Q := h H (.refl _) Q fun H2 s => e ▸ k H2 s
theorem EvT.no {ta : TT} {b : Bool} (h : EvT ta σ H b) (e : b = false) {Q : Bool → Hp → Prop} (k : ∀ H2, Same H H2 → Q false H2) : ta σ H Q := h H (.refl _) Q fun H2 s => e ▸ k H2 s
end
end KX

set_option maxRecDepth 100000
set_option maxHeartbeats 4000000
/-! Lh: _law_asked, the def. -/
namespace KX
open PySem PySem.Spec PyProof.Rows L2 TL Ga NdefX
theorem lawQ_head {a : Act} (h : LawQ a) : ∃ z r, a.parts.map (fun q => dI q.2) = .str z :: r ∧ z ∈ lawPlaces := by
  have hp := h.place
  have hq := h.q
  cases a with
  | read z => obtain ⟨y, e, m⟩ := hp _ rfl; cases e; exact ⟨z, _, rfl, m⟩
  | kind z => obtain ⟨y, e, m⟩ := hp _ rfl; cases e; exact ⟨z, _, rfl, m⟩
  | list z => obtain ⟨y, e, m⟩ := hp _ rfl; cases e; exact ⟨z, _, rfl, m⟩
  | find z w => obtain ⟨y, e, m⟩ := hp _ rfl; cases e; exact ⟨z, _, rfl, m⟩
  | count z => obtain ⟨y, e, m⟩ := hp _ rfl; cases e; exact ⟨z, _, rfl, m⟩
  | write p l => simp [isQ] at hq
  | remove p => simp [isQ] at hq
  | move p t => simp [isQ] at hq
  | splice p o n => simp [isQ] at hq
section
variable {P : Program} {w : World} {K : PySem.W.Frag} {mg : Str → Option Value} {base : Heap}
theorem ok_asked {f : Addr} {fd : FuncData} (F : Fun K "_law_asked" "_law_asked" s_L_asked f fd) (T : Tx mg) (CI : Cal P w K mg base 1 "_law_inside" ["path", "place"] spInside) (CF : Cal P w K mg base 2 "_law_is_folder" ["files", "place"] (spLIsFolder K))
    (CN : Cal P w K mg base 2 "_law_names" ["files", "place"] (spNames K)) (CR : Cal P w K mg base 2 "_law_found" ["files", "place", "word"] (spFound K)) : FnOk P w K mg base CX0 3 f fd ["files", "action"] (spAsked K) := by
  refine F.ok sc_L_asked (fun vs H Q E h => ?_) (fun cdv A outer s H vs Q E hr h => ?_)
  · obtain ⟨d, v, a, fs, rfl, _⟩ := h
    rfl
  · obtain ⟨d, v, a, fs, rfl, tb, lf, hd, lq, q⟩ := h
    have folderE : ∀ {X : Cx}, True := fun {X} => trivial
    refine ⟨_, pss_cons (ps_set (i := 2) sc_L_asked.nd rfl (.inr rfl) (pe_ix (ixT (K := K) rfl) (pv 1) pe_int (fun _ _ => rfl)))
      (pss_cons (ps_if (pt_cmpR op_eq (pe_ix (ixT (K := K) rfl) (pv 1) pe_int (fun _ _ => rfl)) pe_str (nomark _))
        (pss_cons (ps_if (pt_cmp (pc_din (hu_of hr) (pv 2) (pv 0))) (pss_one (ps_ret (pe_tup (pa_cons pe_str (pa_cons (pe_dget (hu_of hr) (pv 0) (pv 2) (fun _ _ => rfl)) pa_nil))))) pss_nil) (pss_one (ps_ret (pe_tup (pa_cons pe_str pa_nil))))) pss_nil)
      (pss_cons (ps_if (pt_cmpR op_eq (pe_ix (ixT (K := K) rfl) (pv 1) pe_int (fun _ _ => rfl)) pe_str (nomark _))
        (pss_cons (ps_if (pt_cmp (pc_din (hu_of hr) (pv 2) (pv 0))) (pss_one (ps_ret (pe_tup (pa_cons pe_str pa_nil)))) pss_nil)
          (pss_one (ps_ret (pe_ix (ixL (K := K) rfl) (pe_lst (pa_cons (pe_tup (pa_cons pe_str pa_nil)) (pa_cons (pe_tup (pa_cons pe_str pa_nil)) pa_nil)))
            (pe_callTy call_int1 (by rfl) T.int (by decide +kernel) (pa_cons (pe_cal CF hr pass0 (pa_cons (pv 0) (pa_cons (pv 2) pa_nil))) pa_nil)) (fun _ _ => rfl))))) pss_nil)
      (pss_cons (ps_if (pt_cmpR op_eq (pe_ix (ixT (K := K) rfl) (pv 1) pe_int (fun _ _ => rfl)) pe_str (nomark _))
        (pss_cons (ps_if (PW.pt (pw_or (pt_cmp (pc_din (hu_of hr) (pv 2) (pv 0))) (pw_or1 (pt_val (pe_cal CF hr pass0 (pa_cons (pv 0) (pa_cons (pv 2) pa_nil)))))))
          (pss_one (ps_ret (pe_tup (pa_cons pe_str (pa_cons (pe_cal CR hr pass0 (pa_cons (pv 0) (pa_cons (pv 2) (pa_cons (pe_ix (ixT (K := K) rfl) (pv 1) pe_int (fun _ _ => rfl)) pa_nil)))) pa_nil))))) pss_nil) (pss_one (ps_ret (pe_tup (pa_cons pe_str pa_nil))))) pss_nil)
      (pss_cons (ps_if (pt_not (pt_val (pe_cal CF hr pass0 (pa_cons (pv 0) (pa_cons (pv 2) pa_nil))))) (pss_one (ps_ret (pe_tup (pa_cons pe_str pa_nil)))) pss_nil)
      (pss_cons (ps_if (pt_cmpR op_eq (pe_ix (ixT (K := K) rfl) (pv 1) pe_int (fun _ _ => rfl)) pe_str (nomark _))
        (pss_one (ps_ret (pe_tup (pa_cons pe_str (pa_cons (pe_cal CN hr pass0 (pa_cons (pv 0) (pa_cons (pv 2) pa_nil))) pa_nil))))) pss_nil)
      (pss_one (ps_ret (pe_tup (pa_cons pe_str (pa_cons (pe_callB call_len_seq (by rfl) T.len PySem.boot_len (pa_cons
        (pe_lock (pe_lc (own := [("path", 3)]) rfl sc_L_asked.nd (pi_keys (pv 0)) (blkOk_by (N := n_L_asked) (sc := defScope s_L_asked) (by decide +kernel))
          (fun _ _ _ _ _ => pg_name (i := 3) sc_L_asked.nd rfl (Or.inl rfl)) (fun _ _ _ _ _ => pts_one (pt_val (pe_cal CI hr pass0 (pa_cons (pv 3) (pa_cons (pv 2) pa_nil))))) (fun _ _ _ _ _ => pv 3))) pa_nil)) pa_nil)))))))))), ?_⟩
    obtain ⟨t, vs, rfl, st, dl⟩ := act_parts hd
    obtain ⟨x, r, er, hx⟩ := lawQ_head lq
    rw [er] at dl
    obtain ⟨ws, rfl, dr⟩ : ∃ ws, vs = .str x :: ws ∧ DtL K H ws r := by
      cases dl with
      | cons a b => exact ⟨_, by rw [a.strE], b⟩
    have hx8 := (place_ok hx).2.1
    have hx2 : (tl x).length ≤ 1000 := by omega
    have sm := lf.sml
    refine ⟨_, rfl, t, _, 1, .str x, rfl, rfl, st, at_of (j := 1) rfl rfl, ?_⟩
    have hq := lq.q
    cases a with
    | read z =>
      obtain rfl : z = x := by cases er; rfl
      refine tWordY rfl st rfl (iteT ?_)
      cases e : getF fs z with
      | none =>
        refine (etInD rfl rfl tb).no (by rw [e]; rfl) fun H1 s1 => iteF ?_
        exact word1 (K := K) (σ := [some (.ref d), some (.ref t), some (.str z), none]) fun H' v s dv => q H' v (s1.trans s) (by show Dt K H' v (aRead fs z); rw [aRead, e]; exact dv)
      | some l =>
        refine (etInD rfl rfl tb).yes (by rw [e]; rfl) fun H1 s1 => iteT ?_
        obtain ⟨v, dg, lv⟩ := tab_get (tb.same s1) (getF_in e)
        refine ⟨_, rfl, _, rfl, d, v, rfl, dg, by show 2 ≤ sizeLine; decide, fun u nu => q _ _ (s1.trans (same_upd nu)) ?_⟩
        show Dt K _ _ (aRead fs z)
        rw [aRead, e]
        exact dt2 (sqT upd_same) (.str _) (dt_lines.mpr (LinesAt.st lv (same_upd nu).t))
    | kind z =>
      obtain rfl : z = x := by cases er; rfl
      refine tWordN rfl st (by show ("kind" : Str) ≠ "read"; decide) (iteF ?_)
      refine tWordY rfl st rfl (iteT ?_)
      cases e : getF fs z with
      | some l =>
        refine (etInD rfl rfl tb).yes (by rw [e]; rfl) fun H1 s1 => iteT ?_
        exact word1 (K := K) fun H' v s dv => q H' v (s1.trans s) (by show Dt K H' v (aKind fs z); rw [aKind, e, if_pos (show (some l).isSome = true from rfl)]; exact dv)
      | none =>
        refine (etInD rfl rfl tb).no (by rw [e]; rfl) fun H1 s1 => iteF ?_
        refine ⟨by show 1 ≤ sizeLine; decide, fun t1 n1 => ⟨by show 1 ≤ sizeLine; decide, fun t2 n2 => ⟨by show 2 ≤ sizeLine; decide, fun l nl => ?_⟩⟩⟩
        have sA := same_upd (o := .tup [.str "none"]) n1
        have sB := same_upd (o := .tup [.str "folder"]) n2
        have sC := same_upd (o := .lst [.ref t1, .ref t2]) nl
        have s4 := ((s1.trans sA).trans sB).trans sC
        refine ⟨_, rfl, _, rfl, d, z, fs, rfl, tb.same s4, hx2, fun f hf => (sm f hf).1, fun H5 s5 => .inr ⟨_, rfl, ?_⟩⟩
        rw [folder_is]
        have hl : SqL K H5 l [.ref t1, .ref t2] := s5.seq (sqL upd_same)
        have d1 : Dt K H5 (.ref t1) dNone := dt1 (((sB.trans sC).trans s5).seqT (sqT upd_same)) (.str _)
        have d2 : Dt K H5 (.ref t2) (.tuple [.str "folder"]) := dt1 ((sC.trans s5).seqT (sqT upd_same)) (.str _)
        cases fo : isFolder fs z with
        | true =>
          refine ⟨l, _, _, .ref t2, rfl, rfl, hl, at_of (j := 1) rfl rfl, q H5 _ (s4.trans s5) ?_⟩
          show Dt K _ _ (aKind fs z)
          rw [aKind, e, if_neg (by simp), if_pos fo]
          exact d2
        | false =>
          refine ⟨l, _, _, .ref t1, rfl, rfl, hl, at_of (j := 0) rfl rfl, q H5 _ (s4.trans s5) ?_⟩
          show Dt K _ _ (aKind fs z)
          rw [aKind, e, if_neg (by simp), if_neg (by rw [fo]; simp)]
          exact d1
    | find z w2 =>
      obtain ⟨rfl, rfl⟩ : z = x ∧ r = [.str w2] := by cases er; exact ⟨rfl, rfl⟩
      obtain rfl : ws = [.str w2] := by
        cases dr with
        | cons a b => cases b; rw [a.strE]
      refine tWordN rfl st (by show ("find" : Str) ≠ "read"; decide) (iteF ?_)
      refine tWordN rfl st (by show ("find" : Str) ≠ "kind"; decide) (iteF ?_)
      refine tWordY rfl st rfl (iteT ?_)
      refine EvT.go (etOr (etInD rfl rfl tb) (etVal (evLFolder rfl rfl tb hx2 sm))) fun H1 s1 => ite2 (fun b => ?_) (fun b => ?_)
      · have nb : ¬ (underF fs z = [] ∧ isFolder fs z = false) := fun y => by
          rw [y.2, Bool.or_false] at b
          have u := y.1
          rw [underF, if_neg (fun w => by rw [w] at b; cases b)] at u
          cases u
        refine ⟨_, rfl, _, rfl, _, rfl, t, _, 2, .str w2, rfl, rfl, s1.seqT st, at_of (j := 2) rfl rfl, d, z, w2, fs, rfl, tb.same s1, lf, hx8, fun H2 v s2 dv => ⟨by show 2 ≤ sizeLine; decide, fun u nu => q _ _ ((s1.trans s2).trans (same_upd nu)) ?_⟩⟩
        obtain ⟨_, _, _, nd, _⟩ := id tb
        show Dt K _ _ (aFind fs z w2)
        rw [aFind, if_neg nb, ← rows_is lf nd]
        exact dt2 (sqT upd_same) (.str _) (dv.st (same_upd nu).t)
      · have b1 : (getF fs z).isSome = false ∧ isFolder fs z = false := Bool.or_eq_false_iff.mp (Bool.eq_false_iff.mpr b)
        have e : getF fs z = none := Option.not_isSome_iff_eq_none.mp (by rw [b1.1]; simp)
        have pe : pathsIn fs z = [] := by
          have := (Bool.or_eq_false_iff.mp b1.2).2
          exact List.length_eq_zero_iff.mp (by have := of_decide_eq_false this; omega)
        refine word1 (K := K) (σ := [some (.ref d), some (.ref t), some (.str z), none]) fun H' v s dv => q H' v (s1.trans s) ?_
        show Dt K H' v (aFind fs z w2)
        rw [aFind, if_pos ⟨by rw [underF, if_pos e, pe]; rfl, b1.2⟩]
        exact dv
    | list z =>
      obtain rfl : z = x := by cases er; rfl
      refine tWordN rfl st (by show ("list" : Str) ≠ "read"; decide) (iteF ?_)
      refine tWordN rfl st (by show ("list" : Str) ≠ "kind"; decide) (iteF ?_)
      refine tWordN rfl st (by show ("list" : Str) ≠ "find"; decide) (iteF ?_)
      dsimp only [tNext, tSeq, tIfS]
      refine EvT.go (etNot (etVal (evLFolder (i := 0) (j := 2) (σ := [some (.ref d), some (.ref t), some (.str z), none]) rfl rfl tb hx2 sm))) fun H1 s1 => ?_
      refine ite2 (fun b => ?_) (fun b => ?_)
      · exact word1 (K := K) fun H' v s dv => q H' v (s1.trans s) (by show Dt K H' v (aList fs z); rw [aList, not_t b, if_neg Bool.false_ne_true]; exact dv)
      · have fo := not_f b
        refine tWordY rfl (s1.seqT st) rfl (iteT ?_)
        refine ⟨_, rfl, _, rfl, d, z, fs, rfl, tb.same s1, lf, hx8, fun H2 v s2 lv => ⟨by show 2 ≤ sizeLine; decide, fun u nu => q _ _ ((s1.trans s2).trans (same_upd nu)) ?_⟩⟩
        show Dt K _ _ (aList fs z)
        rw [aList, if_pos fo, ← names_is lf hx8]
        exact dt2 (sqT upd_same) (.str _) (dt_lines.mpr (LinesAt.st lv (same_upd nu).t))
    | count z =>
      obtain rfl : z = x := by cases er; rfl
      refine tWordN rfl st (by show ("count" : Str) ≠ "read"; decide) (iteF ?_)
      refine tWordN rfl st (by show ("count" : Str) ≠ "kind"; decide) (iteF ?_)
      refine tWordN rfl st (by show ("count" : Str) ≠ "find"; decide) (iteF ?_)
      dsimp only [tNext, tSeq, tIfS]
      refine EvT.go (etNot (etVal (evLFolder (i := 0) (j := 2) (σ := [some (.ref d), some (.ref t), some (.str z), none]) rfl rfl tb hx2 sm))) fun H1 s1 => ?_
      refine ite2 (fun b => ?_) (fun b => ?_)
      · exact word1 (K := K) fun H' v s dv => q H' v (s1.trans s) (by show Dt K H' v (aCount fs z); rw [aCount, not_t b, if_neg Bool.false_ne_true]; exact dv)
      · have fo := not_f b
        refine tWordN rfl (s1.seqT st) (by show ("count" : Str) ≠ "list"; decide) (iteF ?_)
        obtain ⟨kvs, hdd, pr, nd, hl⟩ := tb.same s1
        refine ⟨d, _, hdd, trivial, fun od => ?_⟩
        refine ⟨_, rfl, d, od, rfl, .inl ⟨kvs, upd_same, fun D nD => ?_⟩⟩
        refine lc_rel (R := fun H v y => y = V.str v) (as := fs.map (·.1)) (p := fun y => inside y z) nD (same_walkK upd_same) (by rw [List.length_map, List.length_map]; exact pr.length.symm) (by rw [List.length_map, ← pr.length]; omega) (fun st h => h) (fun i c y hc hy H2 Rk Rn s2 k1 k2 => ?_) fun H2 ws s2 e2 pr2 => ?_
        · rw [List.getElem?_map] at hc hy
          cases hk : kvs[i]? with
          | none => rw [hk] at hc; cases hc
          | some kv =>
          obtain ⟨g, hg, rg⟩ := paired_get2 pr i kv hk
          rw [hk] at hc
          rw [hg] at hy
          have ey : g.1 = y := Option.some.inj hy
          subst ey
          have ec : c = V.str g.1 := by
            have : kV kv.1 = c := Option.some.inj hc
            rw [← this, rg.1]
            rfl
          subst ec
          refine ⟨by rfl, ?_⟩
          refine ⟨_, rfl, _, rfl, g.1, z, rfl, (sm g (List.mem_of_getElem? hg)).1, hx2, fun H3 s3 => ⟨_, rfl, ite2 (fun e => ?_) (fun e => ?_)⟩⟩
          · exact ⟨_, rfl, k1 _ H3 e s3 rfl⟩
          · exact k2 H3 (Bool.eq_false_iff.mpr e) s3
        · have f2 : H2 d = some (.frz od (.dK kvs)) := s2 _ _ upd_same
          have nDd : D ≠ d := fun y => by rw [y, upd_same] at nD; cases nD
          have sU : Same H1 (upd H2 d (.dK kvs)) := unlock s2 hdd
          refine ⟨f2, D, ws, rfl, .inl (sqL (by rw [upd_ne nDd]; exact e2)), by show 2 ≤ sizeLine; decide, fun u nu => q _ _ ((s1.trans sU).trans (same_upd nu)) ?_⟩
          have el : ws.length = (pathsIn fs z).length := by
            rw [← pr2.length]
            unfold pathsIn
            exact (((srtF_perm fs).map _).filter _).length_eq.symm
          show Dt K _ _ (aCount fs z)
          rw [aCount, if_pos fo, ← el]
          exact dt2 (sqT upd_same) (.str _) (.int _)
    | write p l => simp [isQ] at hq
    | remove p => simp [isQ] at hq
    | move p t => simp [isQ] at hq
    | splice p o n => simp [isQ] at hq
end
end KX

set_option maxRecDepth 100000
set_option maxHeartbeats 4000000
/-! Hh: places_of. -/
namespace KX
open PySem PySem.Spec PyProof.Rows L2 TL Ga NdefX
theorem walk_rng {H : Hp} {n : Nat} : Walk (Itr 0 n) ((List.range n).map fun k => V.int (0 + (k : Nat))).length (fun H' => Same H H') (YAt ((List.range n).map fun k => V.int (0 + (k : Nat)))) := by
  rw [List.length_map, List.length_range]
  refine walk_range.mono (fun _ _ => trivial) fun i H1 x H2 hi _ y => ?_
  obtain ⟨e, e2⟩ := y
  refine ⟨e, ?_⟩
  rw [List.getElem?_map, List.getElem?_range hi, e2]
  rfl
theorem shaped_tstrs {l : List Str} (h : ∀ z ∈ l, PyData.strOk z = true) : SeqAt.shaped (.tuple (l.map PyData.str)) = true := by
  have := shaped_strs h
  unfold SeqAt.shaped at this ⊢
  exact this
theorem eqvAll_strs : ∀ a b : List Str, PyData.eqvAll (a.map PyData.str) (b.map PyData.str) = decide (a = b)
  | [], [] => rfl
  | [], y :: b => rfl
  | x :: a, [] => rfl
  | x :: a, y :: b => by
    rw [List.map_cons, List.map_cons, PyData.eqvAll, eqvAll_strs a b]
    show (x == y && decide (a = b)) = decide (x :: a = y :: b)
    by_cases h : x = y
    · subst h
      by_cases g : a = b
      · subst g; simp
      · simp [g]
    · simp [h]
theorem cut_at (l : List Str) (i m : Nat) (hi : i + m ≤ l.length) : cutV (l.map V.str) (some (i : Int)) (some ((i + m : Nat) : Int)) = ((l.drop i).take m).map V.str := by
  unfold cutV
  have e1 : min i l.length = i := Nat.min_eq_left (by omega)
  rw [HT.sIx_nat, HT.sIx_nat, List.length_map, Nat.min_eq_left hi, e1, ← List.map_drop, ← List.map_take, Nat.add_sub_cancel_left]
theorem whole_at {l : List Str} {i m : Nat} (hi : i + m ≤ l.length) (h : HT.sIx (l.map V.str).length 0 (some (i : Int)) = 0 ∧ HT.sIx (l.map V.str).length (l.map V.str).length (some ((i + m : Nat) : Int)) = (l.map V.str).length) : (l.drop i).take m = l := by
  obtain ⟨h1, h2⟩ := h
  rw [HT.sIx_nat, List.length_map] at h1 h2
  have e1 : i = 0 := by omega
  have e2 : m = l.length := by omega
  rw [e1, e2, List.drop_zero, List.take_length]
/-- a slice of a tuple of texts, as a reading -/
theorem sl_strs {K : PySem.W.Frag} {H : Hp} {a : Addr} {l : List Str} {i m : Nat} {Q : VK} (sa : SqT K H a (l.map V.str)) (hi : i + m ≤ l.length)
    (h : ∀ H' t, Same H H' → SqT K H' t (((l.drop i).take m).map V.str) → Q (.ref t) H') : rSlA K (.ref a) (some (i : Int)) (some ((i + m : Nat) : Int)) H Q := by
  refine ⟨a, _, rfl, sa, fun z => h H a (.refl _) (by rw [whole_at hi z]; exact sa), fun _ p np => h _ p (same_upd np) (sqT ?_)⟩
  rw [upd_same, cut_at l i m hi]
theorem op_eqDK {X : Cx} {K : PySem.W.Frag} (h : X.K = K) (hu : X.A.units + 64 < cLine) : OpR X (compareOp .Eq) (rEqD K) := by
  subst h
  exact op_eqD hu
section
variable {P : Program} {w : World} {K : PySem.W.Frag} {mg : Str → Option Value} {base : Heap} {C : Addr}
theorem ok_places {f : Addr} {fd : FuncData} (F : Fun K "places_of" "places_of" s_places_of f fd) (T : Tx mg) : FnOk P w K mg base CX0 1 f fd ["lines", "part"] (spPlaces K) := by
  refine F.ok sc_places_of (fun vs H Q E h => ?_) (fun cdv A outer s H vs Q E hr h => ?_)
  · obtain ⟨a, b, l, o, rfl, _⟩ := h
    rfl
  · obtain ⟨a, b, l, o, rfl, sa, sb, hl, ho, okl, oko, q⟩ := h
    refine ⟨_, pss_cons (ps_set (i := 2) sc_places_of.nd rfl (.inr rfl) (pe_callB call_len_seq (by rfl) T.len PySem.boot_len (pa_cons (pv 1) pa_nil)))
      (pss_one (ps_ret (pe_lc (own := [("at", 3)]) rfl sc_places_of.nd (pi_range1 (by rfl) T.range (pa_cons (pe_op op_add (pe_op op_sub (pe_callB call_len_seq (by rfl) T.len PySem.boot_len (pa_cons (pv 0) pa_nil)) (pv 2)) pe_int) pa_nil))
        (blkOk_by (N := n_places_of) (sc := defScope s_places_of) (by decide +kernel)) (fun _ _ _ _ _ => pg_name (i := 3) sc_places_of.nd rfl (Or.inl rfl))
        (fun _ _ _ _ _ => pts_one (pt_cmpR (op_eqDK (K := K) rfl hr.units) (pe_slice (r := rSlA K) sl_tupA (pv 0) (po_some (pv 3)) (po_some (pe_op op_add (pv 3) (pv 2)))) (pv 1) (nomark _))) (fun _ _ _ _ _ => pv 3)))), ?_⟩
    refine ⟨_, rfl, b, _, rfl, .inr sb, ?_⟩
    refine ⟨_, rfl, a, _, rfl, .inr sa, ?_⟩
    have eN : ((l.map V.str).length - (o.map V.str).length + 1 : Int).toNat = l.length + 1 - o.length := by
      rw [List.length_map, List.length_map]
      omega
    refine ⟨_, rfl, _, _, rfl, rfl, _, _, rfl, rfl, _, rfl, ?_, ?_, fun D nD => ?_⟩
    · rw [List.length_map, List.length_map]; omega
    · rw [List.length_map, List.length_map]; omega
    rw [eN]
    refine lc_rel (R := fun _ i y => y = V.int (i : Nat)) (as := List.range (l.length + 1 - o.length)) (p := fun i => decide ((l.drop i).take o.length = o)) nD walk_rng (by simp) (by simp; omega) (fun _ h => h) (fun i c k hc hk H2 Rk Rn s2 k1 k2 => ?_) fun H2 ys s2 e2 pr => ?_
    · have hi : i < l.length + 1 - o.length := by
        have := (List.getElem?_eq_some_iff.mp hk).1
        rwa [List.length_range] at this
      rw [List.getElem?_range hi] at hk
      cases hk
      rw [List.getElem?_map, List.getElem?_range hi] at hc
      cases hc
      refine ⟨by rfl, ?_⟩
      refine ⟨_, rfl, _, rfl, _, rfl, _, rfl, _, rfl, _, _, rfl, rfl, _, rfl, ?_⟩
      have e1 : (0 + (i : Nat) : Int) = ((i : Nat) : Int) := by omega
      have e2 : ((i : Nat) : Int) + ((o.map V.str).length : Nat) = ((i + o.length : Nat) : Int) := by rw [List.length_map]; omega
      rw [e1, e2]
      refine sl_strs (s2.seqT sa) (by omega) fun H3 t s3 st => ?_
      refine ⟨_, rfl, _, _, .tup st (dpAll_strs _), .tup ((s2.trans s3).seqT sb) (dpAll_strs _), shaped_tstrs fun z hz => okl z (List.mem_of_mem_drop (List.mem_of_mem_take hz)), shaped_tstrs oko, _, rfl, ?_⟩
      rw [show PyData.eqv (.tuple (((l.drop i).take o.length).map PyData.str)) (.tuple (o.map PyData.str)) = PyData.eqvAll (((l.drop i).take o.length).map PyData.str) (o.map PyData.str) from rfl, eqvAll_strs]
      refine ite2 (fun e => ?_) (fun e => ?_)
      · exact ⟨.int (0 + (i : Nat)), rfl, k1 _ H3 e s3 (by rw [e1])⟩
      · exact k2 H3 (Bool.eq_false_iff.mpr e) s3
    · refine q H2 D s2 nD ?_
      rw [e2]
      rw [paired_map (f := fun i : Nat => V.int (i : Nat)) pr]
      rfl
end
end KX

set_option maxRecDepth 100000
set_option maxHeartbeats 4000000
/-! Hi: the deeds. -/
namespace KX
open PySem PySem.Spec PyProof.Rows L2 TL Ga NdefX
/-- a deed of this kind -/
def spDo (K : PySem.W.Frag) (C : Addr) (k : Act → Prop) : Sp := fun vs H Q _ => ∃ (p : Addr) (fs : List File) (a : Act) (us : List V), vs = .ref p :: us ∧ k a ∧ DtL K H us (a.parts.map fun q => dI q.2) ∧ TreeAt K C H p fs ∧ Sml fs ∧ okS fs ∧ fs.length ≤ 39 ∧ a.small ∧ a.bad = none ∧
  ∀ H' v, Same H H' → ActRes K C H' v (doM fs a) → Q v H'
theorem doM_write (fs : List File) (p : Str) (l : List Str) : doM fs (.write p l) = if pathsIn fs p ≠ [] ∨ aboveF fs p ≠ [] then (.tuple [.str "blocked"], fs) else if getF fs p = none ∧ 20 ≤ (pathsIn fs "").length then (.tuple [.str "full"], fs) else (.tuple [.str "done"], putFs fs p l) := rfl
theorem doM_remove (fs : List File) (p : Str) : doM fs (.remove p) = if getF fs p = none then (.tuple [.str "missing"], fs) else (.tuple [.str "done"], dropFs fs p) := rfl
theorem doM_move0 {fs : List File} {p t : Str} (h : getF fs p = none) : doM fs (.move p t) = (.tuple [.str "missing"], fs) := by
  show (match getF fs p with | none => _ | some l => _) = _
  rw [h]
theorem doM_move1 {fs : List File} {p t : Str} {l : List Str} (h : getF fs p = some l) : doM fs (.move p t) = if underF (dropFs fs p) t ≠ [] ∨ aboveF (dropFs fs p) t ≠ [] then (.tuple [.str "blocked"], fs) else (.tuple [.str "done"], putFs (dropFs fs p) t l) := by
  show (match getF fs p with | none => _ | some l => _) = _
  rw [h]
def splM (fs : List File) (p : Str) (l o n : List Str) : PyData × List File := match spotsF l o with
  | [] => (.tuple [.str "absent"], fs)
  | [i] => if 12 < (l.take i ++ n ++ l.drop (i + o.length)).length then (.tuple [.str "long"], fs) else (.tuple [.str "done"], putFs fs p (l.take i ++ n ++ l.drop (i + o.length)))
  | _ => (.tuple [.str "ambiguous"], fs)
theorem doM_spl0 {fs : List File} {p : Str} {o n : List Str} (h : getF fs p = none) : doM fs (.splice p o n) = (.tuple [.str "missing"], fs) := by
  show (match getF fs p with | none => _ | some l => _) = _
  rw [h]
theorem doM_spl1 {fs : List File} {p : Str} {l o n : List Str} (h : getF fs p = some l) : doM fs (.splice p o n) = splM fs p l o n := by
  show (match getF fs p with | none => _ | some l => _) = _
  rw [h]
  rfl
theorem dtl1 {K : PySem.W.Frag} {H : Hp} {us : List V} {x : PyData} (h : DtL K H us [x]) : ∃ u, us = [u] ∧ Dt K H u x := by
  cases h with
  | cons a b => cases b; exact ⟨_, rfl, a⟩
theorem dtl2 {K : PySem.W.Frag} {H : Hp} {us : List V} {x y : PyData} (h : DtL K H us [x, y]) : ∃ u v, us = [u, v] ∧ Dt K H u x ∧ Dt K H v y := by
  cases h with
  | cons a b =>
    obtain ⟨v, rfl, c⟩ := dtl1 b
    exact ⟨_, v, rfl, a, c⟩
theorem dtl3 {K : PySem.W.Frag} {H : Hp} {us : List V} {x y z : PyData} (h : DtL K H us [x, y, z]) : ∃ u v t, us = [u, v, t] ∧ Dt K H u x ∧ Dt K H v y ∧ Dt K H t z := by
  cases h with
  | cons a b =>
    obtain ⟨v, t, rfl, c, d⟩ := dtl2 b
    exact ⟨_, v, t, rfl, a, c, d⟩
section
variable {K : PySem.W.Frag} {H : Hp} {σ : L2.St} {Q : VK} {C p : Addr} {fs : List File} {i j : Nat} {x : Str} {te : TE}
/-- ("word",), tree -/
theorem wordTree {z : Str} (tr : TreeAt K C H p fs) (hi : σ[i]? = some (some (.ref p))) (q : ∀ H' v, Same H H' → ActRes K C H' v (.tuple [.str z], fs) → Q v H') :
    tTup (tCons (tTup (tCons (tC (.str z)) tNil)) (tCons (tVar i) tNil)) σ H Q := by
  refine ⟨by show 1 ≤ sizeLine; decide, fun t nt => ⟨_, hi, by show 2 ≤ sizeLine; decide, fun r nr => ?_⟩⟩
  have s1 : Same H (upd H t (.tup [.str z])) := same_upd nt
  have s2 : Same (upd H t (.tup [.str z])) (upd (upd H t (.tup [.str z])) r (.tup [.ref t, .ref p])) := same_upd nr
  exact q _ _ (s1.trans s2) ⟨r, _, p, rfl, sqT upd_same, (dt1 (sqT (s2 _ _ upd_same)) (.str z)), tr.same (s1.trans s2)⟩
/-- ("word",), and another tree -/
theorem wordTree2 {z : Str} {fs' : List File} (h : ∀ H1, Same H H1 → ∀ Q : VK, (∀ H2 p', Same H1 H2 → TreeAt K C H2 p' fs' → Q (.ref p') H2) → te σ H1 Q) (q : ∀ H' v, Same H H' → ActRes K C H' v (.tuple [.str z], fs') → Q v H') :
    tTup (tCons (tTup (tCons (tC (.str z)) tNil)) (tCons te tNil)) σ H Q := by
  refine ⟨by show 1 ≤ sizeLine; decide, fun t nt => ?_⟩
  have s1 : Same H (upd H t (.tup [.str z])) := same_upd nt
  refine h _ s1 _ fun H2 p' s2 tr => ⟨by show 2 ≤ sizeLine; decide, fun r nr => ?_⟩
  have s3 : Same H2 (upd H2 r (.tup [.ref t, .ref p'])) := same_upd nr
  exact q _ _ ((s1.trans s2).trans s3) ⟨r, _, p', rfl, sqT upd_same, (dt1 (sqT (s3 _ _ (s2 _ _ upd_same))) (.str z)), tr.same s3⟩
/-- a row of texts -/
def EvL (K : PySem.W.Frag) (te : TE) (σ : L2.St) (H : Hp) (l : List Str) : Prop := ∀ H1, Same H H1 → ∀ Q : VK, (∀ H2 a, Same H1 H2 → SqT K H2 a (l.map V.str) → Q (.ref a) H2) → te σ H1 Q
theorem etGt0 {l : List Str} (h : EvL K te σ H l) : EvT (tTest (tOp (rI0 fun i j => .bl (decide (j < i))) (tCB (rLenS K) (tCons te tNil)) (tC (.int 0)))) σ H (decide (l ≠ [])) := fun H1 s Q k =>
  h H1 s _ fun H2 a s2 sa => ⟨a, _, rfl, .inr sa, _, _, rfl, rfl, _, rfl, by
    have : decide ((0 : Int) < ((l.map V.str).length : Nat)) = decide (l ≠ []) := decide_eq_decide.mpr (by rw [List.length_map]; cases l <;> simp)
    rw [this]
    exact k H2 s2⟩
theorem etGe {l : List Str} {te2 : TE} {n : Int} (h : EvL K te σ H l) (g : ∀ H1 (Q : VK), Q (.int n) H1 → te2 σ H1 Q) : EvT (tTest (tOp (rI0 fun i j => .bl (decide (j ≤ i))) (tCB (rLenS K) (tCons te tNil)) te2)) σ H (decide (n ≤ (l.length : Int))) := fun H1 s Q k =>
  h H1 s _ fun H2 a s2 sa => ⟨a, _, rfl, .inr sa, g _ _ ⟨_, _, rfl, rfl, _, rfl, by
    rw [List.length_map]
    exact k H2 s2⟩⟩
theorem evPaths (tr : TreeAt K C H p fs) (sm : Sml fs) (hx : (tl x).length ≤ 1000) (hi : σ[i]? = some (some (.ref p))) (hj : σ[j]? = some (some (.str x))) : EvL K (tMeth C "paths" (spTPaths K C) [] E0 (tVar i) (tCons (tVar j) tNil)) σ H (pathsIn fs x) :=
  fun H1 s Q k => tm_paths (tr.same s) sm hx hi hj k
theorem evPaths0 (tr : TreeAt K C H p fs) (sm : Sml fs) (hi : σ[i]? = some (some (.ref p))) : EvL K (tMeth C "paths" (spTPaths K C) [] E0 (tVar i) (tCons (tC (.str "")) tNil)) σ H (pathsIn fs "") :=
  fun H1 s Q k => tm_paths0 (tr.same s) sm hi k
theorem evAbove (tr : TreeAt K C H p fs) (sm : Sml fs) (hx : (tl x).length ≤ 1000) (hi : σ[i]? = some (some (.ref p))) (hj : σ[j]? = some (some (.str x))) : EvL K (tCall (spAbove K C) [] E0 (tCons (tVar i) (tCons (tVar j) tNil))) σ H (aboveF fs x) :=
  fun H1 s Q k => ⟨_, hi, _, hj, p, x, fs, rfl, tr.same s, sm, hx, fun H' v s' lv => by
    obtain ⟨a, rfl, sa⟩ := lv
    exact k H' a s' sa⟩
theorem evUnder (tr : TreeAt K C H p fs) (sm : Sml fs) (hx : (tl x).length ≤ 1000) (hi : σ[i]? = some (some (.ref p))) (hj : σ[j]? = some (some (.str x))) : EvL K (tCall (spUnder K C) [] E0 (tCons (tVar i) (tCons (tVar j) tNil))) σ H (underF fs x) :=
  fun H1 s Q k => ⟨_, hi, _, hj, p, x, fs, rfl, tr.same s, sm, hx, fun H' v s' lv => by
    obtain ⟨a, rfl, sa⟩ := lv
    exact k H' a s' sa⟩
/-- tree.lines(path) is None -/
theorem etNoLines (tr : TreeAt K C H p fs) (hi : σ[i]? = some (some (.ref p))) (hj : σ[j]? = some (some (.str x))) :
    EvT (tTest (tOp (fun x y H Q => y = .non ∧ Q (.bl (decide (x = .non))) H) (tMeth C "lines" (spTLines K C) [] E0 (tVar i) (tCons (tVar j) tNil)) (tC .non))) σ H (decide (getF fs x = none)) := fun H1 s Q k =>
  tm_lines (tr.same s) hi hj fun v hv => ⟨rfl, _, rfl, by
    have : decide (v = .non) = decide (getF fs x = none) := by
      cases e : getF fs x with
      | none => rw [e] at hv; rw [show v = .non from hv]; rfl
      | some l =>
        rw [e] at hv
        obtain ⟨a, rfl, _⟩ := hv
        rfl
    rw [this]
    exact k H1 (.refl _)⟩
end
section
variable {P : Program} {w : World} {K : PySem.W.Frag} {mg : Str → Option Value} {base : Heap} {C : Addr}
theorem ok_remove {f : Addr} {fd : FuncData} (F : Fun K "do_remove" "do_remove" s_do_remove f fd) (M : TreeM P w K mg base C) : FnOk P w K mg base CX0 9 f fd ["tree", "path"] (spDo K C fun a => ∃ p, a = .remove p) := by
  refine F.ok sc_do_remove (fun vs H Q E h => ?_) (fun cdv A outer s H vs Q E hr h => ?_)
  · obtain ⟨p, fs, a, us, rfl, ⟨x, rfl⟩, dl, _⟩ := h
    obtain ⟨u, rfl, _⟩ := dtl1 dl
    rfl
  · obtain ⟨p, fs, a, us, rfl, ⟨x, rfl⟩, dl, tr, sm, oks, few, sa, hb, q⟩ := h
    obtain ⟨u, rfl, du⟩ := dtl1 dl
    obtain rfl := du.strE
    refine ⟨_, pss_cons (ps_if (pt_cmpR op_isN (pe_mcal M.tc.cl M.lines hr pass0 (pv 0) (pa_cons (pv 1) pa_nil)) pe_non (nomark _)) (pss_one (ps_ret (pe_tup (pa_cons (pe_tup (pa_cons pe_str pa_nil)) (pa_cons (pv 0) pa_nil))))) pss_nil)
      (pss_one (ps_ret (pe_tup (pa_cons (pe_tup (pa_cons pe_str pa_nil)) (pa_cons (pe_mcal M.tc.cl M.without hr pass0 (pv 0) (pa_cons (pv 1) pa_nil)) pa_nil))))), ?_⟩
    refine EvT.go (etNoLines tr rfl rfl) fun H1 s1 => ite2 (fun b => ?_) (fun b => ?_)
    · have e := of_decide_eq_true b
      exact wordTree (i := 0) (tr.same s1) rfl fun H' v s r => q H' v (s1.trans s) (by rw [doM_remove, if_pos e]; exact r)
    · have e : ¬ getF fs x = none := fun z => b (decide_eq_true z)
      refine wordTree2 (fs' := dropFs fs x) (fun H2 s2 Q2 k => tm1 ((tr.same s1).same s2) (by decide +kernel) rfl ⟨_, rfl, p, x, fs, rfl, (tr.same s1).same s2, fun H' p' s' n t => k H' p' s' t⟩) fun H' v s r => q H' v (s1.trans s) (by rw [doM_remove, if_neg e]; exact r)
theorem ok_write {f : Addr} {fd : FuncData} (F : Fun K "do_write" "do_write" s_do_write f fd) (T : Tx mg) (M : TreeM P w K mg base C) (CA : Cal P w K mg base 4 "paths_above" ["tree", "path"] (spAbove K C)) : FnOk P w K mg base CX0 9 f fd ["tree", "path", "lines"] (spDo K C fun a => ∃ p l, a = .write p l) := by
  obtain ⟨t1, m1⟩ := T.c_FILES_MOST
  refine F.ok sc_do_write (fun vs H Q E h => ?_) (fun cdv A outer s H vs Q E hr h => ?_)
  · obtain ⟨p, fs, a, us, rfl, ⟨x, l, rfl⟩, dl, _⟩ := h
    obtain ⟨u, v, rfl, _, _⟩ := dtl2 dl
    rfl
  · obtain ⟨p, fs, a, us, rfl, ⟨x, l, rfl⟩, dl, tr, sm, oks, few, sa, hb, q⟩ := h
    obtain ⟨u, v, rfl, du, dv⟩ := dtl2 dl
    obtain rfl := du.strE
    have hx : (tl x).length ≤ 1000 := sa _ List.mem_cons_self
    have lv : LinesAt K H v l := dt_lines.mp dv
    refine ⟨_, pss_cons (ps_if (PW.pt (pw_or (pt_cmpR op_gt (pe_callB call_len_seq (by rfl) T.len PySem.boot_len (pa_cons (pe_mcal M.tc.cl M.paths hr pass0 (pv 0) (pa_cons (pv 1) pa_nil)) pa_nil)) pe_int (nomark _))
        (pw_or1 (pt_cmpR op_gt (pe_callB call_len_seq (by rfl) T.len PySem.boot_len (pa_cons (pe_cal CA hr pass0 (pa_cons (pv 0) (pa_cons (pv 1) pa_nil))) pa_nil)) pe_int (nomark _))))) (pss_one (ps_ret (pe_tup (pa_cons (pe_tup (pa_cons pe_str pa_nil)) (pa_cons (pv 0) pa_nil))))) pss_nil)
      (pss_cons (ps_if (PW.pt (pw_and (pt_cmpR op_isN (pe_mcal M.tc.cl M.lines hr pass0 (pv 0) (pa_cons (pv 1) pa_nil)) pe_non (nomark _))
        (pw_and1 (pt_cmpR op_ge (pe_callB call_len_seq (by rfl) T.len PySem.boot_len (pa_cons (pe_mcal M.tc.cl M.paths hr pass0 (pv 0) (pa_cons pe_str pa_nil)) pa_nil)) (pe_glob (v := .int 20) rfl m1 ⟨_, rfl⟩) (nomark _))))) (pss_one (ps_ret (pe_tup (pa_cons (pe_tup (pa_cons pe_str pa_nil)) (pa_cons (pv 0) pa_nil))))) pss_nil)
      (pss_one (ps_ret (pe_tup (pa_cons (pe_tup (pa_cons pe_str pa_nil)) (pa_cons (pe_mcal M.tc.cl M.with_ hr pass0 (pv 0) (pa_cons (pv 1) (pa_cons (pv 2) pa_nil))) pa_nil)))))), ?_⟩
    refine EvT.go (etOr (etGt0 (evPaths tr sm hx rfl rfl)) (etGt0 (evAbove tr sm hx rfl rfl))) fun H1 s1 => ite2 (fun b => ?_) (fun b => ?_)
    · have e : pathsIn fs x ≠ [] ∨ aboveF fs x ≠ [] := by
        rcases Bool.or_eq_true_iff.mp b with b | b
        · exact .inl (of_decide_eq_true b)
        · exact .inr (of_decide_eq_true b)
      exact wordTree (i := 0) (tr.same s1) rfl fun H' v s r => q H' v (s1.trans s) (by rw [doM_write, if_pos e]; exact r)
    · have e : ¬ (pathsIn fs x ≠ [] ∨ aboveF fs x ≠ []) := fun z => b (Bool.or_eq_true_iff.mpr (z.imp decide_eq_true decide_eq_true))
      have tr1 := tr.same s1
      refine EvT.go (etAnd (etNoLines tr1 rfl rfl) (etGe (n := 20) (evPaths0 tr1 sm rfl) fun H1 Q k => k)) fun H2 s2 => ite2 (fun b2 => ?_) (fun b2 => ?_)
      · obtain ⟨c1, c2⟩ := Bool.and_eq_true_iff.mp b2
        have e2 : getF fs x = none ∧ 20 ≤ (pathsIn fs "").length := ⟨of_decide_eq_true c1, by have := of_decide_eq_true c2; omega⟩
        exact wordTree (i := 0) (tr1.same s2) rfl fun H' v s r => q H' v ((s1.trans s2).trans s) (by rw [doM_write, if_neg e, if_pos e2]; exact r)
      · have e2 : ¬ (getF fs x = none ∧ 20 ≤ (pathsIn fs "").length) := fun z => b2 (by rw [decide_eq_true z.1, Bool.true_and]; exact decide_eq_true (by omega))
        refine wordTree2 (fs' := putFs fs x l) (fun H3 s3 Q2 k => tm1 ((tr1.same s2).same s3) (by decide +kernel) rfl ⟨_, rfl, _, rfl, p, x, v, l, fs, rfl, (tr1.same s2).same s3, lv.st ((s1.trans s2).trans s3).t, by omega, fun H' p' s' n t => k H' p' s' t⟩) fun H' v s r => q H' v ((s1.trans s2).trans s) (by rw [doM_write, if_neg e, if_neg e2]; exact r)
end
end KX

set_option maxRecDepth 100000
set_option maxHeartbeats 4000000
/-! Hj: moved and spliced. -/
namespace KX
open PySem PySem.Spec PyProof.Rows L2 TL Ga NdefX
theorem drop_sml {fs : List File} (h : Sml fs) (x : Str) : Sml (dropFs fs x) := fun f hf => h f ((List.mem_filter.mp hf).1)
theorem drop_len (fs : List File) (x : Str) : (dropFs fs x).length ≤ fs.length := List.length_filter_le _ _
theorem isLine_strOk {z : Str} (h : isLine z = true) : PyData.strOk z = true := by
  have h := (Bool.and_eq_true_iff.mp h).2
  have : (tl z).all (· < 0x110000) = true := by
    refine List.all_eq_true.mpr fun c hc => ?_
    have := List.all_eq_true.mp h c hc
    simp only [signOk, Bool.and_eq_true, Bool.not_eq_true', decide_eq_false_iff_not] at this
    have h2 : ¬ ([126] : List Nat) < [c] := this.1.2
    have h3 : ¬ 126 < c := fun q => h2 (List.Lex.rel q)
    exact decide_eq_true (by omega)
  unfold PyData.strOk
  rw [← Array.all_toList]
  exact this
theorem lines_strOk {l : List Str} (h : isLines l = true) : ∀ z ∈ l, PyData.strOk z = true := fun z hz => isLine_strOk (List.all_eq_true.mp (Bool.and_eq_true_iff.mp h).2 z hz)
section
variable {K : PySem.W.Frag} {H : Hp} {a b : Addr} {l m : List Str} {i : Nat} {Q : VK}
theorem sl_upto (sa : SqT K H a (l.map V.str)) (hi : i ≤ l.length) (h : ∀ H' t, Same H H' → SqT K H' t ((l.take i).map V.str) → Q (.ref t) H') : rSlA K (.ref a) none (some (i : Int)) H Q := by
  have ec : cutV (l.map V.str) none (some (i : Int)) = (l.take i).map V.str := by
    unfold cutV
    rw [HT.sIx_none, HT.sIx_nat, List.length_map, Nat.min_eq_left hi, List.drop_zero, Nat.sub_zero, ← List.map_take]
  refine ⟨a, _, rfl, sa, fun z => h H a (.refl _) ?_, fun _ p np => h _ p (same_upd np) (sqT (by rw [upd_same, ec]))⟩
  have := z.2
  rw [HT.sIx_nat, List.length_map, Nat.min_eq_left hi] at this
  rw [this, List.take_length]
  exact sa
theorem sl_from (sa : SqT K H a (l.map V.str)) (hi : i ≤ l.length) (h : ∀ H' t, Same H H' → SqT K H' t ((l.drop i).map V.str) → Q (.ref t) H') : rSlA K (.ref a) (some (i : Int)) none H Q := by
  have ec : cutV (l.map V.str) (some (i : Int)) none = (l.drop i).map V.str := by
    unfold cutV
    rw [HT.sIx_none, HT.sIx_nat, List.length_map, Nat.min_eq_left hi, ← List.map_drop, List.take_of_length_le (by rw [List.length_map, List.length_drop]; exact Nat.le_refl _)]
  refine ⟨a, _, rfl, sa, fun z => h H a (.refl _) ?_, fun _ p np => h _ p (same_upd np) (sqT (by rw [upd_same, ec]))⟩
  have := z.1
  rw [HT.sIx_nat, List.length_map, Nat.min_eq_left hi] at this
  rw [this, List.drop_zero]
  exact sa
theorem cat_strs (sa : SqT K H a (l.map V.str)) (sb : SqT K H b (m.map V.str)) (hl : l.length + m.length ≤ 10000) (h : ∀ H' t, Same H H' → SqT K H' t ((l ++ m).map V.str) → Q (.ref t) H') : rCatA K (.ref a) (.ref b) H Q := by
  refine ⟨a, b, _, _, rfl, rfl, sa, sb, ?_, fun e => ?_, fun _ e => ?_, fun _ _ p np => h _ p (same_upd np) (sqT (by rw [upd_same, List.map_append]))⟩
  · rw [List.length_map, List.length_map]
    exact Nat.le_trans hl (by decide)
  · rw [List.map_eq_nil_iff] at e
    subst e
    exact h H b (.refl _) sb
  · rw [List.map_eq_nil_iff] at e
    subst e
    exact h H a (.refl _) (by rw [List.append_nil]; exact sa)
end
theorem op_catAK {X : Cx} {K : PySem.W.Frag} (h : X.K = K) : OpR X (binaryOp .Add) (rCatA K) := by
  subst h
  exact op_catA
section
variable {P : Program} {w : World} {K : PySem.W.Frag} {mg : Str → Option Value} {base : Heap} {C : Addr}
theorem ok_move {f : Addr} {fd : FuncData} (F : Fun K "do_move" "do_move" s_do_move f fd) (T : Tx mg) (M : TreeM P w K mg base C) (CU : Cal P w K mg base 4 "paths_under" ["tree", "place"] (spUnder K C)) (CA : Cal P w K mg base 4 "paths_above" ["tree", "path"] (spAbove K C)) :
    FnOk P w K mg base CX0 9 f fd ["tree", "path", "target"] (spDo K C fun a => ∃ p t, a = .move p t) := by
  refine F.ok sc_do_move (fun vs H Q E h => ?_) (fun cdv A outer s H vs Q E hr h => ?_)
  · obtain ⟨p, fs, a, us, rfl, ⟨x, y, rfl⟩, dl, _⟩ := h
    obtain ⟨u, v, rfl, _, _⟩ := dtl2 dl
    rfl
  · obtain ⟨p, fs, a, us, rfl, ⟨x, y, rfl⟩, dl, tr, sm, oks, few, sa, hb, q⟩ := h
    obtain ⟨u, v, rfl, du, dv⟩ := dtl2 dl
    obtain rfl := du.strE
    obtain rfl := dv.strE
    have hx : (tl x).length ≤ 1000 := sa _ List.mem_cons_self
    have hy : (tl y).length ≤ 1000 := sa ("target", .tx y) (List.mem_cons_of_mem _ List.mem_cons_self)
    refine ⟨_, pss_cons (ps_set (i := 3) sc_do_move.nd rfl (.inl rfl) (pe_mcal M.tc.cl M.lines hr pass0 (pv 0) (pa_cons (pv 1) pa_nil)))
      (pss_cons (ps_if (pt_cmpR op_isN (pv 3) pe_non (nomark _)) (pss_one (ps_ret (pe_tup (pa_cons (pe_tup (pa_cons pe_str pa_nil)) (pa_cons (pv 0) pa_nil))))) pss_nil)
      (pss_cons (ps_set (i := 4) sc_do_move.nd rfl (.inl rfl) (pe_mcal M.tc.cl M.without hr pass0 (pv 0) (pa_cons (pv 1) pa_nil)))
      (pss_cons (ps_if (PW.pt (pw_or (pt_cmpR op_gt (pe_callB call_len_seq (by rfl) T.len PySem.boot_len (pa_cons (pe_cal CU hr pass0 (pa_cons (pv 4) (pa_cons (pv 2) pa_nil))) pa_nil)) pe_int (nomark _))
        (pw_or1 (pt_cmpR op_gt (pe_callB call_len_seq (by rfl) T.len PySem.boot_len (pa_cons (pe_cal CA hr pass0 (pa_cons (pv 4) (pa_cons (pv 2) pa_nil))) pa_nil)) pe_int (nomark _))))) (pss_one (ps_ret (pe_tup (pa_cons (pe_tup (pa_cons pe_str pa_nil)) (pa_cons (pv 0) pa_nil))))) pss_nil)
      (pss_one (ps_ret (pe_tup (pa_cons (pe_tup (pa_cons pe_str pa_nil)) (pa_cons (pe_mcal M.tc.cl M.with_ hr pass0 (pv 4) (pa_cons (pv 2) (pa_cons (pv 3) pa_nil))) pa_nil)))))))), ?_⟩
    refine tm_lines tr rfl rfl fun v hv => ⟨_, rfl, rfl, _, rfl, ?_⟩
    cases e : getF fs x with
    | none =>
      rw [e] at hv
      have hv : v = .non := hv
      subst hv
      refine ite2 (fun _ => ?_) (fun z => absurd rfl z)
      exact wordTree (i := 0) tr rfl fun H' v s r => q H' v s (by rw [doM_move0 e]; exact r)
    | some l =>
      rw [e] at hv
      obtain ⟨b, rfl, sb⟩ := id hv
      refine ite2 (fun z => nomatch z) (fun _ => ?_)
      refine tm1 tr (by decide +kernel) rfl ⟨_, rfl, p, x, fs, rfl, tr, fun H1 p' s1 n1 tr1 => ?_⟩
      have tr0 := tr.same s1
      have sm1 := drop_sml sm x
      refine EvT.go (etOr (etGt0 (evUnder tr1 sm1 hy rfl rfl)) (etGt0 (evAbove tr1 sm1 hy rfl rfl))) fun H2 s2 => ite2 (fun bb => ?_) (fun bb => ?_)
      · have c : underF (dropFs fs x) y ≠ [] ∨ aboveF (dropFs fs x) y ≠ [] := by
          rcases Bool.or_eq_true_iff.mp bb with z | z
          · exact .inl (of_decide_eq_true z)
          · exact .inr (of_decide_eq_true z)
        exact wordTree (i := 0) (tr0.same s2) rfl fun H' v s r => q H' v ((s1.trans s2).trans s) (by rw [doM_move1 e, if_pos c]; exact r)
      · have c : ¬ (underF (dropFs fs x) y ≠ [] ∨ aboveF (dropFs fs x) y ≠ []) := fun z => bb (Bool.or_eq_true_iff.mpr (z.imp decide_eq_true decide_eq_true))
        have fl := drop_len fs x
        refine wordTree2 (fs' := putFs (dropFs fs x) y l) (fun H3 s3 Q2 k => tm1 ((tr1.same s2).same s3) (by decide +kernel) rfl ⟨_, rfl, _, rfl, p', y, .ref b, l, dropFs fs x, rfl, (tr1.same s2).same s3, LinesAt.st hv ((s1.trans s2).trans s3).t, by omega, fun H' p' s' n t => k H' p' s' t⟩) fun H' v s r => q H' v ((s1.trans s2).trans s) (by rw [doM_move1 e, if_neg c]; exact r)
theorem spots_le {l o : List Str} {i : Nat} (h : i ∈ spotsF l o) : i + o.length ≤ l.length := by
  have := List.mem_range.mp (List.mem_filter.mp h).1
  omega
theorem ok_splice {f : Addr} {fd : FuncData} (F : Fun K "do_splice" "do_splice" s_do_splice f fd) (T : Tx mg) (M : TreeM P w K mg base C) (CP : Cal P w K mg base 1 "places_of" ["lines", "part"] (spPlaces K)) :
    FnOk P w K mg base CX0 9 f fd ["tree", "path", "old", "new"] (spDo K C fun a => ∃ p o n, a = .splice p o n) := by
  obtain ⟨t1, m1⟩ := T.c_LINES_MOST
  refine F.ok sc_do_splice (fun vs H Q E h => ?_) (fun cdv A outer s H vs Q E hr h => ?_)
  · obtain ⟨p, fs, a, us, rfl, ⟨x, o, n, rfl⟩, dl, _⟩ := h
    obtain ⟨u, v, t, rfl, _, _, _⟩ := dtl3 dl
    rfl
  · obtain ⟨p, fs, a, us, rfl, ⟨x, o, n, rfl⟩, dl, tr, sm, oks, few, sa, hb, q⟩ := h
    obtain ⟨u, v, t, rfl, du, dv, dt⟩ := dtl3 dl
    obtain rfl := du.strE
    have hx : (tl x).length ≤ 1000 := sa _ List.mem_cons_self
    have so : smallI (.ln o) := sa ("old", .ln o) (List.mem_cons_of_mem _ List.mem_cons_self)
    have sn : smallI (.ln n) := sa ("new", .ln n) (List.mem_cons_of_mem _ (List.mem_cons_of_mem _ List.mem_cons_self))
    obtain ⟨bo, rfl, qo⟩ := dt_lines.mp dv
    obtain ⟨bn, rfl, qn⟩ := dt_lines.mp dt
    have io : isLines o = true := by
      have hb : firstBad [("path", .tx x), ("old", .ln o), ("new", .ln n)] = none := hb
      unfold firstBad at hb
      split at hb
      · unfold firstBad at hb
        split at hb
        · rename_i z
          exact (Bool.and_eq_true_iff.mp z).1
        · cases hb
      · cases hb
    refine ⟨_, pss_cons (ps_set (i := 4) sc_do_splice.nd rfl (.inl rfl) (pe_mcal M.tc.cl M.lines hr pass0 (pv 0) (pa_cons (pv 1) pa_nil)))
      (pss_cons (ps_if (pt_cmpR op_isN (pv 4) pe_non (nomark _)) (pss_one (ps_ret (pe_tup (pa_cons (pe_tup (pa_cons pe_str pa_nil)) (pa_cons (pv 0) pa_nil))))) pss_nil)
      (pss_cons (ps_set (i := 5) sc_do_splice.nd rfl (.inl rfl) (pe_cal CP hr pass0 (pa_cons (pv 4) (pa_cons (pv 2) pa_nil))))
      (pss_cons (ps_if (pt_cmpR op_eq (pe_callB call_len_seq (by rfl) T.len PySem.boot_len (pa_cons (pv 5) pa_nil)) pe_int (nomark _)) (pss_one (ps_ret (pe_tup (pa_cons (pe_tup (pa_cons pe_str pa_nil)) (pa_cons (pv 0) pa_nil))))) pss_nil)
      (pss_cons (ps_if (pt_cmpR op_gt (pe_callB call_len_seq (by rfl) T.len PySem.boot_len (pa_cons (pv 5) pa_nil)) pe_int (nomark _)) (pss_one (ps_ret (pe_tup (pa_cons (pe_tup (pa_cons pe_str pa_nil)) (pa_cons (pv 0) pa_nil))))) pss_nil)
      (pss_cons (ps_set (i := 6) sc_do_splice.nd rfl (.inl rfl) (pe_op (op_catAK (K := K) rfl) (pe_op (op_catAK (K := K) rfl) (pe_slice (r := rSlA K) sl_tupA (pv 4) po_none (po_some (pe_ix (ixL (K := K) rfl) (pv 5) pe_int (fun _ _ => rfl)))) (pv 3))
        (pe_slice (r := rSlA K) sl_tupA (pv 4) (po_some (pe_op op_add (pe_ix (ixL (K := K) rfl) (pv 5) pe_int (fun _ _ => rfl)) (pe_callB call_len_seq (by rfl) T.len PySem.boot_len (pa_cons (pv 2) pa_nil)))) po_none)))
      (pss_cons (ps_if (pt_cmpR op_gt (pe_callB call_len_seq (by rfl) T.len PySem.boot_len (pa_cons (pv 6) pa_nil)) (pe_glob (v := .int 12) rfl m1 ⟨_, rfl⟩) (nomark _)) (pss_one (ps_ret (pe_tup (pa_cons (pe_tup (pa_cons pe_str pa_nil)) (pa_cons (pv 0) pa_nil))))) pss_nil)
      (pss_one (ps_ret (pe_tup (pa_cons (pe_tup (pa_cons pe_str pa_nil)) (pa_cons (pe_mcal M.tc.cl M.with_ hr pass0 (pv 0) (pa_cons (pv 1) (pa_cons (pv 6) pa_nil))) pa_nil))))))))))), ?_⟩
    refine tm_lines tr rfl rfl fun v hv => ⟨_, rfl, rfl, _, rfl, ?_⟩
    cases e : getF fs x with
    | none =>
      rw [e] at hv
      have hv : v = .non := hv
      subst hv
      refine ite2 (fun _ => ?_) (fun z => absurd rfl z)
      exact wordTree (i := 0) tr rfl fun H' v s r => q H' v s (by rw [doM_spl0 e]; exact r)
    | some l =>
      rw [e] at hv
      obtain ⟨b, rfl, sb⟩ := id hv
      obtain ⟨g, hg, eg⟩ : ∃ g ∈ fs, g.2 = l := ⟨_, getF_in e, rfl⟩
      subst eg
      obtain ⟨_, gl, gz⟩ := sm g hg
      refine ite2 (fun z => nomatch z) (fun _ => ?_)
      refine ⟨_, rfl, _, rfl, b, bo, g.2, o, rfl, sb, qo, gl, so.1, oks g hg, lines_strOk io, fun H1 r s1 n1 e1 => ?_⟩
      have sr : SqL K H1 r ((spotsF g.2 o).map fun i => V.int (i : Nat)) := sqL e1
      refine ⟨_, rfl, r, _, rfl, .inl sr, rfl, _, rfl, ?_⟩
      have q1 := q
      rw [doM_spl1 e] at q1
      have tr1 := tr.same s1
      unfold splM at q1
      cases hsp : spotsF g.2 o with
      | nil =>
        rw [hsp] at q1
        refine ite2 (fun _ => ?_) (fun z => absurd rfl z)
        exact wordTree (i := 0) tr1 rfl fun H' v s r => q1 H' v (s1.trans s) r
      | cons i rest =>
        rw [hsp] at sr q1 e1
        refine ite2 (fun z => absurd (V.int.inj (of_decide_eq_true z)) (by rw [List.length_map, List.length_cons]; omega)) (fun _ => ?_)
        refine ⟨_, rfl, r, _, rfl, .inl sr, _, _, rfl, rfl, _, rfl, ?_⟩
        cases rest with
        | cons j rest =>
          refine ite2 (fun _ => ?_) (fun z => absurd (decide_eq_true (by rw [List.length_map, List.length_cons, List.length_cons]; omega)) z)
          exact wordTree (i := 0) tr1 rfl fun H' v s r => q1 H' v (s1.trans s) r
        | nil =>
          refine ite2 (fun z => absurd (of_decide_eq_true z) (by simp)) (fun _ => ?_)
          have hi : i + o.length ≤ g.2.length := spots_le (l := g.2) (o := o) (by rw [hsp]; exact List.mem_cons_self)
          have at0 : atI (([i].map fun i => V.int (i : Nat)) : List V) 0 = some (.int (i : Nat)) := at_of (j := 0) rfl rfl
          refine ⟨_, rfl, _, rfl, r, _, 0, _, rfl, rfl, sr, at0, _, rfl, ?_⟩
          refine sl_upto (s1.seqT sb) (by omega) fun H2 t2 s2 st2 => ?_
          refine ⟨_, rfl, cat_strs st2 ((s1.trans s2).seqT qn) (by rw [List.length_take]; have := sn.1; omega) fun H3 t3 s3 st3 => ?_⟩
          have s23 := s2.trans s3
          refine ⟨_, rfl, _, rfl, r, _, 0, _, rfl, rfl, sqL (s23 _ _ e1), at0, _, rfl, bo, _, rfl, .inr ((s1.trans s23).seqT qo), _, _, rfl, rfl, ?_⟩
          have eI : ((i : Nat) : Int) + ((o.map V.str).length : Nat) = ((i + o.length : Nat) : Int) := by rw [List.length_map]; omega
          refine ⟨_, rfl, ?_⟩
          dsimp only [tNoPart]
          rw [eI]
          refine sl_from ((s1.trans s23).seqT sb) hi fun H4 t4 s4 st4 => ?_
          refine cat_strs (s4.seqT st3) st4 (by rw [List.length_append, List.length_take, List.length_drop]; have := sn.1; omega) fun H5 t5 s5 st5 => ?_
          have s15 := (s1.trans s23).trans (s4.trans s5)
          have tr5 := tr.same s15
          refine ⟨_, rfl, t5, _, rfl, .inr st5, _, _, rfl, rfl, _, rfl, ?_⟩
          refine ite2 (fun z => ?_) (fun z => ?_)
          · have c : 12 < (g.2.take i ++ n ++ g.2.drop (i + o.length)).length := by have := of_decide_eq_true z; rw [List.length_map] at this; omega
            dsimp only at q1
            rw [if_pos c] at q1
            exact wordTree (i := 0) tr5 rfl fun H' v s r => q1 H' v (s15.trans s) r
          · have c : ¬ 12 < (g.2.take i ++ n ++ g.2.drop (i + o.length)).length := fun y => z (decide_eq_true (by rw [List.length_map]; omega))
            dsimp only at q1
            rw [if_neg c] at q1
            exact wordTree2 (fs' := putFs fs x (g.2.take i ++ n ++ g.2.drop (i + o.length))) (fun H6 s6 Q2 k => tm1 (tr5.same s6) (by decide +kernel) rfl ⟨_, rfl, _, rfl, p, x, .ref t5, _, fs, rfl, tr5.same s6, ⟨t5, rfl, s6.seqT st5⟩, by omega, fun H' p' s' n t => k H' p' s' t⟩) fun H' v s r => q1 H' v (s15.trans s) r
end
end KX

set_option maxRecDepth 100000
set_option maxHeartbeats 4000000
/-! Lj: the law's deeds. -/
namespace KX
open PySem PySem.Spec PyProof.Rows L2 TL Ga NdefX
def okLn (l : List Str) : Prop := l.length ≤ 12 ∧ ∀ z ∈ l, okText 20 z ∧ isLine z = true
def deedItm : Itm → Prop
  | .tx z => z ∈ lawPaths
  | .ln l => okLn l
/-- a deed of the law: its parts are within their bounds -/
structure LawD (a : Act) : Prop where
  q : isQ a = false
  parts : ∀ q ∈ a.parts, deedItm q.2
  old : ∀ p o n, a = .splice p o n → o ≠ []
theorem okLn.lines {l : List Str} (h : okLn l) : isLines l = true := by
  unfold isLines
  rw [decide_eq_true (by have := h.1; omega), Bool.true_and]
  exact List.all_eq_true.mpr fun z hz => (h.2 z hz).2
theorem LawD.small {a : Act} (h : LawD a) : a.small := fun q hq => by
  have := h.parts q hq
  cases e : q.2 with
  | tx z =>
    rw [e] at this
    exact Nat.le_trans (pth this).text.1 (by decide)
  | ln l =>
    rw [e] at this
    exact ⟨Nat.le_trans this.1 (by decide), fun z hz => Nat.le_trans (this.2 z hz).1.1 (by decide)⟩
theorem bad_none : ∀ {l : List (Str × Itm)}, (∀ q ∈ l, okItm q.1 q.2 = true) → firstBad l = none
  | [], _ => rfl
  | q :: r, h => by
    unfold firstBad
    rw [if_pos (h q List.mem_cons_self)]
    exact bad_none fun z hz => h z (List.mem_cons_of_mem _ hz)
theorem LawD.ok {a : Act} (h : LawD a) : a.bad = none := by
  have hq := h.q
  have hp := h.parts
  refine bad_none fun q hq' => ?_
  have d := hp q hq'
  have tx : ∀ {n : Str} {z : Str}, n ≠ "place" → n ≠ "word" → deedItm (.tx z) → okItm n (.tx z) = true := fun {n z} h1 h2 d => by
    show (if n = "place" then isPlace z else if n = "word" then isWord z else isPath z) = true
    rw [if_neg h1, if_neg h2]
    exact (pth d).path
  have ln : ∀ {n : Str} {l : List Str}, n ≠ "old" → deedItm (.ln l) → okItm n (.ln l) = true := fun {n l} h1 d => by
    show (isLines l && (!decide (n = "old") || decide (0 < l.length))) = true
    rw [okLn.lines d, decide_eq_false h1]
    rfl
  cases a with
  | write p l =>
    rcases List.mem_cons.mp hq' with rfl | hq'
    · exact tx (n := "path") (by decide) (by decide) d
    · obtain rfl := List.mem_singleton.mp hq'
      exact ln (n := "lines") (by decide) d
  | remove p =>
    obtain rfl := List.mem_singleton.mp hq'
    exact tx (n := "path") (by decide) (by decide) d
  | move p t =>
    rcases List.mem_cons.mp hq' with rfl | hq'
    · exact tx (n := "path") (by decide) (by decide) d
    · obtain rfl := List.mem_singleton.mp hq'
      exact tx (n := "target") (by decide) (by decide) d
  | splice p o n =>
    rcases List.mem_cons.mp hq' with rfl | hq'
    · exact tx (n := "path") (by decide) (by decide) d
    · rcases List.mem_cons.mp hq' with rfl | hq'
      · show (isLines o && (!decide (("old" : Str) = "old") || decide (0 < o.length))) = true
        rw [okLn.lines d, decide_eq_true rfl, decide_eq_true (List.length_pos_iff.mpr (h.old p o n rfl))]
        rfl
      · obtain rfl := List.mem_singleton.mp hq'
        exact ln (n := "new") (by decide) d
  | _ => simp [isQ] at hq
abbrev dMenu : List V := [.str "write", .str "write", .str "remove", .str "move", .str "splice", .str "splice"]
def spPart (K : PySem.W.Frag) : Sp := fun vs H Q _ => ∃ (B D t : Addr) (l : List Str), vs = [.ref B, .ref t] ∧ Box H B D ∧ SqT K H t (l.map V.str) ∧ okLn l ∧ ∀ v o H', LinesAt K H' v o → o ≠ [] → okLn o → Kp B H H' → Box H' B D → Q v H'
def spDeed (K : PySem.W.Frag) : Sp := fun vs H Q _ => ∃ (B D d : Addr) (fs : List File), vs = [.ref B, .ref d] ∧ Box H B D ∧ Tab K H d fs ∧ (∀ f ∈ fs, f.1 ∈ lawPaths ∧ okLn f.2) ∧ ∀ v a H', Dt K H' v (dA a) → LawD a → Kp B H H' → Box H' B D → Q v H'
/-- a slice of a tuple of texts: what stands there -/
theorem sl_gen {K : PySem.W.Frag} {H : Hp} {a : Addr} {l : List Str} {i m : Nat} {Q : VK} (sa : SqT K H a (l.map V.str)) (hi : i ≤ l.length)
    (h : ∀ H' t, Same H H' → SqT K H' t (((l.drop i).take m).map V.str) → Q (.ref t) H') : rSlA K (.ref a) (some (i : Int)) (some ((i + m : Nat) : Int)) H Q := by
  have ec : cutV (l.map V.str) (some (i : Int)) (some ((i + m : Nat) : Int)) = ((l.drop i).take m).map V.str := by
    unfold cutV
    rw [HT.sIx_nat, HT.sIx_nat, List.length_map, Nat.min_eq_left hi, ← List.map_drop, ← List.map_take]
    by_cases c : i + m ≤ l.length
    · rw [Nat.min_eq_left c, Nat.add_sub_cancel_left]
    · rw [Nat.min_eq_right (by omega), List.take_of_length_le (by rw [List.length_drop]; exact Nat.le_refl _), List.take_of_length_le (by rw [List.length_drop]; omega)]
  refine ⟨a, _, rfl, sa, fun z => h H a (.refl _) ?_, fun _ p np => h _ p (same_upd np) (sqT (by rw [upd_same, ec]))⟩
  obtain ⟨h1, h2⟩ := z
  rw [HT.sIx_nat, List.length_map] at h1 h2
  have e1 : i = 0 := by omega
  rw [e1, List.drop_zero, List.take_of_length_le (by omega)]
  exact sa
section
variable {P : Program} {w : World} {K : PySem.W.Frag} {mg : Str → Option Value} {base : Heap}
theorem ok_part {f : Addr} {fd : FuncData} (F : Fun K "_law_part" "_law_part" s_L_part f fd) (T : Tx mg) (CD : Cal P w K mg base 1 "_law_draw" ["box", "many"] spDraw) (CL : Cal P w K mg base 2 "_law_line" ["box"] spLine) : FnOk P w K mg base CX0 3 f fd ["box", "lines"] (spPart K) := by
  refine F.ok sc_L_part (fun vs H Q E h => ?_) (fun cdv A outer s H vs Q E hr h => ?_)
  · obtain ⟨B, D, t, l, rfl, _⟩ := h
    rfl
  · obtain ⟨B, D, t, l, rfl, bx, st, ol, q⟩ := h
    refine ⟨_, pss_cons (ps_if (PW.pt (pw_and (pt_cmpR op_gt (pe_callB call_len_seq (by rfl) T.len PySem.boot_len (pa_cons (pv 1) pa_nil)) pe_int (nomark _)) (pw_and1 (pt_cmpR op_gt (pe_cal CD hr pass0 (pa_cons (pv 0) (pa_cons pe_int pa_nil))) pe_int (nomark _)))))
        (pss_cons (ps_set (i := 2) sc_L_part.nd rfl (.inl rfl) (pe_cal CD hr pass0 (pa_cons (pv 0) (pa_cons (pe_callB call_len_seq (by rfl) T.len PySem.boot_len (pa_cons (pv 1) pa_nil)) pa_nil))))
          (pss_one (ps_ret (pe_slice (r := rSlA K) sl_tupA (pv 1) (po_some (pv 2)) (po_some (pe_op op_add (pe_op op_add (pv 2) pe_int) (pe_cal CD hr pass0 (pa_cons (pv 0) (pa_cons pe_int pa_nil))))))))) pss_nil)
      (pss_one (ps_ret (pe_tup (pa_cons (pe_cal CL hr pass0 (pa_cons (pv 0) pa_nil)) pa_nil)))), ?_⟩
    have fin : ∀ H1, Kp B H H1 → Box H1 B D → tRet (tTup (tCons (tCall spLine [] E0 (tCons (tVar 0) tNil)) tNil)) ({ nx := fun _ H' => Q .non H', rt := Q } : Ends) [some (.ref B), some (.ref t), none] H1 := fun H1 kp1 b1 =>
      ⟨_, rfl, B, D, rfl, b1, fun v H2 hv kp2 b2 => ⟨by show 1 ≤ sizeLine; decide, fun u nu => by
        obtain ⟨z, rfl, ho⟩ := hv
        exact q (.ref u) [z] _ ⟨u, rfl, sqT upd_same⟩ (by simp) ⟨by simp, fun y hy => by obtain rfl := List.mem_singleton.mp hy; exact ho⟩ ((kp1.trans kp2).trans (.same (same_upd nu))) (b2.new nu)⟩⟩
    refine ⟨_, rfl, t, _, rfl, .inr st, _, _, rfl, rfl, _, rfl, ?_⟩
    refine ite2 (fun c => ?_) (fun _ => iteF (fin H (.refl _ _) bx))
    have pos : 0 < l.length := by have := of_decide_eq_true c; rw [List.length_map] at this; omega
    refine ⟨_, rfl, B, D, 5, rfl, by decide, bx, fun r H1 r0 r5 kp1 b1 => ⟨_, _, rfl, rfl, _, rfl, ite2 (fun _ => ?_) (fun _ => fin H1 kp1 b1)⟩⟩
    have st1 := (SameT.box kp1 bx).sq st
    refine ⟨_, rfl, _, rfl, t, _, rfl, .inr st1, B, D, _, rfl, by rw [List.length_map]; omega, b1, fun i H2 i0 il kp2 b2 => ?_⟩
    have st2 := (SameT.box kp2 b1).sq st1
    rw [List.length_map] at il
    obtain ⟨n, rfl⟩ := Int.eq_ofNat_of_zero_le i0
    refine ⟨_, rfl, _, rfl, _, rfl, _, rfl, _, _, rfl, rfl, _, rfl, B, D, 2, rfl, by decide, b2, fun j H3 j0 j2 kp3 b3 => ⟨_, _, rfl, rfl, _, rfl, ?_⟩⟩
    obtain ⟨m, rfl⟩ := Int.eq_ofNat_of_zero_le j0
    have ei : (n : Int) + 1 + (m : Int) = ((n + (1 + m) : Nat) : Int) := by omega
    rw [ei]
    refine sl_gen ((SameT.box kp3 b2).sq st2) (by omega) fun H4 u s4 su => ?_
    exact q (.ref u) _ H4 ⟨u, rfl, su⟩ (by
      intro z
      have := congrArg List.length z
      rw [List.length_take, List.length_drop, List.length_nil] at this
      omega) ⟨by rw [List.length_take, List.length_drop]; have := ol.1; omega, fun z hz => ol.2 z (List.mem_of_mem_drop (List.mem_of_mem_take hz))⟩ (((kp1.trans kp2).trans kp3).trans (.same s4)) (b3.same s4)
theorem ok_deed {f : Addr} {fd : FuncData} (F : Fun K "_law_deed" "_law_deed" s_L_deed f fd) (T : Tx mg) (CD : Cal P w K mg base 1 "_law_draw" ["box", "many"] spDraw) (CS : Cal P w K mg base 3 "_law_some_path" ["box", "files"] (spSome K))
    (CL : Cal P w K mg base 3 "_law_lines" ["box", "most"] (spLLines K)) (CP : Cal P w K mg base 3 "_law_part" ["box", "lines"] (spPart K)) : FnOk P w K mg base CX0 4 f fd ["box", "files"] (spDeed K) := by
  refine F.ok sc_L_deed (fun vs H Q E h => ?_) (fun cdv A outer s H vs Q E hr h => ?_)
  · obtain ⟨B, D, d, fs, rfl, _⟩ := h
    rfl
  · obtain ⟨B, D, d, fs, rfl, bx, tb, lf, q⟩ := h
    have lp : ∀ f ∈ fs, f.1 ∈ lawPaths := fun f hf => (lf f hf).1
    refine ⟨_, pss_cons (ps_set (i := 2) sc_L_deed.nd rfl (.inl rfl) (pe_ix (ixL (K := K) rfl) (pe_lst (pa_consts (vs := dMenu) rfl)) (pe_cal CD hr pass0 (pa_cons (pv 0) (pa_cons pe_int pa_nil))) (fun _ _ => rfl)))
      (pss_cons (ps_set (i := 3) sc_L_deed.nd rfl (.inl rfl) (pe_cal CS hr pass0 (pa_cons (pv 0) (pa_cons (pv 1) pa_nil))))
      (pss_cons (ps_if (pt_cmpR op_eq (pv 2) pe_str (nomark _)) (pss_one (ps_ret (pe_tup (pa_cons pe_str (pa_cons (pv 3) (pa_cons (pe_cal CL hr pass0 (pa_cons (pv 0) (pa_cons pe_int pa_nil))) pa_nil)))))) pss_nil)
      (pss_cons (ps_if (pt_cmpR op_eq (pv 2) pe_str (nomark _)) (pss_one (ps_ret (pe_tup (pa_cons pe_str (pa_cons (pv 3) pa_nil))))) pss_nil)
      (pss_cons (ps_if (pt_cmpR op_eq (pv 2) pe_str (nomark _)) (pss_one (ps_ret (pe_tup (pa_cons pe_str (pa_cons (pv 3) (pa_cons (pe_cal CS hr pass0 (pa_cons (pv 0) (pa_cons pe_dnewK pa_nil))) pa_nil)))))) pss_nil)
      (pss_cons (ps_set (i := 4) sc_L_deed.nd rfl (.inl rfl) (pe_tup pa_nil))
      (pss_cons (ps_if (pt_cmp (pc_din (hu_of hr) (pv 3) (pv 1))) (pss_one (ps_set (i := 4) sc_L_deed.nd rfl (.inl rfl) (pe_dget (hu_of hr) (pv 1) (pv 3) (fun _ _ => rfl)))) pss_nil)
      (pss_one (ps_ret (pe_tup (pa_cons pe_str (pa_cons (pv 3) (pa_cons (pe_cal CP hr pass0 (pa_cons (pv 0) (pa_cons (pv 4) pa_nil))) (pa_cons (pe_cal CL hr pass0 (pa_cons (pv 0) (pa_cons pe_int pa_nil))) pa_nil))))))))))))), ?_⟩
    refine pick rfl (by decide) (by decide) rfl bx fun v hv H1 kp1 b1 => ?_
    have tb1 := tb.kp kp1 bx
    refine ⟨_, rfl, _, rfl, B, D, d, fs, rfl, b1, tb1, lp, fun x H2 hx kp2 b2 => ?_⟩
    have tb2 := tb1.kp kp2 b1
    have kp12 := kp1.trans kp2
    have tl : ∀ (u : V) (l : List Str) (H3 : Hp), LinesAt K H3 u l → okLn l → Kp B H2 H3 → Box H3 B D → tRet (tTup (tCons (tC (.str "splice")) (tCons (tVar 3) (tCons (tCall (spPart K) [] E0 (tCons (tVar 0) (tCons (tVar 4) tNil))) (tCons (tCall (spLLines K) [] E0 (tCons (tVar 0) (tCons (tC (.int 3)) tNil))) tNil)))))
        ({ nx := fun _ H' => Q .non H', rt := Q } : Ends) [some (.ref B), some (.ref d), some (.str "splice"), some (.str x), some u] H3 := fun u l H3 lu ol kp3 b3 => by
      obtain ⟨a, rfl, sa⟩ := lu
      refine ⟨_, rfl, _, rfl, _, rfl, B, D, a, l, rfl, b3, sa, ol, fun vo o H4 lo no oo kp4 b4 => ?_⟩
      refine ⟨_, rfl, B, D, 3, rfl, by decide, by decide, b4, fun vn n H5 ln n12 nz kp5 b5 => ⟨by show 4 ≤ sizeLine; decide, fun t nt => ?_⟩⟩
      have lo5 := lo.st (SameT.box kp5 b4)
      refine q _ (.splice x o n) _ (.tup (sqT upd_same) (.cons (.str _) (.cons (.str _) (.cons (dt_lines.mpr (LinesAt.st lo5 (same_upd nt).t)) (.cons (dt_lines.mpr (LinesAt.st ln (same_upd nt).t)) .nil))))) ⟨rfl, fun z hz => ?_, fun p o' n' e => by cases e; exact no⟩ ((((kp12.trans kp3).trans kp4).trans kp5).trans (.same (same_upd nt))) (b5.new nt)
      rcases List.mem_cons.mp hz with rfl | hz
      · exact hx
      rcases List.mem_cons.mp hz with rfl | hz
      · exact oo
      · obtain rfl := List.mem_singleton.mp hz
        exact ⟨n12, nz⟩
    have wr : tTup (tCons (tC (.str "write")) (tCons (tVar 3) (tCons (tCall (spLLines K) [] E0 (tCons (tVar 0) (tCons (tC (.int 4)) tNil))) tNil))) [some (.ref B), some (.ref d), some (.str "write"), some (.str x), none] H2 Q :=
      ⟨_, rfl, _, rfl, B, D, 4, rfl, by decide, by decide, b2, fun vn n H5 ln n12 nz kp5 b5 => ⟨by show 3 ≤ sizeLine; decide, fun t nt => by
        refine q _ (.write x n) _ (.tup (sqT upd_same) (.cons (.str _) (.cons (.str _) (.cons (dt_lines.mpr (LinesAt.st ln (same_upd nt).t)) .nil)))) ⟨rfl, fun z hz => ?_, fun p o' n' e => nomatch e⟩ ((kp12.trans kp5).trans (.same (same_upd nt))) (b5.new nt)
        rcases List.mem_cons.mp hz with rfl | hz
        · exact hx
        · obtain rfl := List.mem_singleton.mp hz
          exact ⟨n12, nz⟩⟩⟩
    have sp : tSeq (tAsg (tTup tNil) (gName 4)) (tSeq (tIfS (tB (tDIn (tVar 3) (tVar 1))) (tAsg (tDGet (tVar 1) (tVar 3)) (gName 4)) tNext) (tRet (tTup (tCons (tC (.str "splice")) (tCons (tVar 3) (tCons (tCall (spPart K) [] E0 (tCons (tVar 0) (tCons (tVar 4) tNil))) (tCons (tCall (spLLines K) [] E0 (tCons (tVar 0) (tCons (tC (.int 3)) tNil))) tNil)))))))
        ({ nx := fun _ H' => Q .non H', rt := Q } : Ends) [some (.ref B), some (.ref d), some (.str "splice"), some (.str x), none] H2 := by
      refine ⟨by show 0 ≤ sizeLine; decide, fun u nu => ?_⟩
      have s3 : Same H2 (upd H2 u (.tup [])) := same_upd nu
      have tb3 := tb2.same s3
      cases e : getF fs x with
      | none =>
        refine (etInD (i := 3) (j := 1) (σ := [some (.ref B), some (.ref d), some (.str "splice"), some (.str x), some (.ref u)]) rfl rfl tb3).no (by rw [e]; rfl) fun H4 s4 => iteF ?_
        exact tl (.ref u) [] H4 ⟨u, rfl, s4.seqT (sqT upd_same)⟩ ⟨by simp, fun z hz => nomatch hz⟩ (.same (s3.trans s4)) (b2.same (s3.trans s4))
      | some l =>
        refine (etInD (i := 3) (j := 1) (σ := [some (.ref B), some (.ref d), some (.str "splice"), some (.str x), some (.ref u)]) rfl rfl tb3).yes (by rw [e]; rfl) fun H4 s4 => iteT ?_
        obtain ⟨v, dg, lv⟩ := tab_get (tb3.same s4) (getF_in e)
        exact ⟨_, rfl, _, rfl, d, v, rfl, dg, tl v l H4 lv (lf _ (getF_in e)).2 (.same (s3.trans s4)) (b2.same (s3.trans s4))⟩
    simp only [dMenu, List.mem_cons, List.not_mem_nil, or_false] at hv
    rcases hv with rfl | rfl | rfl | rfl | rfl | rfl
    · exact ⟨_, rfl, rfl, _, rfl, iteT wr⟩
    · exact ⟨_, rfl, rfl, _, rfl, iteT wr⟩
    · refine ⟨_, rfl, rfl, _, rfl, iteF ⟨_, rfl, rfl, _, rfl, iteT ⟨_, rfl, by show 2 ≤ sizeLine; decide, fun t nt => ?_⟩⟩⟩
      refine q _ (.remove x) _ (dt2 (sqT upd_same) (.str _) (.str _)) ⟨rfl, fun z hz => ?_, fun p o' n' e => nomatch e⟩ (kp12.trans (.same (same_upd nt))) (b2.new nt)
      obtain rfl := List.mem_singleton.mp hz
      exact hx
    · refine ⟨_, rfl, rfl, _, rfl, iteF ⟨_, rfl, rfl, _, rfl, iteF ⟨_, rfl, rfl, _, rfl, iteT ⟨_, rfl, _, rfl, fun u nu => ?_⟩⟩⟩⟩
      refine ⟨B, D, u, [], rfl, b2.new nu, ⟨[], upd_same, .nil, List.nodup_nil, by decide⟩, (fun _ h => nomatch h), fun y H3 hy kp3 b3 => ⟨by show 3 ≤ sizeLine; decide, fun t nt => ?_⟩⟩
      refine q _ (.move x y) _ (.tup (sqT upd_same) (.cons (.str _) (.cons (.str _) (.cons (.str _) .nil)))) ⟨rfl, fun z hz => ?_, fun p o' n' e => nomatch e⟩ ((kp12.trans ((Kp.same (same_upd nu)).trans kp3)).trans (.same (same_upd nt))) (b3.new nt)
      rcases List.mem_cons.mp hz with rfl | hz
      · exact hx
      · obtain rfl := List.mem_singleton.mp hz
        exact hy
    · exact ⟨_, rfl, rfl, _, rfl, iteF ⟨_, rfl, rfl, _, rfl, iteF ⟨_, rfl, rfl, _, rfl, iteF sp⟩⟩⟩
    · exact ⟨_, rfl, rfl, _, rfl, iteF ⟨_, rfl, rfl, _, rfl, iteF ⟨_, rfl, rfl, _, rfl, iteF sp⟩⟩⟩
end
end KX

set_option maxRecDepth 100000
set_option maxHeartbeats 4000000
/-! Lk: the law's spots and refusals. -/
namespace KX
open PySem PySem.Spec PyProof.Rows L2 TL Ga NdefX
theorem lenK {X : Cx} {K : PySem.W.Frag} (h : X.K = K) : CallR X (.builtin "len") (rLenS K) := by
  subst h
  exact call_len_seq
theorem FnOk.or {P : Program} {w : World} {K : PySem.W.Frag} {mg : Str → Option Value} {base : Heap} {CX : CXT} {k : Nat} {f : Addr} {fd : FuncData} {ps : List Str} {sp sp' : Sp} (F : FnOk P w K mg base CX k f fd ps sp) (G : FnOk P w K mg base CX k f fd ps sp') :
    FnOk P w K mg base CX k f fd ps fun vs H Q E => sp vs H Q E ∨ sp' vs H Q E :=
  ⟨fun vs H Q E q => q.elim (F.len vs H Q E) (G.len vs H Q E), fun A outer s H args us vs Q E hr he hb hv hs => hs.elim (F.run A outer s H args us vs Q E hr he hb hv) (G.run A outer s H args us vs Q E hr he hb hv)⟩
def blockedS (l : List Str) (x : Str) : Bool := l.any fun z => !decide (z = x) && (inside z x || inside x z)
def spBlkL (K : PySem.W.Frag) : Sp := fun vs H Q _ => ∃ (a : Addr) (x : Str) (l : List Str), vs = [.ref a, .str x] ∧ SqL K H a (l.map V.str) ∧ (tl x).length ≤ 1000 ∧ (∀ z ∈ l, (tl z).length ≤ 1000) ∧ ∀ H', Same H H' → Q (.bl (blockedS l x)) H'
def spBlk (K : PySem.W.Frag) : Sp := fun vs H Q E => spBlocked K vs H Q E ∨ spBlkL K vs H Q E
/-- why a deed is refused -/
def refM (fs : List File) : Act → Str
  | .write p l => if blocked fs p = true then "blocked" else if getF fs p = none ∧ fs.length = 20 then "full" else ""
  | .remove p => if getF fs p = none then "missing" else ""
  | .move p t => if getF fs p = none then "missing" else if t ∈ (dropFs fs p).map (·.1) ∨ blockedS ((dropFs fs p).map (·.1)) t = true then "blocked" else ""
  | .splice p o n => if getF fs p = none then "missing" else if (spotsF ((getF fs p).getD []) o).length ≠ 1 then (if spotsF ((getF fs p).getD []) o = [] then "absent" else "ambiguous") else if 12 + o.length < ((getF fs p).getD []).length + n.length then "long" else ""
  | _ => ""
def spRef (K : PySem.W.Frag) : Sp := fun vs H Q _ => ∃ (d : Addr) (v : V) (a : Act) (fs : List File), vs = [.ref d, v] ∧ Tab K H d fs ∧ LawF fs ∧ Dt K H v (dA a) ∧ LawD a ∧ ∀ H', Same H H' → Q (.str (refM fs a)) H'
section
variable {P : Program} {w : World} {K : PySem.W.Frag} {mg : Str → Option Value} {base : Heap}
theorem ok_blkL {f : Addr} {fd : FuncData} (F : Fun K "_law_blocked" "_law_blocked" sBlocked f fd) (T : Tx mg) (CI : Cal P w K mg base 1 "_law_inside" ["path", "place"] spInside) :
    FnOk P w K mg base CX0 2 f fd ["files", "path"] (spBlkL K) := by
  obtain ⟨fI, fdI, GI, gI, kI, bI⟩ := CI.ex
  refine F.ok scBlocked (fun vs H Q E h => ?_) (fun cdv A outer s H vs Q E hr h => ?_)
  · obtain ⟨d, x, l, rfl, _⟩ := h
    rfl
  · obtain ⟨a, x, l, rfl, sa, hx, hl, q⟩ := h
    refine ⟨_, pss_cons (ps_for PassesOwn.never rfl (piL (K := K) rfl (pv 0)) (pg_name (i := 2) scBlocked.nd rfl (Or.inl rfl))
        (pss_one (ps_if (PW.pt (pw_and (pt_cmpR op_ne (pv 2) (pv 1) (nomark _)) (pw_and1 (PW.pt (pw_or
          (pt_val (pe_call GI hr (by rfl) gI kI bI .nil pass0 (pa_cons (pv 2) (pa_cons (pv 1) pa_nil)))) (pw_or1 (pt_val (pe_call GI hr (by rfl) gI kI bI .nil pass0 (pa_cons (pv 1) (pa_cons (pv 2) pa_nil)))))))))) (pss_one (ps_ret pe_bl)) pss_nil)))
      (pss_one (ps_ret pe_bl)), ?_⟩
    refine ⟨_, rfl, a, rfl, ⟨_, sa⟩, ?_⟩
    refine for_it (same_walkL sa) (fun i σ H' => Same H H' ∧ (l.take i).any (fun z => !decide (z = x) && (inside z x || inside x z)) = false ∧ ∃ o, σ = [some (.ref a), some (.str x), o]) ⟨.refl _, rfl, none, rfl⟩ (fun _ _ _ _ h => h.1) ?_ ?_
    · rintro i c σ H1 H2 hi ⟨s1, hb, o, rfl⟩ ⟨rfl, hc⟩
      rw [List.getElem?_map] at hc
      cases hk : l[i]? with
      | none => rw [hk] at hc; cases hc
      | some z =>
      rw [hk] at hc
      have ec : c = V.str z := (Option.some.inj hc).symm
      subst ec
      have hz := hl z (List.mem_of_getElem? hk)
      refine EvT.go (etAnd (etNe rfl rfl) (etOr (etVal (evIns rfl rfl hz hx)) (etVal (evIns rfl rfl hx hz)))) fun H3 s3 => ?_
      refine ite2 (fun e => ?_) (fun e => ?_)
      · have r := q _ (s1.trans s3)
        have : blockedS l x = true := List.any_eq_true.mpr ⟨z, List.mem_of_getElem? hk, e⟩
        rw [this] at r
        exact r
      · refine ⟨s1.trans s3, ?_, _, rfl⟩
        rw [any_take hk, hb, Bool.false_or]
        exact Bool.eq_false_iff.mpr e
    · rintro σ H1 ⟨s1, hb, o, rfl⟩
      rw [List.length_map, List.take_length] at hb
      have r := q _ s1
      rw [blockedS, hb] at r
      exact r
theorem ok_spots {f : Addr} {fd : FuncData} (F : Fun K "_law_spots" "_law_spots" s_L_spots f fd) (T : Tx mg) : FnOk P w K mg base CX0 1 f fd ["lines", "old"] (spPlaces K) := by
  refine F.ok sc_L_spots (fun vs H Q E h => ?_) (fun cdv A outer s H vs Q E hr h => ?_)
  · obtain ⟨a, b, l, o, rfl, _⟩ := h
    rfl
  · obtain ⟨a, b, l, o, rfl, sa, sb, hl, ho, okl, oko, q⟩ := h
    refine ⟨_, pss_one (ps_ret (pe_lc (own := [("k", 2)]) rfl sc_L_spots.nd (pi_range1 (by rfl) T.range (pa_cons (pe_op op_add (pe_op op_sub (pe_callB call_len_seq (by rfl) T.len PySem.boot_len (pa_cons (pv 0) pa_nil)) (pe_callB call_len_seq (by rfl) T.len PySem.boot_len (pa_cons (pv 1) pa_nil))) pe_int) pa_nil))
        (blkOk_by (N := n_L_spots) (sc := defScope s_L_spots) (by decide +kernel)) (fun _ _ _ _ _ => pg_name (i := 2) sc_L_spots.nd rfl (Or.inl rfl))
        (fun _ _ _ _ _ => pts_one (pt_cmpR (op_eqDK (K := K) rfl hr.units) (pe_slice (r := rSlA K) sl_tupA (pv 0) (po_some (pv 2)) (po_some (pe_op op_add (pv 2) (pe_callB (lenK (K := K) rfl) (by rfl) T.len PySem.boot_len (pa_cons (pv 1) pa_nil))))) (pv 1) (nomark _))) (fun _ _ _ _ _ => pv 2))), ?_⟩
    refine ⟨_, rfl, a, _, rfl, .inr sa, _, rfl, b, _, rfl, .inr sb, ?_⟩
    have eN : ((l.map V.str).length - (o.map V.str).length + 1 : Int).toNat = l.length + 1 - o.length := by
      rw [List.length_map, List.length_map]
      omega
    refine ⟨_, _, rfl, rfl, _, _, rfl, rfl, _, rfl, ?_, ?_, fun D nD => ?_⟩
    · rw [List.length_map, List.length_map]; omega
    · rw [List.length_map, List.length_map]; omega
    rw [eN]
    refine lc_rel (R := fun _ i y => y = V.int (i : Nat)) (as := List.range (l.length + 1 - o.length)) (p := fun i => decide ((l.drop i).take o.length = o)) nD walk_rng (by simp) (by simp; omega) (fun _ h => h) (fun i c k hc hk H2 Rk Rn s2 k1 k2 => ?_) fun H2 ys s2 e2 pr => ?_
    · have hi : i < l.length + 1 - o.length := by
        have := (List.getElem?_eq_some_iff.mp hk).1
        rwa [List.length_range] at this
      rw [List.getElem?_range hi] at hk
      cases hk
      rw [List.getElem?_map, List.getElem?_range hi] at hc
      cases hc
      refine ⟨by rfl, ?_⟩
      refine ⟨_, rfl, _, rfl, _, rfl, _, rfl, _, rfl, b, _, rfl, .inr (s2.seqT sb), _, _, rfl, rfl, _, rfl, ?_⟩
      have e1 : (0 + (i : Nat) : Int) = ((i : Nat) : Int) := by omega
      have e2 : ((i : Nat) : Int) + ((o.map V.str).length : Nat) = ((i + o.length : Nat) : Int) := by rw [List.length_map]; omega
      rw [e1, e2]
      refine sl_strs (s2.seqT sa) (by omega) fun H3 t s3 st => ?_
      refine ⟨_, rfl, _, _, .tup st (dpAll_strs _), .tup ((s2.trans s3).seqT sb) (dpAll_strs _), shaped_tstrs fun z hz => okl z (List.mem_of_mem_drop (List.mem_of_mem_take hz)), shaped_tstrs oko, _, rfl, ?_⟩
      rw [show PyData.eqv (.tuple (((l.drop i).take o.length).map PyData.str)) (.tuple (o.map PyData.str)) = PyData.eqvAll (((l.drop i).take o.length).map PyData.str) (o.map PyData.str) from rfl, eqvAll_strs]
      refine ite2 (fun e => ?_) (fun e => ?_)
      · exact ⟨.int (0 + (i : Nat)), rfl, k1 _ H3 e s3 (by rw [e1])⟩
      · exact k2 H3 (Bool.eq_false_iff.mpr e) s3
    · refine q H2 D s2 nD ?_
      rw [e2]
      rw [paired_map (f := fun i : Nat => V.int (i : Nat)) pr]
      rfl
end
end KX

set_option maxRecDepth 100000
set_option maxHeartbeats 4000000
/-! Ll: why the law refuses a deed. -/
namespace KX
open PySem PySem.Spec PyProof.Rows L2 TL Ga NdefX
section
variable {K : PySem.W.Frag} {H : Hp} {σ : L2.St} {Q : VK} {d u : Addr} {x : Str} {fs : List File} {i j : Nat} {te : TE}
theorem pick2 {a b : Str} {c : Bool} (h : EvS te σ H (.bl c)) (q : ∀ H', Same H H' → Q (.str (if c = true then b else a)) H') :
    tOp (rIxL K) (tLst (tCons (tC (.str a)) (tCons (tC (.str b)) tNil))) (tCB (fun xs H Q => (∃ i, xs = [.int i] ∧ Q (.int i) H) ∨ ∃ k, xs = [.bl k] ∧ Q (.int (if k = true then 1 else 0)) H) (tCons te tNil)) σ H Q := by
  refine ⟨by show 2 ≤ sizeLine; decide, fun l nl => ?_⟩
  have s1 : Same H (upd H l (.lst [.str a, .str b])) := same_upd nl
  refine h _ s1 _ fun H2 s2 => .inr ⟨c, rfl, ?_⟩
  have hl : SqL K H2 l [.str a, .str b] := s2.seq (sqL upd_same)
  have r := q H2 (s1.trans s2)
  cases c with
  | true => exact ⟨l, _, _, .str b, rfl, rfl, hl, at_of (j := 1) rfl rfl, r⟩
  | false => exact ⟨l, _, _, .str a, rfl, rfl, hl, at_of (j := 0) rfl rfl, r⟩
theorem evNotIn (h1 : σ[i]? = some (some (.str x))) (h2 : σ[j]? = some (some (.ref d))) (tb : Tab K H d fs) : EvS (tDNotIn (tVar i) (tVar j)) σ H (.bl (decide (getF fs x = none))) := fun H1 s Q k => by
  obtain ⟨kvs, hd, pr, nd, hl⟩ := tb.same s
  refine ⟨_, h1, _, h2, d, _, rfl, DGet.k (k := .inr x) hd, ?_⟩
  have : (!(valV kvs (.inr x)).isSome) = decide (getF fs x = none) := by
    rcases val_opt pr (x := x) with ⟨a, b⟩ | ⟨l, v, a, b, _⟩ <;> rw [a, b] <;> rfl
  rw [this]
  exact k H1 (.refl _)
theorem evLenD {n : Nat} (h : σ[i]? = some (some (.ref d))) (tb : Tab K H d fs) : EvS (tOp rEq (tCB (fun xs H Q => ∃ a kvs, xs = [V.ref a] ∧ H a = some (.dK kvs) ∧ Q (.int kvs.length) H) (tCons (tVar i) tNil)) (tC (.int (n : Nat)))) σ H (.bl (decide (fs.length = n))) := fun H1 s Q k => by
  obtain ⟨kvs, hd, pr, nd, hl⟩ := tb.same s
  refine ⟨_, h, d, kvs, rfl, hd, rfl, ?_⟩
  have : decide (V.int (kvs.length : Nat) = V.int (n : Nat)) = decide (fs.length = n) := decide_eq_decide.mpr (by
    rw [pr.length]
    exact ⟨fun z => by have := V.int.inj z; omega, fun z => by rw [z]⟩)
  rw [this]
  exact k H1 (.refl _)
end
theorem dp_ints {K : PySem.W.Frag} {H : Hp} : ∀ l : List Nat, DpAll K H (l.map fun i => V.int (i : Nat)) (l.map fun i => PyData.int (i : Nat))
  | [] => .nil
  | i :: r => .cons (.int _) (dp_ints r)
theorem shaped_ints (l : List Nat) : SeqAt.shaped (.list (l.map fun i => PyData.int (i : Nat))) = true := by
  unfold SeqAt.shaped
  have h1 : PyData.canLayAll0 (l.map fun i => PyData.int (i : Nat)) = true := by
    induction l with
    | nil => rfl
    | cons i r ih => exact ih
  have h2 : PyData.depthAll (l.map fun i => PyData.int (i : Nat)) = 0 := by
    induction l with
    | nil => rfl
    | cons i r ih =>
      show max 0 (PyData.depthAll (r.map fun i => PyData.int (i : Nat))) = 0
      have h1' : PyData.canLayAll0 (r.map fun i => PyData.int (i : Nat)) = true := h1
      rw [ih h1']
      rfl
  rw [show PyData.canLay0 (.list (l.map fun i => PyData.int (i : Nat))) = PyData.canLayAll0 (l.map fun i => PyData.int (i : Nat)) from rfl, h1,
    show PyData.depth (.list (l.map fun i => PyData.int (i : Nat))) = PyData.depthAll (l.map fun i => PyData.int (i : Nat)) + 1 from rfl, h2]
  rfl
theorem lawD_head {a : Act} (h : LawD a) : ∃ x r, a.parts.map (fun q => dI q.2) = .str x :: r ∧ x ∈ lawPaths := by
  have hq := h.q
  cases a with
  | write p l => exact ⟨p, _, rfl, h.parts ("path", .tx p) List.mem_cons_self⟩
  | remove p => exact ⟨p, _, rfl, h.parts ("path", .tx p) List.mem_cons_self⟩
  | move p t => exact ⟨p, _, rfl, h.parts ("path", .tx p) List.mem_cons_self⟩
  | splice p o n => exact ⟨p, _, rfl, h.parts ("path", .tx p) List.mem_cons_self⟩
  | _ => simp [isQ] at hq
section
variable {P : Program} {w : World} {K : PySem.W.Frag} {mg : Str → Option Value} {base : Heap}
theorem ok_refusal {f : Addr} {fd : FuncData} (F : Fun K "_law_refusal" "_law_refusal" s_L_refusal f fd) (T : Tx mg) (CB : Cal P w K mg base 2 "_law_blocked" ["files", "path"] (spBlk K)) (CS : Cal P w K mg base 1 "_law_spots" ["lines", "old"] (spPlaces K)) :
    FnOk P w K mg base CX0 3 f fd ["files", "action"] (spRef K) := by
  refine F.ok sc_L_refusal (fun vs H Q E h => ?_) (fun cdv A outer s H vs Q E hr h => ?_)
  · obtain ⟨d, v, a, fs, rfl, _⟩ := h
    rfl
  · obtain ⟨d, v, a, fs, rfl, tb, lf, hd, ld, q⟩ := h
    refine ⟨_, pss_cons (ps_set (i := 2) sc_L_refusal.nd rfl (.inr rfl) (pe_ix (ixT (K := K) rfl) (pv 1) pe_int (fun _ _ => rfl)))
      (pss_cons (ps_if (pt_cmpR op_eq (pe_ix (ixT (K := K) rfl) (pv 1) pe_int (fun _ _ => rfl)) pe_str (nomark _))
        (pss_cons (ps_if (pt_val (pe_cal CB hr pass0 (pa_cons (pv 0) (pa_cons (pv 2) pa_nil)))) (pss_one (ps_ret pe_str)) pss_nil)
          (pss_one (ps_ret (pe_ix (ixL (K := K) rfl) (pe_lst (pa_cons pe_str (pa_cons pe_str pa_nil))) (pe_callTy call_int1 (by rfl) T.int (by decide +kernel)
            (pa_cons (pe_and (pe_cmp (pc_dnotin (hu_of hr) (pv 2) (pv 0))) (pe_one (pe_cmpR op_eq (pe_callB call_lenD (by rfl) T.len PySem.boot_len (pa_cons (pv 0) pa_nil)) pe_int (nomark _)))) pa_nil)) (fun _ _ => rfl))))) pss_nil)
      (pss_cons (ps_if (pt_cmp (pc_dnotin (hu_of hr) (pv 2) (pv 0))) (pss_one (ps_ret pe_str)) pss_nil)
      (pss_cons (ps_if (pt_cmpR op_eq (pe_ix (ixT (K := K) rfl) (pv 1) pe_int (fun _ _ => rfl)) pe_str (nomark _))
        (pss_cons (ps_lock (ps_setLc (i := 3) (own := [("other", 4)]) rfl sc_L_refusal.nd rfl rfl (sw_true rfl rfl rfl (by decide +kernel)) (pi_keys (pv 0)) (blkOk_by (N := n_L_refusal) (sc := defScope s_L_refusal) (by decide +kernel))
            (fun _ _ _ _ _ => pg_name (i := 4) sc_L_refusal.nd rfl (Or.inl rfl)) (fun _ _ _ _ _ => pts_one (pt_cmpR op_ne (pv 4) (pv 2) (nomark _))) (fun _ _ _ _ _ => pv 4)))
          (pss_one (ps_if (PW.pt (pw_or (pt_cmpR op_in_seq (pe_ix (ixT (K := K) rfl) (pv 1) pe_int (fun _ _ => rfl)) (pv 3) (by rfl)) (pw_or1 (pt_val (pe_cal CB hr pass0 (pa_cons (pv 3) (pa_cons (pe_ix (ixT (K := K) rfl) (pv 1) pe_int (fun _ _ => rfl)) pa_nil)))))))
            (pss_one (ps_ret pe_str)) pss_nil))) pss_nil)
      (pss_cons (ps_if (pt_cmpR op_eq (pe_ix (ixT (K := K) rfl) (pv 1) pe_int (fun _ _ => rfl)) pe_str (nomark _))
        (pss_cons (ps_set (i := 5) sc_L_refusal.nd rfl (.inl rfl) (pe_cal CS hr pass0 (pa_cons (pe_dget (hu_of hr) (pv 0) (pv 2) (fun _ _ => rfl)) (pa_cons (pe_ix (ixT (K := K) rfl) (pv 1) pe_int (fun _ _ => rfl)) pa_nil))))
          (pss_cons (ps_if (pt_cmpR op_ne (pe_callB call_len_seq (by rfl) T.len PySem.boot_len (pa_cons (pv 5) pa_nil)) pe_int (nomark _))
            (pss_one (ps_ret (pe_ix (ixL (K := K) rfl) (pe_lst (pa_cons pe_str (pa_cons pe_str pa_nil))) (pe_callTy call_int1 (by rfl) T.int (by decide +kernel) (pa_cons (pe_cmpR (op_eqD hr.units) (pv 5) (pe_lst pa_nil) (nomark _)) pa_nil)) (fun _ _ => rfl)))) pss_nil)
          (pss_one (ps_if (pt_cmpR op_gt (pe_op op_add (pe_op op_sub (pe_callB call_len_seq (by rfl) T.len PySem.boot_len (pa_cons (pe_dget (hu_of hr) (pv 0) (pv 2) (fun _ _ => rfl)) pa_nil))
              (pe_callB call_len_seq (by rfl) T.len PySem.boot_len (pa_cons (pe_ix (ixT (K := K) rfl) (pv 1) pe_int (fun _ _ => rfl)) pa_nil)))
              (pe_callB call_len_seq (by rfl) T.len PySem.boot_len (pa_cons (pe_ix (ixT (K := K) rfl) (pv 1) pe_int (fun _ _ => rfl)) pa_nil))) pe_int (nomark _)) (pss_one (ps_ret pe_str)) pss_nil)))) pss_nil)
      (pss_one (ps_ret pe_str)))))), ?_⟩
    obtain ⟨t, vs, rfl, st, dl⟩ := act_parts hd
    obtain ⟨x, r, er, hx⟩ := lawD_head ld
    have hx2 : (tl x).length ≤ 1000 := Nat.le_trans (pth hx).text.1 (by decide)
    have fz : ∀ f ∈ fs, (tl f.1).length ≤ 1000 := fun f hf => Nat.le_trans (pth (lf.each f hf).1).text.1 (by decide)
    have ev : ∃ v2, vs = .str x :: v2 := by
      rw [er] at dl
      cases dl with
      | cons a b => exact ⟨_, by rw [a.strE]⟩
    obtain ⟨v2, ev⟩ := ev
    refine ⟨_, rfl, t, _, 1, .str x, rfl, rfl, st, by rw [ev]; exact at_of (j := 1) rfl rfl, ?_⟩
    have hq := ld.q
    cases a with
    | write p l =>
      obtain rfl : p = x := by cases er; rfl
      refine tWordY rfl st rfl (iteT ?_)
      refine ⟨_, rfl, _, rfl, .inl ⟨d, p, fs, rfl, tb, hx2, fz, fun H1 s1 => ⟨_, rfl, ite2 (fun b => ?_) (fun b => ?_)⟩⟩⟩
      · have := q H1 s1
        rw [refM, if_pos b] at this
        exact this
      · refine pick2 (evAnd (evNotIn (i := 2) (j := 0) (σ := [some (.ref d), some (.ref t), some (.str p), none, none, none]) rfl rfl (tb.same s1)) (evLenD (n := 20) rfl (tb.same s1))) fun H' s' => ?_
        have := q H' (s1.trans s')
        rw [refM, if_neg b] at this
        have e : (if (decide (getF fs p = none) && decide (fs.length = 20)) = true then ("full" : Str) else "") = if getF fs p = none ∧ fs.length = 20 then ("full" : Str) else ("" : Str) := by
          by_cases c : getF fs p = none <;> by_cases c2 : fs.length = 20 <;> simp [c, c2]
        show Q (V.str _) H'
        rw [e]
        exact this
    | remove p =>
      obtain rfl : p = x := by cases er; rfl
      refine tWordN rfl st (by show ("remove" : Str) ≠ "write"; decide) (iteF ?_)
      refine EvT.go (etVal (evNotIn (i := 2) (j := 0) (σ := [some (.ref d), some (.ref t), some (.str p), none, none, none]) rfl rfl tb)) fun H1 s1 => ite2 (fun b => ?_) (fun b => ?_)
      · have := q H1 s1
        rw [refM, if_pos (of_decide_eq_true b)] at this
        exact this
      · refine tWordN (σ := [some (.ref d), some (.ref t), some (.str p), none, none, none]) (i := 1) rfl (s1.seqT st) (by show ("remove" : Str) ≠ "move"; decide) (iteF ?_)
        refine tWordN (σ := [some (.ref d), some (.ref t), some (.str p), none, none, none]) (i := 1) rfl (s1.seqT st) (by show ("remove" : Str) ≠ "splice"; decide) (iteF ?_)
        have := q H1 s1
        rw [refM, if_neg (fun z => b (decide_eq_true z))] at this
        exact this
    | move p t2 =>
      obtain rfl : p = x := by cases er; rfl
      refine tWordN rfl st (by show ("move" : Str) ≠ "write"; decide) (iteF ?_)
      refine EvT.go (etVal (evNotIn (i := 2) (j := 0) (σ := [some (.ref d), some (.ref t), some (.str p), none, none, none]) rfl rfl tb)) fun H1 s1 => ite2 (fun b => ?_) (fun b => ?_)
      · have := q H1 s1
        rw [refM, if_pos (of_decide_eq_true b)] at this
        exact this
      · have nb : ¬ getF fs p = none := fun z => b (decide_eq_true z)
        have ht2 : t2 ∈ lawPaths := ld.parts ("target", .tx t2) (List.mem_cons_of_mem _ List.mem_cons_self)
        have hy2 : (tl t2).length ≤ 1000 := Nat.le_trans (pth ht2).text.1 (by decide)
        obtain rfl : vs = [.str p, .str t2] := by
          obtain ⟨u, v, e, d1, d2⟩ := dtl2 dl
          rw [e, d1.strE, d2.strE]
        refine tWordY (σ := [some (.ref d), some (.ref t), some (.str p), none, none, none]) (i := 1) rfl (s1.seqT st) rfl (iteT ?_)
        obtain ⟨kvs, hdk, pr, nd, hl⟩ := tb.same s1
        refine ⟨d, _, hdk, trivial, fun od => ?_⟩
        refine ⟨_, rfl, d, od, rfl, .inl ⟨kvs, upd_same, fun D nD => ?_⟩⟩
        refine lc_rel (R := fun _ (f : File) y => y = V.str f.1) (as := fs) (p := fun f => decide (f.1 ≠ p)) nD (same_walkK upd_same) (by rw [List.length_map]; exact pr.length.symm) (by rw [List.length_map, ← pr.length]; omega) (fun _ h => h) (fun i c f hc hf H2 Rk Rn s2 k1 k2 => ?_) fun H2 ys s2 e2 pr2 => ?_
        · rw [List.getElem?_map] at hc
          obtain ⟨kv, hkv, rk⟩ := paired_get pr i f hf
          rw [hkv] at hc
          have ec : c = V.str f.1 := by
            have : kV kv.1 = c := Option.some.inj hc
            rw [← this, rk.1]
            rfl
          subst ec
          refine ⟨by rfl, EvT.go (etNe rfl rfl) fun H3 s3 => ite2 (fun z => ?_) (fun z => ?_)⟩
          · exact ⟨_, rfl, k1 _ H3 (by rw [decide_not]; exact z) s3 rfl⟩
          · exact k2 H3 (by rw [decide_not]; exact Bool.eq_false_iff.mpr z) s3
        · have ey : ys = (((dropFs fs p).map (·.1)).map V.str) := by
            rw [paired_map (f := fun f : File => V.str f.1) pr2, List.map_map]
            rfl
          subst ey
          have f2 : H2 d = some (.frz od (.dK kvs)) := s2 _ _ upd_same
          have nDd : D ≠ d := fun y => by rw [y, upd_same] at nD; cases nD
          have sU : Same H1 (upd H2 d (.dK kvs)) := unlock s2 hdk
          have sD : SqL K (upd H2 d (.dK kvs)) D (((dropFs fs p).map (·.1)).map V.str) := sqL (by rw [upd_ne nDd]; exact e2)
          have sT := (s1.trans sU).seqT st
          refine ⟨f2, ?_⟩
          have rq : ∀ H', Same (upd H2 d (.dK kvs)) H' → Q (.str (refM fs (.move p t2))) H' := fun H' s' => q H' ((s1.trans sU).trans s')
          rw [refM, if_neg nb] at rq
          refine ⟨_, rfl, t, _, 2, .str t2, rfl, rfl, sT, at_of (j := 2) rfl rfl, _, rfl, D, _, rfl, .inl sD, rfl, flat_strs _, _, rfl, ?_⟩
          rw [if_neg Bool.false_ne_true, inV_str]
          refine ite2 (fun z => ?_) (fun z => ?_)
          · refine iteT ?_
            have := rq _ (.refl _)
            rw [if_pos (.inl (of_decide_eq_true z))] at this
            exact this
          · refine ⟨_, rfl, _, rfl, t, _, 2, .str t2, rfl, rfl, sT, at_of (j := 2) rfl rfl, .inr ⟨D, t2, _, rfl, sD, hy2, fun y hy => ?_, fun H3 s3 => ⟨_, rfl, ite2 (fun z2 => ?_) (fun z2 => ?_)⟩⟩⟩
            · obtain ⟨f, hf, rfl⟩ := List.mem_map.mp hy
              exact fz f (List.mem_filter.mp hf).1
            · have := rq H3 s3
              rw [if_pos (.inr z2)] at this
              exact this
            · refine tWordN (i := 1) rfl ((sU.trans s3).seqT (s1.seqT st)) (by show ("move" : Str) ≠ "splice"; decide) (iteF ?_)
              have := rq H3 s3
              rw [if_neg (fun y => y.elim (fun y => z (decide_eq_true y)) z2)] at this
              exact this
    | splice p o n =>
      obtain rfl : p = x := by cases er; rfl
      refine tWordN rfl st (by show ("splice" : Str) ≠ "write"; decide) (iteF ?_)
      refine EvT.go (etVal (evNotIn (i := 2) (j := 0) (σ := [some (.ref d), some (.ref t), some (.str p), none, none, none]) rfl rfl tb)) fun H1 s1 => ite2 (fun b => ?_) (fun b => ?_)
      · have := q H1 s1
        rw [refM, if_pos (of_decide_eq_true b)] at this
        exact this
      · have nb : ¬ getF fs p = none := fun z => b (decide_eq_true z)
        obtain ⟨l, e⟩ : ∃ l, getF fs p = some l := Option.ne_none_iff_exists'.mp nb
        obtain ⟨u, v, w2, rfl, d1, d2, d3⟩ := dtl3 dl
        obtain rfl := d1.strE
        obtain ⟨bo, rfl, qo⟩ := dt_lines.mp d2
        obtain ⟨bn, rfl, qn⟩ := dt_lines.mp d3
        have oo : okLn o := ld.parts ("old", .ln o) (List.mem_cons_of_mem _ List.mem_cons_self)
        have on : okLn n := ld.parts ("new", .ln n) (List.mem_cons_of_mem _ (List.mem_cons_of_mem _ List.mem_cons_self))
        have ol : okLn l := (lf.each _ (getF_in e)).2
        refine tWordN (σ := [some (.ref d), some (.ref t), some (.str p), none, none, none]) (i := 1) rfl (s1.seqT st) (by show ("splice" : Str) ≠ "move"; decide) (iteF ?_)
        refine tWordY (σ := [some (.ref d), some (.ref t), some (.str p), none, none, none]) (i := 1) rfl (s1.seqT st) rfl (iteT ?_)
        obtain ⟨v, dg, lv⟩ := tab_get (tb.same s1) (getF_in e)
        obtain ⟨bl, rfl, ql⟩ := id lv
        have okS12 : ∀ {l : List Str}, okLn l → ∀ z ∈ l, PyData.strOk z = true := fun h z hz => okc_strOk (h.2 z hz).1
        refine ⟨_, rfl, _, rfl, d, .ref bl, rfl, dg, ?_⟩
        refine ⟨_, rfl, t, _, 2, _, rfl, rfl, s1.seqT st, at_of (j := 2) rfl rfl, bl, bo, l, o, rfl, ql, s1.seqT qo, by have := ol.1; omega, by have := oo.1; omega, okS12 ol, okS12 oo, fun H2 r s2 n2 e2 => ?_⟩
        have sr : SqL K H2 r ((spotsF l o).map fun i => V.int (i : Nat)) := sqL e2
        have rq := fun H' s' => q H' ((s1.trans s2).trans s')
        rw [refM, if_neg nb, e, Option.getD_some] at rq
        refine ⟨_, rfl, r, _, rfl, .inl sr, rfl, _, rfl, ?_⟩
        have dl1 : (!decide (V.int (((spotsF l o).map fun i => V.int (i : Nat)).length : Nat) = V.int 1)) = decide ((spotsF l o).length ≠ 1) := by
          rw [List.length_map, decide_not]
          congr 1
          exact decide_eq_decide.mpr ⟨fun z => by have := V.int.inj z; omega, fun z => by rw [z]; rfl⟩
        rw [dl1]
        refine ite2 (fun z => ?_) (fun z => ?_)
        · refine pick2 (c := decide (spotsF l o = [])) (fun H3 s3 Q3 k3 => ?_) fun H3 s3 => ?_
          · refine ⟨_, rfl, by show 0 ≤ sizeLine; decide, fun m nm => ?_⟩
            have s4 : Same H3 (upd H3 m (.lst [])) := same_upd nm
            refine ⟨.list ((spotsF l o).map fun i => PyData.int (i : Nat)), .list [], .lst ((s3.trans s4).seq sr) (dp_ints _), .lst (sqL upd_same) .nil, shaped_ints _, rfl, ?_⟩
            rw [eqv_nil, List.isEmpty_map]
            have : (spotsF l o).isEmpty = decide (spotsF l o = []) := by cases spotsF l o <;> rfl
            rw [this]
            exact k3 _ s4
          · have := rq H3 s3
            rw [if_pos (of_decide_eq_true z)] at this
            have e3 : (if decide (spotsF l o = []) = true then ("absent" : Str) else ("ambiguous" : Str)) = if spotsF l o = [] then ("absent" : Str) else ("ambiguous" : Str) := by
              by_cases c : spotsF l o = [] <;> simp [c]
            show Q (V.str _) H3
            rw [e3]
            exact this
        · obtain ⟨v3, dg3, lv3⟩ := tab_get (tb.same (s1.trans s2)) (getF_in e)
          obtain ⟨b3, rfl, q3⟩ := id lv3
          refine ⟨_, rfl, _, rfl, d, .ref b3, rfl, dg3, b3, _, rfl, .inr q3, _, rfl, t, _, 2, _, rfl, rfl, (s1.trans s2).seqT st, at_of (j := 2) rfl rfl, bo, _, rfl, .inr ((s1.trans s2).seqT qo), _, _, rfl, rfl, _, rfl, t, _, 3, _, rfl, rfl, (s1.trans s2).seqT st, at_of (j := 3) rfl rfl, bn, _, rfl, .inr ((s1.trans s2).seqT qn), _, _, rfl, rfl, _, _, rfl, rfl, _, rfl, ?_⟩
          have r2 := rq H2 (.refl _)
          rw [if_neg (fun y => z (decide_eq_true y))] at r2
          refine ite2 (fun y => ?_) (fun y => ?_)
          · rw [if_pos (by have := of_decide_eq_true y; simp only [List.length_map] at this; show 12 + o.length < l.length + n.length; omega)] at r2
            exact r2
          · rw [if_neg (fun y2 => y (decide_eq_true (by have y2 : 12 + o.length < l.length + n.length := y2; simp only [List.length_map]; omega)))] at r2
            exact r2
    | _ => simp [isQ] at hq
end
end KX

set_option maxRecDepth 100000
set_option maxHeartbeats 8000000
/-! Lm: a deed of the law. -/
namespace KX
open PySem PySem.Spec PyProof.Rows L2 TL Ga NdefX
def splL (l o n : List Str) : List Str := l.take ((spotsF l o).headD 0) ++ n ++ l.drop ((spotsF l o).headD 0 + o.length)
def lawLeft (fs : List File) : Act → List File
  | .write p l => putFs (dropFs fs p) p l
  | .remove p => dropFs fs p
  | .move p t => putFs (dropFs fs p) t ((getF fs p).getD [])
  | .splice p o n => putFs (dropFs fs p) p (splL ((getF fs p).getD []) o n)
  | _ => fs
def lawDo (fs : List File) (a : Act) : PyData × List File := if refM fs a ≠ "" then (.tuple [.str (refM fs a)], fs) else (.tuple [.str "done"], lawLeft fs a)
def spLAct (K : PySem.W.Frag) : Sp := fun vs H Q _ => ∃ (d : Addr) (v : V) (a : Act) (fs : List File), vs = [.ref d, v] ∧ Tab K H d fs ∧ LawF fs ∧ Dt K H v (dA a) ∧ LawD a ∧
  ∀ H' r u d2, Same H H' → SqL K H' r [u, .ref d2] → Dt K H' u (lawDo fs a).1 → Tab K H' d2 (lawDo fs a).2 → Q (.ref r) H'
theorem Tab.put {K : PySem.W.Frag} {H : Hp} {d : Addr} {fs : List File} {x : Str} {v : V} {l : List Str} (t : Tab K H d fs) (lv : LinesAt K H v l) (few : fs.length ≤ 39) :
    ∃ kvs, H d = some (.dK kvs) ∧ kvs.length < sizeLine ∧ Tab K (upd H d (.dK (putK kvs (.inr x) v))) d (putFs fs x l) := by
  obtain ⟨kvs, hd, pr, ndp, h40⟩ := t
  have kl : kvs.length = fs.length := pr.length.symm
  have st : SameT H (upd H d (.dK (putK kvs (.inr x) v))) := .put hd rfl
  exact ⟨kvs, hd, Nat.lt_of_le_of_lt (show kvs.length ≤ 40 by omega) (by decide), _, upd_same, put_tab (lv.st st) (pr.mono fun _ _ h => ⟨h.1, h.2.st st⟩), put_nodup ndp, by have := put_len fs x l; omega⟩
theorem Tab.unl {K : PySem.W.Frag} {H : Hp} {d L : Addr} {fs : List File} {od : Obj} {u : HO} (t : Tab K H L fs) (ne : L ≠ d) (hd : H d = some (.frz od u)) (st : SameT H (upd H d u)) : Tab K (upd H d u) L fs := by
  obtain ⟨kvs, h, pr, nd, hl⟩ := t
  exact ⟨kvs, by rw [upd_ne ne]; exact h, pr.mono fun _ _ h => ⟨h.1, h.2.st st⟩, nd, hl⟩
theorem put_new {fs : List File} {x : Str} {l : List Str} (h : x ∉ fs.map (·.1)) : putFs fs x l = fs ++ [(x, l)] := by
  unfold putFs
  rw [if_neg]
  intro z
  obtain ⟨f, hf, e⟩ := List.any_eq_true.mp z
  exact h (List.mem_map.mpr ⟨f, hf, of_decide_eq_true e⟩)
theorem drop_take {fs : List File} {x : Str} {i : Nat} {f : File} (h : fs[i]? = some f) : dropFs (fs.take (i + 1)) x = dropFs (fs.take i) x ++ (if f.1 ≠ x then [f] else []) := by
  unfold dropFs
  rw [List.take_add_one, h, List.filter_append]
  congr 1
  by_cases c : f.1 = x <;> simp [c]
theorem nd_take : ∀ {fs : List File} {i : Nat} {g : File}, (fs.map (·.1)).Nodup → fs[i]? = some g → g.1 ∉ (fs.take i).map (·.1)
  | [], _, _, _, h => nomatch h
  | f :: r, 0, _, _, _ => by simp
  | f :: r, i + 1, g, n, h => by
    have n := List.nodup_cons.mp n
    have h : r[i]? = some g := h
    intro z
    rw [List.take_succ_cons, List.map_cons] at z
    rcases List.mem_cons.mp z with z | z
    · exact n.1 (List.mem_map.mpr ⟨g, List.mem_of_getElem? h, z⟩)
    · exact nd_take n.2 h z
section
variable {P : Program} {w : World} {K : PySem.W.Frag} {mg : Str → Option Value} {base : Heap}
theorem ok_lact {f : Addr} {fd : FuncData} (F : Fun K "_law_act" "_law_act" s_L_act f fd) (T : Tx mg) (CK : Cal P w K mg base 3 "_law_asked" ["files", "action"] (spAsked K)) (CR : Cal P w K mg base 3 "_law_refusal" ["files", "action"] (spRef K)) (CS : Cal P w K mg base 1 "_law_spots" ["lines", "old"] (spPlaces K)) :
    FnOk P w K mg base CX0 4 f fd ["files", "action"] (spLAct K) := by
  refine F.ok sc_L_act (fun vs H Q E h => ?_) (fun cdv A outer s H vs Q E hr h => ?_)
  · obtain ⟨d, v, a, fs, rfl, _⟩ := h
    rfl
  · obtain ⟨d, v, a, fs, rfl, tb, lf, hd, ld, q⟩ := h
    refine ⟨_, pss_cons (ps_if (pt_cmpR op_in_seq (pe_ix (ixT (K := K) rfl) (pv 1) pe_int (fun _ _ => rfl)) (pe_tup (pa_consts (vs := qWords) rfl)) (by rfl))
        (pss_one (ps_ret (pe_lst (pa_cons (pe_cal CK hr pass0 (pa_cons (pv 0) (pa_cons (pv 1) pa_nil))) (pa_cons (pv 0) pa_nil))))) pss_nil)
      (pss_cons (ps_set (i := 2) sc_L_act.nd rfl (.inl rfl) (pe_cal CR hr pass0 (pa_cons (pv 0) (pa_cons (pv 1) pa_nil))))
      (pss_cons (ps_if (pt_cmpR op_ne (pv 2) pe_str (nomark _)) (pss_one (ps_ret (pe_lst (pa_cons (pe_tup (pa_cons (pv 2) pa_nil)) (pa_cons (pv 0) pa_nil))))) pss_nil)
      (pss_cons (ps_set (i := 3) sc_L_act.nd rfl (.inl rfl) pe_dnewK)
      (pss_cons (ps_lock (ps_for PassesOwn.never rfl (pi_keys (pv 0)) (pg_name (i := 4) sc_L_act.nd rfl (Or.inl rfl))
          (pss_one (ps_if (pt_cmpR op_ne (pv 4) (pe_ix (ixT (K := K) rfl) (pv 1) pe_int (fun _ _ => rfl)) (nomark _)) (pss_one (ps_dput (hu_of hr) (pv 3) (pv 4) (pe_dget (hu_of hr) (pv 0) (pv 4) (fun _ _ => rfl)) rfl)) pss_nil))))
      (pss_cons (ps_if (pt_cmpR op_eq (pe_ix (ixT (K := K) rfl) (pv 1) pe_int (fun _ _ => rfl)) pe_str (nomark _))
          (pss_one (ps_dput (hu_of hr) (pv 3) (pe_ix (ixT (K := K) rfl) (pv 1) pe_int (fun _ _ => rfl)) (pe_ix (ixT (K := K) rfl) (pv 1) pe_int (fun _ _ => rfl)) rfl)) pss_nil)
      (pss_cons (ps_if (pt_cmpR op_eq (pe_ix (ixT (K := K) rfl) (pv 1) pe_int (fun _ _ => rfl)) pe_str (nomark _))
          (pss_one (ps_dput (hu_of hr) (pv 3) (pe_ix (ixT (K := K) rfl) (pv 1) pe_int (fun _ _ => rfl)) (pe_dget (hu_of hr) (pv 0) (pe_ix (ixT (K := K) rfl) (pv 1) pe_int (fun _ _ => rfl)) (fun _ _ => rfl)) rfl)) pss_nil)
      (pss_cons (ps_if (pt_cmpR op_eq (pe_ix (ixT (K := K) rfl) (pv 1) pe_int (fun _ _ => rfl)) pe_str (nomark _))
          (pss_cons (ps_set (i := 5) sc_L_act.nd rfl (.inl rfl) (pe_dget (hu_of hr) (pv 0) (pe_ix (ixT (K := K) rfl) (pv 1) pe_int (fun _ _ => rfl)) (fun _ _ => rfl)))
          (pss_cons (ps_set (i := 6) sc_L_act.nd rfl (.inl rfl) (pe_ix (ixL (K := K) rfl) (pe_cal CS hr pass0 (pa_cons (pv 5) (pa_cons (pe_ix (ixT (K := K) rfl) (pv 1) pe_int (fun _ _ => rfl)) pa_nil))) pe_int (fun _ _ => rfl)))
          (pss_one (ps_dput (hu_of hr) (pv 3) (pe_ix (ixT (K := K) rfl) (pv 1) pe_int (fun _ _ => rfl))
            (pe_op (op_catAK (K := K) rfl) (pe_op (op_catAK (K := K) rfl) (pe_slice (r := rSlA K) sl_tupA (pv 5) po_none (po_some (pv 6))) (pe_ix (ixT (K := K) rfl) (pv 1) pe_int (fun _ _ => rfl)))
              (pe_slice (r := rSlA K) sl_tupA (pv 5) (po_some (pe_op op_add (pv 6) (pe_callB call_len_seq (by rfl) T.len PySem.boot_len (pa_cons (pe_ix (ixT (K := K) rfl) (pv 1) pe_int (fun _ _ => rfl)) pa_nil)))) po_none)) rfl)))) pss_nil)
      (pss_one (ps_ret (pe_lst (pa_cons (pe_tup (pa_cons pe_str pa_nil)) (pa_cons (pv 3) pa_nil)))))))))))), ?_⟩
    obtain ⟨t, vs, rfl, st, dl⟩ := act_parts hd
    obtain ⟨x, r, er, hx⟩ := lawD_head ld
    have ev : ∃ v2, vs = .str x :: v2 := by
      rw [er] at dl
      cases dl with
      | cons a b => exact ⟨_, by rw [a.strE]⟩
    obtain ⟨v2, ev⟩ := ev
    refine ⟨_, rfl, t, _, 0, .str a.word, rfl, rfl, st, at_of (j := 0) rfl rfl, by show 5 ≤ sizeLine; decide, fun m nm => ?_⟩
    have s1 : Same H (upd H m (.tup qWords)) := same_upd nm
    refine ⟨m, qWords, rfl, .inr (sqT upd_same), rfl, by decide, _, rfl, ?_⟩
    rw [if_neg Bool.false_ne_true, isQ_word, ld.q]
    refine iteF ?_
    refine ⟨_, rfl, _, rfl, d, .ref t, a, fs, rfl, tb.same s1, lf, hd.st s1.t, ld, fun H2 s2 => ?_⟩
    have s12 := s1.trans s2
    refine ⟨_, rfl, rfl, _, rfl, ?_⟩
    have eR : (!decide (V.str (refM fs a) = V.str "")) = decide (refM fs a ≠ "") := by
      rw [decide_not]
      congr 1
      exact decide_eq_decide.mpr ⟨fun z => V.str.inj z, fun z => by rw [z]⟩
    rw [eR]
    refine ite2 (fun c => ?_) (fun c => ?_)
    · have c := of_decide_eq_true c
      refine ⟨_, rfl, by show 1 ≤ sizeLine; decide, fun t1 n1 => ⟨_, rfl, by show 2 ≤ sizeLine; decide, fun l nl => ?_⟩⟩
      have s3 : Same H2 (upd H2 t1 (.tup [.str (refM fs a)])) := same_upd n1
      have s4 : Same _ (upd (upd H2 t1 (.tup [.str (refM fs a)])) l (.lst [.ref t1, .ref d])) := same_upd nl
      refine q _ l (.ref t1) d ((s12.trans s3).trans s4) (sqL upd_same) ?_ ?_
      · rw [lawDo, if_pos c]
        exact dt1 (s4.seqT (sqT upd_same)) (.str _)
      · rw [lawDo, if_pos c]
        exact tb.same ((s12.trans s3).trans s4)
    have c : refM fs a = "" := Decidable.byContradiction fun z => c (decide_eq_true z)
    have eL : lawDo fs a = (.tuple [.str "done"], lawLeft fs a) := by rw [lawDo, if_neg (by simp [c])]
    rw [eL] at q
    refine fun L nL => ?_
    obtain ⟨kvs, hdk, pr, nd, hl⟩ := id (tb.same s12)
    have hdk2 : (upd H2 L (.dK [])) d = some (.dK kvs) := by rw [upd_ne (ne_of_none hdk nL)]; exact hdk
    refine ⟨d, _, hdk2, trivial, fun od => ?_⟩
    have neLd : L ≠ d := fun y => ne_of_none hdk nL y.symm
    refine ⟨_, rfl, d, od, rfl, .inl ⟨kvs, upd_same, ?_⟩⟩
    have sL : Same H2 (upd H2 L (.dK [])) := same_upd nL
    have fin : ∀ (gs : List File) (o4 o5 o6 : Option V) (H3 : Hp), Same H2 H3 → Tab K H3 L gs → gs = lawLeft fs a → tRet (tLst (tCons (tTup (tCons (tC (.str "done")) tNil)) (tCons (tVar 3) tNil))) ({ nx := fun _ H' => Q .non H', rt := Q } : Ends)
        [some (.ref d), some (.ref t), some (.str (refM fs a)), some (.ref L), o4, o5, o6] H3 := fun gs o4 o5 o6 H3 s3 tg eg => by
      subst eg
      refine ⟨by show 1 ≤ sizeLine; decide, fun t1 n1 => ⟨_, rfl, by show 2 ≤ sizeLine; decide, fun l nl => ?_⟩⟩
      have s4 : Same H3 (upd H3 t1 (.tup [.str "done"])) := same_upd n1
      have s5 : Same _ (upd (upd H3 t1 (.tup [.str "done"])) l (.lst [.ref t1, .ref L])) := same_upd nl
      exact q _ l (.ref t1) L (((s12.trans s3).trans s4).trans s5) (sqL upd_same) (dt1 (s5.seqT (sqT upd_same)) (.str _)) ((tg.same s4).same s5)
    have nLb : (upd H2 d (.frz od (.dK kvs))) L = none := by rw [upd_ne neLd]; exact nL
    have sb : Same (upd H2 d (.frz od (.dK kvs))) (upd (upd H2 L (.dK [])) d (.frz od (.dK kvs))) := fun b o e => by
      by_cases hb : b = d
      · rw [hb, upd_same] at e ⊢
        exact e
      · rw [upd_ne hb] at e ⊢
        rw [upd_ne (ne_of_none e nL)]
        exact e
    have stB : SameT H (upd H2 d (.frz od (.dK kvs))) := s12.t.trans (.put hdk rfl)
    refine for_it (same_walkK upd_same) (fun i σ H' => Same (upd H2 d (.frz od (.dK kvs))) H' ∧ Tab K H' L (dropFs (fs.take i) x) ∧ ∃ o4, σ = [some (.ref d), some (.ref t), some (.str (refM fs a)), some (.ref L), o4, none, none])
      ⟨sb, ⟨[], by rw [upd_ne neLd]; exact upd_same, .nil, List.nodup_nil, Nat.zero_le _⟩, none, rfl⟩ (fun _ _ _ _ h => h.1) ?_ ?_
    · rintro i c2 σ H3 H4 hi ⟨s3, tg, o4, rfl⟩ ⟨rfl, hc⟩
      rw [List.getElem?_map] at hc
      cases hk : kvs[i]? with
      | none => rw [hk] at hc; cases hc
      | some kv =>
      obtain ⟨g, hg, rg⟩ := paired_get2 pr i kv hk
      rw [hk] at hc
      have ec : c2 = V.str g.1 := by
        have : kV kv.1 = c2 := Option.some.inj hc
        rw [← this, rg.1]
        rfl
      subst ec
      have st3 := (stB.trans s3.t).sq st
      refine ⟨_, rfl, _, rfl, t, _, 1, .str x, rfl, rfl, st3, by rw [ev]; exact at_of (j := 1) rfl rfl, rfl, _, rfl, ite2 (fun z => ?_) (fun z => ?_)⟩
      · obtain ⟨v, evv, lv⟩ := (val_of pr (x := g.1)).2 nd g (List.mem_of_getElem? hg) rfl
        have ne : g.1 ≠ x := fun y => by rw [y] at z; exact absurd z (by simp)
        have few : (dropFs (fs.take i) x).length ≤ 39 := by
          have h1 := drop_len (fs.take i) x
          have h2 : (fs.take i).length ≤ fs.length := by rw [List.length_take]; exact Nat.min_le_right _ _
          have h3 := lf.few
          omega
        have lv3 : LinesAt K H4 v g.2 := lv.st ((SameT.put hdk rfl).trans s3.t)
        obtain ⟨k2, hL, hlt, tp⟩ := tg.put (x := g.1) lv3 few
        refine ⟨_, rfl, _, rfl, d, v, rfl, .inl ⟨kvs, .inr g.1, .inr ⟨od, s3 _ _ upd_same⟩, rfl, evv.symm⟩, _, rfl, _, rfl, L, _, rfl, DPut.k (k := .inr g.1) hL hlt, s3.mut nLb, ?_, _, rfl⟩
        rw [drop_take hg, if_pos ne]
        have nin : g.1 ∉ (dropFs (fs.take i) x).map (·.1) := fun y => by
          obtain ⟨f2, hf2, e2⟩ := List.mem_map.mp y
          exact nd_take nd hg (List.mem_map.mpr ⟨f2, (List.mem_filter.mp hf2).1, e2⟩)
        rw [put_new nin] at tp
        exact tp
      · have e : g.1 = x := Decidable.byContradiction fun y => z (by rw [decide_eq_false fun w => y (V.str.inj w)]; rfl)
        refine ⟨s3, ?_, _, rfl⟩
        rw [drop_take hg, if_neg (by simp [e]), List.append_nil]
        exact tg
    · rintro σ H3 ⟨s3, tg, o4, rfl⟩
      rw [List.length_map, ← pr.length, List.take_length] at tg
      have f3 : H3 d = some (.frz od (.dK kvs)) := s3 _ _ upd_same
      have sU : Same H2 (upd H3 d (.dK kvs)) := unlock s3 hdk
      have tgU := tg.unl neLd f3 (.put f3 rfl)
      refine ⟨f3, ?_⟩
      generalize upd H3 d (.dK kvs) = H5 at sU tgU ⊢
      have stU := (s12.trans sU).seqT st
      have few5 : (dropFs fs x).length ≤ 39 := by
        have h1 := drop_len fs x
        have h3 := lf.few
        omega
      have hq := ld.q
      have tbU := tb.same (s12.trans sU)
      cases a with
      | write p l =>
        obtain rfl : p = x := by cases er; rfl
        obtain ⟨u, v, e0, d1, d2⟩ := dtl2 dl
        obtain rfl := d1.strE
        subst e0
        have lv := (dt_lines.mp d2).st (s12.trans sU).t
        obtain ⟨k2, hL, hlt, tp⟩ := tgU.put (x := p) lv few5
        have s6 := sU.mut (o := .dK (putK k2 (.inr p) v)) nL
        have st6 := (s12.trans s6).seqT st
        refine tWordY (σ := [some (.ref d), some (.ref t), some (.str (refM fs (.write p l))), some (.ref L), o4, none, none]) (i := 1) rfl stU rfl (iteT ?_)
        refine ⟨_, rfl, t, _, 2, v, rfl, rfl, stU, at_of (j := 2) rfl rfl, _, rfl, _, rfl, t, _, 1, .str p, rfl, rfl, stU, at_of (j := 1) rfl rfl, L, _, rfl, DPut.k (k := .inr p) hL hlt, ?_⟩
        refine tWordN (σ := [some (.ref d), some (.ref t), some (.str (refM fs (.write p l))), some (.ref L), o4, none, none]) (i := 1) rfl st6 (by show ("write" : Str) ≠ "move"; decide) (iteF ?_)
        refine tWordN (σ := [some (.ref d), some (.ref t), some (.str (refM fs (.write p l))), some (.ref L), o4, none, none]) (i := 1) rfl st6 (by show ("write" : Str) ≠ "splice"; decide) (iteF ?_)
        exact fin _ _ _ _ _ s6 tp rfl
      | remove p =>
        obtain rfl : p = x := by cases er; rfl
        refine tWordN (σ := [some (.ref d), some (.ref t), some (.str (refM fs (.remove p))), some (.ref L), o4, none, none]) (i := 1) rfl stU (by show ("remove" : Str) ≠ "write"; decide) (iteF ?_)
        refine tWordN (σ := [some (.ref d), some (.ref t), some (.str (refM fs (.remove p))), some (.ref L), o4, none, none]) (i := 1) rfl stU (by show ("remove" : Str) ≠ "move"; decide) (iteF ?_)
        refine tWordN (σ := [some (.ref d), some (.ref t), some (.str (refM fs (.remove p))), some (.ref L), o4, none, none]) (i := 1) rfl stU (by show ("remove" : Str) ≠ "splice"; decide) (iteF ?_)
        exact fin _ _ _ _ _ sU tgU rfl
      | move p t2 =>
        obtain rfl : p = x := by cases er; rfl
        obtain ⟨u, v, e0, d1, d2⟩ := dtl2 dl
        obtain rfl := d1.strE
        obtain rfl := d2.strE
        subst e0
        have ng : getF fs p ≠ none := fun z => by
          rw [refM, if_pos z] at c
          exact absurd c (by decide)
        obtain ⟨l, e⟩ := Option.ne_none_iff_exists'.mp ng
        obtain ⟨v, dg, lv⟩ := tab_get tbU (getF_in e)
        obtain ⟨k2, hL, hlt, tp⟩ := tgU.put (x := t2) lv few5
        have s6 := sU.mut (o := .dK (putK k2 (.inr t2) v)) nL
        have st6 := (s12.trans s6).seqT st
        refine tWordN (σ := [some (.ref d), some (.ref t), some (.str (refM fs (.move p t2))), some (.ref L), o4, none, none]) (i := 1) rfl stU (by show ("move" : Str) ≠ "write"; decide) (iteF ?_)
        refine tWordY (σ := [some (.ref d), some (.ref t), some (.str (refM fs (.move p t2))), some (.ref L), o4, none, none]) (i := 1) rfl stU rfl (iteT ?_)
        refine ⟨_, rfl, _, rfl, t, _, 1, .str p, rfl, rfl, stU, at_of (j := 1) rfl rfl, d, v, rfl, dg, _, rfl, _, rfl, t, _, 2, .str t2, rfl, rfl, stU, at_of (j := 2) rfl rfl, L, _, rfl, DPut.k (k := .inr t2) hL hlt, ?_⟩
        refine tWordN (σ := [some (.ref d), some (.ref t), some (.str (refM fs (.move p t2))), some (.ref L), o4, none, none]) (i := 1) rfl st6 (by show ("move" : Str) ≠ "splice"; decide) (iteF ?_)
        exact fin _ _ _ _ _ s6 tp (by rw [lawLeft, e]; rfl)
      | splice p o n =>
        obtain rfl : p = x := by cases er; rfl
        obtain ⟨u, v, w2, e0, d1, d2, d3⟩ := dtl3 dl
        obtain rfl := d1.strE
        obtain ⟨bo, rfl, qo⟩ := dt_lines.mp d2
        obtain ⟨bn, rfl, qn⟩ := dt_lines.mp d3
        subst e0
        have ng : getF fs p ≠ none := fun z => by
          rw [refM, if_pos z] at c
          exact absurd c (by decide)
        obtain ⟨l, e⟩ := Option.ne_none_iff_exists'.mp ng
        have oo : okLn o := ld.parts ("old", .ln o) (List.mem_cons_of_mem _ List.mem_cons_self)
        have on : okLn n := ld.parts ("new", .ln n) (List.mem_cons_of_mem _ (List.mem_cons_of_mem _ List.mem_cons_self))
        have ol : okLn l := (lf.each _ (getF_in e)).2
        have okS12 : ∀ {l : List Str}, okLn l → ∀ z ∈ l, PyData.strOk z = true := fun h z hz => okc_strOk (h.2 z hz).1
        obtain ⟨i, hsp⟩ : ∃ i, spotsF l o = [i] := by
          rw [refM, if_neg ng, e, Option.getD_some] at c
          by_cases c1 : (spotsF l o).length ≠ 1
          · rw [if_pos c1] at c
            by_cases c2 : spotsF l o = []
            · rw [if_pos c2] at c; exact absurd c (by decide)
            · rw [if_neg c2] at c; exact absurd c (by decide)
          · exact List.length_eq_one_iff.mp (Decidable.not_not.mp c1)
        have hi : i + o.length ≤ l.length := spots_le (l := l) (o := o) (by rw [hsp]; exact List.mem_cons_self)
        obtain ⟨v, dg, lv⟩ := tab_get tbU (getF_in e)
        obtain ⟨bl, rfl, ql⟩ := id lv
        have qoU := (s12.trans sU).seqT qo
        refine tWordN (σ := [some (.ref d), some (.ref t), some (.str (refM fs (.splice p o n))), some (.ref L), o4, none, none]) (i := 1) rfl stU (by show ("splice" : Str) ≠ "write"; decide) (iteF ?_)
        refine tWordN (σ := [some (.ref d), some (.ref t), some (.str (refM fs (.splice p o n))), some (.ref L), o4, none, none]) (i := 1) rfl stU (by show ("splice" : Str) ≠ "move"; decide) (iteF ?_)
        refine tWordY (σ := [some (.ref d), some (.ref t), some (.str (refM fs (.splice p o n))), some (.ref L), o4, none, none]) (i := 1) rfl stU rfl (iteT ?_)
        refine ⟨_, rfl, _, rfl, t, _, 1, .str p, rfl, rfl, stU, at_of (j := 1) rfl rfl, d, .ref bl, rfl, dg, ?_⟩
        refine ⟨_, rfl, _, rfl, t, _, 2, .ref bo, rfl, rfl, stU, at_of (j := 2) rfl rfl, bl, bo, l, o, rfl, ql, qoU, by have := ol.1; omega, by have := oo.1; omega, okS12 ol, okS12 oo, fun H6 rr s6 n6 e6 => ?_⟩
        rw [hsp] at e6
        refine ⟨rr, _, 0, .int (i : Nat), rfl, rfl, sqL e6, at_of (j := 0) rfl rfl, ?_⟩
        refine ⟨_, rfl, _, rfl, _, rfl, ?_⟩
        refine sl_upto (l := l) (s6.seqT ql) (by omega) fun H7 t7 s7 st7 => ?_
        have s67 := s6.trans s7
        refine ⟨_, rfl, t, _, 3, .ref bn, rfl, rfl, s67.seqT stU, at_of (j := 3) rfl rfl, cat_strs st7 ((s12.trans (sU.trans s67)).seqT qn) (by rw [List.length_take]; have := on.1; have := ol.1; omega) fun H8 t8 s8 st8 => ?_⟩
        have s68 := s67.trans s8
        refine ⟨_, rfl, _, rfl, _, rfl, t, _, 2, .ref bo, rfl, rfl, s68.seqT stU, at_of (j := 2) rfl rfl, bo, _, rfl, .inr (s68.seqT qoU), _, _, rfl, rfl, _, rfl, ?_⟩
        have eI : ((i : Nat) : Int) + ((o.map V.str).length : Nat) = ((i + o.length : Nat) : Int) := by rw [List.length_map]; omega
        dsimp only [tNoPart]
        rw [eI]
        refine sl_from (l := l) (s68.seqT ql) hi fun H9 t9 s9 st9 => ?_
        refine cat_strs (s9.seqT st8) st9 (by rw [List.length_append, List.length_take, List.length_drop]; have := on.1; have := ol.1; omega) fun HA tA sA stA => ?_
        have s6A := s68.trans (s9.trans sA)
        have few5' : (dropFs fs p).length ≤ 39 := few5
        obtain ⟨k2, hL, hlt, tp⟩ := (tgU.same s6A).put (x := p) (v := .ref tA) (l := l.take i ++ n ++ l.drop (i + o.length)) ⟨tA, rfl, stA⟩ few5'
        have sZ := (sU.trans s6A).mut (o := .dK (putK k2 (.inr p) (.ref tA))) nL
        refine ⟨_, rfl, _, rfl, t, _, 1, .str p, rfl, rfl, s6A.seqT stU, at_of (j := 1) rfl rfl, L, _, rfl, DPut.k (k := .inr p) hL hlt, ?_⟩
        refine fin _ _ _ _ _ sZ tp ?_
        rw [lawLeft, e, Option.getD_some, splL, hsp]
        rfl
      | _ => simp [isQ] at hq
end
end KX

set_option maxRecDepth 100000
set_option maxHeartbeats 4000000
/-! Ln: the law's deeds and the program's leave the same. -/
namespace KX
open PySem PySem.Spec PyProof.Rows L2 TL Ga NdefX
theorem put_perm : ∀ {gs : List File} {x : Str} {l : List Str}, (gs.map (·.1)).Nodup → (putFs gs x l).Perm (dropFs gs x ++ [(x, l)])
  | [], x, l, _ => by unfold putFs dropFs; exact List.Perm.refl _
  | f :: r, x, l, n => by
    have n := List.nodup_cons.mp n
    by_cases c : f.1 = x
    · have hn : ∀ g ∈ r, g.1 ≠ x := fun g hg e => n.1 (List.mem_map.mpr ⟨g, hg, e.trans c.symm⟩)
      have e1 : putFs (f :: r) x l = (x, l) :: r := by
        unfold putFs
        rw [if_pos (by rw [List.any_cons, decide_eq_true c]; rfl), List.map_cons, if_pos c, c]
        congr 1
        refine (List.map_congr_left fun g hg => ?_).trans (List.map_id r)
        rw [if_neg (hn g hg)]
        rfl
      have e2 : dropFs (f :: r) x = r := by
        unfold dropFs
        rw [List.filter_cons, if_neg (by simp [c])]
        exact List.filter_eq_self.mpr fun g hg => decide_eq_true (hn g hg)
      rw [e1, e2]
      exact (List.perm_append_singleton (x, l) r).symm
    · have e2 : dropFs (f :: r) x = f :: dropFs r x := by
        unfold dropFs
        rw [List.filter_cons, if_pos (decide_eq_true c)]
      have e1 : putFs (f :: r) x l = f :: putFs r x l := by
        unfold putFs
        rw [List.any_cons, decide_eq_false c, Bool.false_or]
        by_cases h : (r.any fun f => decide (f.1 = x)) = true
        · rw [if_pos h, if_pos h, List.map_cons, if_neg c]
        · rw [if_neg h, if_neg h]
          rfl
      rw [e1, e2]
      exact (put_perm n.2).cons f
theorem drop_nin (fs : List File) (x : Str) : x ∉ (dropFs fs x).map (·.1) := fun h => by
  obtain ⟨f, hf, e⟩ := List.mem_map.mp h
  exact of_decide_eq_true (List.mem_filter.mp hf).2 e
theorem drop_nd {fs : List File} {x : Str} (h : (fs.map (·.1)).Nodup) : ((dropFs fs x).map (·.1)).Nodup := h.sublist (List.Sublist.map _ List.filter_sublist)
theorem put_drop (fs : List File) (x : Str) (l : List Str) : putFs (dropFs fs x) x l = dropFs fs x ++ [(x, l)] := put_new (drop_nin fs x)
theorem drop_perm {gs fs : List File} (p : gs.Perm fs) (x : Str) : (dropFs gs x).Perm (dropFs fs x) := p.filter _
theorem put_both {gs fs : List File} (p : gs.Perm fs) (nd : (fs.map (·.1)).Nodup) (x : Str) (l : List Str) : (putFs gs x l).Perm (putFs (dropFs fs x) x l) := by
  rw [put_drop]
  exact (put_perm ((p.map _).nodup_iff.mpr nd)).trans ((drop_perm p x).append_right _)
theorem put_congr {gs fs : List File} (p : gs.Perm fs) (nd : (fs.map (·.1)).Nodup) (x : Str) (l : List Str) : (putFs gs x l).Perm (putFs fs x l) :=
  (put_perm ((p.map _).nodup_iff.mpr nd)).trans (((drop_perm p x).append_right _).trans (put_perm nd).symm)
theorem LawF.drop {fs : List File} (h : LawF fs) (x : Str) : LawF (dropFs fs x) :=
  ⟨fun f hf => h.each f (List.mem_filter.mp hf).1, fun f hf g hg => h.clean f (List.mem_filter.mp hf).1 g (List.mem_filter.mp hg).1, Nat.le_trans (drop_len fs x) h.few⟩
theorem drop_less {fs : List File} {x : Str} {l : List Str} (e : getF fs x = some l) : (dropFs fs x).length < fs.length := by
  unfold dropFs
  exact List.length_filter_lt_length_iff_exists.mpr ⟨_, getF_in e, by simp⟩
theorem blocked_is {fs : List File} (h : LawF fs) {x : Str} (hx : x ∈ lawPaths) : blocked fs x = true ↔ pathsIn fs x ≠ [] ∨ aboveF fs x ≠ [] := by
  have all : ∀ f ∈ fs, f.1 ∈ pathsIn fs "" := fun f hf => List.mem_filter.mpr ⟨List.mem_map.mpr ⟨f, (srtF_perm fs).mem_iff.mpr hf, rfl⟩, rfl⟩
  constructor
  · intro b
    obtain ⟨f, hf, e⟩ := List.any_eq_true.mp b
    have e := (Bool.and_eq_true_iff.mp e).2
    rcases Bool.or_eq_true_iff.mp e with e | e
    · exact .inl (List.ne_nil_of_mem (List.mem_filter.mpr ⟨List.mem_map.mpr ⟨f, (srtF_perm fs).mem_iff.mpr hf, rfl⟩, e⟩))
    · exact .inr (List.ne_nil_of_mem (List.mem_filter.mpr ⟨all f hf, e⟩))
  · intro b
    have key : ∀ f ∈ fs, (inside f.1 x = true ∨ inside x f.1 = true) → blocked fs x = true := fun f hf e => by
      have ne : f.1 ≠ x := fun z => by
        rw [z, (pth hx).self] at e
        simp at e
      refine List.any_eq_true.mpr ⟨f, hf, ?_⟩
      rw [decide_eq_false ne, Bool.not_false, Bool.true_and]
      exact Bool.or_eq_true_iff.mpr e
    rcases b with b | b
    · obtain ⟨z, hz⟩ := List.exists_mem_of_ne_nil _ b
      obtain ⟨f, hf, rfl, e⟩ := pathsIn_sub hz
      exact key f hf (.inl e)
    · obtain ⟨z, hz⟩ := List.exists_mem_of_ne_nil _ b
      obtain ⟨h1, h2⟩ := List.mem_filter.mp hz
      obtain ⟨f, hf, rfl, _⟩ := pathsIn_sub h1
      exact key f hf (.inr h2)
theorem aboveF_perm {fs gs : List File} (p : gs.Perm fs) (nd : (fs.map (·.1)).Nodup) (x : Str) : aboveF gs x = aboveF fs x := by
  unfold aboveF
  rw [pathsIn_perm p nd]
theorem all_len (fs : List File) : (pathsIn fs "").length = fs.length := by
  have : pathsIn fs "" = (srtF fs).map (·.1) := List.filter_eq_self.mpr fun z _ => rfl
  rw [this, List.length_map, srtF_len]
theorem blockedS_is (fs : List File) (x : Str) : blockedS (fs.map (·.1)) x = blocked fs x := by
  unfold blockedS blocked
  rw [List.any_map]
  rfl
theorem blocked_drop {fs : List File} {x y : Str} (h : blocked fs x = false) : blocked (dropFs fs y) x = false := List.any_eq_false.mpr fun f hf => List.any_eq_false.mp h f (List.mem_filter.mp hf).1
/-- what a deed leaves, by the law and by the program -/
structure DoIs (fs gs : List File) (a : Act) : Prop where
  ans : (doM gs a).1 = (lawDo fs a).1
  left : (doM gs a).2.Perm (lawDo fs a).2
  law : LawF (lawDo fs a).2
  nd : ((lawDo fs a).2.map (·.1)).Nodup
theorem do_no {fs gs : List File} {a : Act} {r : Str} (lf : LawF fs) (nd : (fs.map (·.1)).Nodup) (p : gs.Perm fs) (h1 : doM gs a = (.tuple [.str r], gs)) (h2 : refM fs a = r) (h3 : r ≠ "") : DoIs fs gs a := by
  have e : lawDo fs a = (.tuple [.str r], fs) := by rw [lawDo, h2, if_pos h3]
  exact ⟨by rw [h1, e], by rw [h1, e]; exact p, by rw [e]; exact lf, by rw [e]; exact nd⟩
theorem do_yes {fs gs gs' : List File} {a : Act} (h1 : doM gs a = (.tuple [.str "done"], gs')) (h2 : refM fs a = "") (p : gs'.Perm (lawLeft fs a)) (lf : LawF (lawLeft fs a)) (nd : ((lawLeft fs a).map (·.1)).Nodup) : DoIs fs gs a := by
  have e : lawDo fs a = (.tuple [.str "done"], lawLeft fs a) := by rw [lawDo, h2, if_neg (by simp)]
  exact ⟨by rw [h1, e], by rw [h1, e]; exact p, by rw [e]; exact lf, by rw [e]; exact nd⟩
theorem do_is {fs gs : List File} (lf : LawF fs) (nd : (fs.map (·.1)).Nodup) (p : gs.Perm fs) {a : Act} (ld : LawD a) : DoIs fs gs a := by
  have hq := ld.q
  cases a with
  | write x l =>
    have hx : x ∈ lawPaths := ld.parts ("path", .tx x) List.mem_cons_self
    have ol : okLn l := ld.parts ("lines", .ln l) (List.mem_cons_of_mem _ List.mem_cons_self)
    by_cases c : blocked fs x = true
    · exact do_no (r := "blocked") lf nd p (by rw [doM_write, if_pos (by rw [pathsIn_perm p nd, aboveF_perm p nd]; exact (blocked_is lf hx).mp c)]) (by rw [refM, if_pos c]) (by decide)
    · have c1 : ¬ (pathsIn gs x ≠ [] ∨ aboveF gs x ≠ []) := by rw [pathsIn_perm p nd, aboveF_perm p nd]; exact fun z => c ((blocked_is lf hx).mpr z)
      by_cases c2 : getF fs x = none ∧ fs.length = 20
      · exact do_no (r := "full") lf nd p (by rw [doM_write, if_neg c1, if_pos ⟨by rw [getF_perm p nd]; exact c2.1, by rw [pathsIn_perm p nd, all_len]; omega⟩]) (by rw [refM, if_neg c, if_pos c2]) (by decide)
      · have cb := Bool.eq_false_iff.mpr c
        have c3 : ¬ (getF gs x = none ∧ 20 ≤ (pathsIn gs "").length) := fun z => c2 ⟨by rw [← getF_perm p nd]; exact z.1, by have := z.2; rw [pathsIn_perm p nd, all_len] at this; have := lf.few; omega⟩
        refine do_yes (gs' := putFs gs x l) (by rw [doM_write, if_neg c1, if_neg c3]) (by rw [refM, if_neg c, if_neg c2]) (put_both p nd x l) ((lf.drop x).put hx ol.1 ol.2 (blocked_drop cb) ?_) (put_nodup (drop_nd nd))
        have h1 := drop_len fs x
        have h2 := lf.few
        cases e : getF fs x with
        | none =>
          have : fs.length ≠ 20 := fun z => c2 ⟨e, z⟩
          omega
        | some l2 =>
          have := drop_less e
          omega
  | remove x =>
    by_cases c : getF fs x = none
    · exact do_no (r := "missing") lf nd p (by rw [doM_remove, if_pos (by rw [getF_perm p nd]; exact c)]) (by rw [refM, if_pos c]) (by decide)
    · exact do_yes (gs' := dropFs gs x) (by rw [doM_remove, if_neg (by rw [getF_perm p nd]; exact c)]) (by rw [refM, if_neg c]) (drop_perm p x) (lf.drop x) (drop_nd nd)
  | move x y =>
    have hy : y ∈ lawPaths := ld.parts ("target", .tx y) (List.mem_cons_of_mem _ List.mem_cons_self)
    cases c : getF fs x with
    | none => exact do_no (r := "missing") lf nd p (doM_move0 (by rw [getF_perm p nd]; exact c)) (by rw [refM, if_pos c]) (by decide)
    | some l =>
      have cg : getF gs x = some l := by rw [getF_perm p nd]; exact c
      have nn : ¬ getF fs x = none := by rw [c]; simp
      have pd := drop_perm p x
      have ndd := drop_nd (x := x) nd
      have lfd := lf.drop x
      have iff : (underF (dropFs gs x) y ≠ [] ∨ aboveF (dropFs gs x) y ≠ []) ↔ (y ∈ (dropFs fs x).map (·.1) ∨ blockedS ((dropFs fs x).map (·.1)) y = true) := by
        rw [underF_perm pd ndd, aboveF_perm pd ndd, blockedS_is, blocked_is lfd hy]
        have e1 : underF (dropFs fs x) y ≠ [] ↔ (y ∈ (dropFs fs x).map (·.1) ∨ pathsIn (dropFs fs x) y ≠ []) := by
          unfold underF
          cases e : getF (dropFs fs x) y with
          | none =>
            rw [if_pos rfl, List.nil_append]
            exact ⟨.inr, fun z => z.elim (fun z => absurd z (getF_none e)) id⟩
          | some l2 =>
            rw [if_neg (by simp)]
            exact ⟨fun _ => .inl (List.mem_map.mpr ⟨_, getF_in e, rfl⟩), fun _ => by simp⟩
        rw [e1, or_assoc]
      by_cases c2 : y ∈ (dropFs fs x).map (·.1) ∨ blockedS ((dropFs fs x).map (·.1)) y = true
      · exact do_no (r := "blocked") lf nd p (by rw [doM_move1 cg, if_pos (iff.mpr c2)]) (by rw [refM, if_neg nn, if_pos c2]) (by decide)
      · have c3 := Bool.eq_false_iff.mpr fun z => c2 (.inr z)
        rw [blockedS_is] at c3
        have ol : okLn l := (lf.each _ (getF_in c)).2
        have eL : lawLeft fs (.move x y) = putFs (dropFs fs x) y l := by rw [lawLeft, c]; rfl
        refine do_yes (gs' := putFs (dropFs gs x) y l) (by rw [doM_move1 cg, if_neg fun z => c2 (iff.mp z)]) (by rw [refM, if_neg nn, if_neg c2]) (by rw [eL]; exact put_congr pd ndd y l) (by
          rw [eL]
          exact lfd.put hy ol.1 ol.2 c3 (by have := drop_less c; have := lf.few; omega)) (by rw [eL]; exact put_nodup ndd)
  | splice x o n =>
    have hx : x ∈ lawPaths := ld.parts ("path", .tx x) List.mem_cons_self
    have on : okLn n := ld.parts ("new", .ln n) (List.mem_cons_of_mem _ (List.mem_cons_of_mem _ List.mem_cons_self))
    cases c : getF fs x with
    | none => exact do_no (r := "missing") lf nd p (doM_spl0 (by rw [getF_perm p nd]; exact c)) (by rw [refM, if_pos c]) (by decide)
    | some l =>
      have cg : getF gs x = some l := by rw [getF_perm p nd]; exact c
      have nn : ¬ getF fs x = none := by rw [c]; simp
      have ol : okLn l := (lf.each _ (getF_in c)).2
      have e1 := doM_spl1 (o := o) (n := n) cg
      have rf : refM fs (.splice x o n) = if (spotsF l o).length ≠ 1 then (if spotsF l o = [] then ("absent" : Str) else ("ambiguous" : Str)) else if 12 + o.length < l.length + n.length then ("long" : Str) else ("" : Str) := by
        rw [refM, if_neg nn, c]
        rfl
      cases hs : spotsF l o with
      | nil => exact do_no (r := "absent") lf nd p (by rw [e1]; unfold splM; rw [hs]) (by rw [rf, hs]; rfl) (by decide)
      | cons i r =>
        cases r with
        | cons j r => exact do_no (r := "ambiguous") lf nd p (by rw [e1]; unfold splM; rw [hs]) (by rw [rf, hs, if_pos (by simp), if_neg (by simp)]) (by decide)
        | nil =>
          have hi : i + o.length ≤ l.length := spots_le (l := l) (o := o) (by rw [hs]; exact List.mem_cons_self)
          have len : (l.take i ++ n ++ l.drop (i + o.length)).length + o.length = l.length + n.length := by
            rw [List.length_append, List.length_append, List.length_take, List.length_drop]
            omega
          rw [hs, if_neg (by simp)] at rf
          by_cases c2 : 12 < (l.take i ++ n ++ l.drop (i + o.length)).length
          · exact do_no (r := "long") lf nd p (by rw [e1]; unfold splM; rw [hs]; dsimp only; rw [if_pos c2]) (by rw [rf, if_pos (by omega)]) (by decide)
          · have eL : lawLeft fs (.splice x o n) = putFs (dropFs fs x) x (l.take i ++ n ++ l.drop (i + o.length)) := by
              rw [lawLeft, c, Option.getD_some, splL, hs]
              rfl
            have cl : blocked (dropFs fs x) x = false := List.any_eq_false.mpr fun f hf => by
              have hf := (List.mem_filter.mp hf).1
              rw [lf.clean f hf (x, l) (getF_in c), lf.clean (x, l) (getF_in c) f hf]
              simp
            refine do_yes (gs' := putFs gs x (l.take i ++ n ++ l.drop (i + o.length))) (by rw [e1]; unfold splM; rw [hs]; dsimp only; rw [if_neg c2]) (by rw [rf, if_neg (by omega)]) (by rw [eL]; exact put_both p nd x _) (by
              rw [eL]
              refine (lf.drop x).put hx (by omega) (fun z hz => ?_) cl (by have := drop_less c; have := lf.few; omega)
              rcases List.mem_append.mp hz with hz | hz
              · rcases List.mem_append.mp hz with hz | hz
                · exact ol.2 z (List.mem_of_mem_take hz)
                · exact on.2 z hz
              · exact ol.2 z (List.mem_of_mem_drop hz)) (by rw [eL]; exact put_nodup (drop_nd nd))
  | _ => simp [isQ] at hq
end KX

set_option maxRecDepth 100000
set_option maxHeartbeats 4000000
/-! Li: answers are small data. -/
namespace KX
open PySem PySem.Spec PyProof.Rows L2 TL Ga NdefX
theorem first_chk : (lawPaths.all fun z => (List.range 10).all fun n => decide (okText 9 (firstName (cutS z (some (n : Nat)) none)))) = true := by decide +kernel
theorem first_txt {x z : Str} (hz : z ∈ lawPaths) (hx : (tl x).length ≤ 8) : okText 9 (firstName (restOf x z)) := by
  have h := List.all_eq_true.mp first_chk z hz
  have : ∃ n : Nat, n < 10 ∧ restOf x z = cutS z (some ((n : Nat) : Int)) none := by
    unfold restOf
    by_cases e : x = ""
    · rw [if_pos e]
      exact ⟨0, by omega, rfl⟩
    · rw [if_neg e]
      exact ⟨x.length + 1, by rw [len_tl]; omega, rfl⟩
  obtain ⟨n, hn, e⟩ := this
  rw [e]
  exact of_decide_eq_true (List.all_eq_true.mp h n (List.mem_range.mpr hn))
theorem pl_w {z : Str} (h : okText 20 z) : Pl 100 1 (.tuple [.str z]) := ((PlL.cons (pl_str h) (PlL.nil (n := 0) (k := 0))).tup).mono (by omega) (Nat.le_refl _)
theorem pl_none1 : Pl 100 1 dNone := pl_w (by decide +kernel)
theorem pl_ask {fs : List File} (lf : LawF fs) (nd : (fs.map (·.1)).Nodup) {a : Act} (lq : LawQ a) : Pl 9000 4 (askM fs a) := by
  have up : ∀ {n k : Nat} {d : PyData}, Pl n k d → n ≤ 9000 → k ≤ 4 → Pl 9000 4 d := fun h a b => h.mono a b
  have hq := lq.q
  have hx : ∃ z r, a.parts.map (fun q => dI q.2) = .str z :: r ∧ z ∈ lawPlaces := lawQ_head lq
  cases a with
  | read x =>
    show Pl _ _ (aRead fs x)
    unfold aRead
    cases e : getF fs x with
    | none => exact up pl_none1 (by omega) (by omega)
    | some l =>
      obtain ⟨_, h2, h3⟩ := lf.each _ (getF_in e)
      have b := pl_lines (m := 12) (fun z hz => (h3 z hz).1) h2
      exact up ((PlL.cons (n := 20) (k := 1) ((pl_str (z := "lines") (by decide +kernel)).mono (Nat.le_refl _) (by omega)) (PlL.cons b (PlL.nil (n := 0)))).tup) (by omega) (by omega)
  | kind x =>
    show Pl _ _ (aKind fs x)
    unfold aKind
    split
    · exact up (pl_w (by decide +kernel)) (by omega) (by omega)
    · split
      · exact up (pl_w (by decide +kernel)) (by omega) (by omega)
      · exact up pl_none1 (by omega) (by omega)
  | count x =>
    show Pl _ _ (aCount fs x)
    unfold aCount
    split
    · have l := pathsIn_len (fs := fs) (x := x)
      have few := lf.few
      exact up ((PlL.cons (n := 20) (k := 0) (pl_str (z := "many") (by decide +kernel)) (PlL.cons (pl_nat (by omega)) (PlL.nil (n := 0)))).tup) (by omega) (by omega)
    · exact up pl_none1 (by omega) (by omega)
  | list x =>
    obtain ⟨z, r, e, hz⟩ := hx
    obtain rfl : x = z := by cases e; rfl
    have hx8 := (place_ok hz).2.1
    show Pl _ _ (aList fs x)
    unfold aList
    split
    · have each : ∀ y ∈ namesF fs x, okText 9 y := fun y hy => by
        have h1 := (srtS_perm _).mem_iff.mp hy
        unfold ddS at h1
        rw [dd_mem] at h1
        rcases h1 with h1 | h1
        · cases h1
        · obtain ⟨y2, h2, rfl⟩ := List.mem_map.mp h1
          obtain ⟨f, hf, rfl, _⟩ := pathsIn_sub h2
          exact first_txt (lf.each f hf).1 hx8
      have len : (namesF fs x).length ≤ 20 := by
        unfold namesF
        rw [(srtS_perm _).length_eq]
        have n1 : (ddS ((pathsIn fs x).map fun z => firstName (restOf x z))).Nodup := dd_nodup List.nodup_nil
        have := nd_le n1 (m := (pathsIn fs x).map fun z => firstName (restOf x z)) fun k hk => by
          unfold ddS at hk
          rw [dd_mem] at hk
          exact hk.resolve_left fun w => nomatch w
        rw [List.length_map] at this
        have l := pathsIn_len (fs := fs) (x := x)
        have few := lf.few
        omega
      have b := pl_lines (m := 20) each len
      exact up ((PlL.cons (n := 20) (k := 1) ((pl_str (z := "names") (by decide +kernel)).mono (Nat.le_refl _) (by omega)) (PlL.cons b (PlL.nil (n := 0)))).tup) (by omega) (by omega)
    · exact up pl_none1 (by omega) (by omega)
  | find x w =>
    show Pl _ _ (aFind fs x w)
    unfold aFind
    split
    · exact up pl_none1 (by omega) (by omega)
    · have each : ∀ d ∈ (rowsF fs x w).map dRow, Pl 30 1 d := fun d hd => by
        obtain ⟨c, hc, rfl⟩ := List.mem_map.mp hd
        unfold rowsF pairsOf2 at hc
        obtain ⟨y, hy, hc⟩ := List.mem_flatMap.mp hc
        obtain ⟨b, hb, rfl⟩ := List.mem_map.mp hc
        obtain ⟨f, hf, rfl, e⟩ := under_in nd hy
        have hb := (List.mem_filter.mp hb).1
        have lt : b.2 < 12 := by
          have hb : b ∈ ((getF fs f.1).getD []).zipIdx := hb
          rw [e] at hb
          have h1 := List.mem_zipIdx hb
          have h2 := (lf.each f hf).2.1
          simp at h1
          omega
        exact ((PlL.cons (n := 8) (k := 0) (pl_str (pth (lf.each f hf).1).text) (PlL.cons (pl_nat (i := b.2) (by omega)) (PlL.nil (n := 0)))).tup).mono (by omega) (by omega)
      have len : ((rowsF fs x w).map dRow).length ≤ 252 := by
        rw [List.length_map]
        have l1 := pairs_len (bs := fun z => ((getF fs z).getD []).zipIdx) (p := fun _ (b : Str × Nat) => occ w b.1) (n := 12) (as := underF fs x) fun y hy => by
          obtain ⟨f, hf, rfl, e⟩ := under_in nd hy
          rw [e]
          simpa using (lf.each f hf).2.1
        have l2 := under_len (fs := fs) (x := x)
        have few := lf.few
        have : 12 * (underF fs x).length ≤ 12 * 21 := Nat.mul_le_mul_left _ (by omega)
        exact Nat.le_trans l1 this
      have b := ((PlL.all each).mono (n' := 31 * 252) (Nat.mul_le_mul_left _ len) (Nat.le_refl _)).tup
      exact up ((PlL.cons (n := 20) (k := 2) ((pl_str (z := "found") (by decide +kernel)).mono (Nat.le_refl _) (by omega)) (PlL.cons b (PlL.nil (n := 0)))).tup) (by omega) (by omega)
  | write p l => simp [isQ] at hq
  | remove p => simp [isQ] at hq
  | move p t => simp [isQ] at hq
  | splice p o n => simp [isQ] at hq
end KX

set_option maxRecDepth 100000
set_option maxHeartbeats 8000000
/-! Lp: an action of the law; checked; acted. -/
namespace KX
open PySem PySem.Spec PyProof.Rows L2 TL Ga NdefX
/-- what is asked of an action: within its bounds, small -/
structure LawA (a : Act) : Prop where
  ok : a.bad = none
  small : a.small
  law : LawQ a ∨ LawD a
def spAction (K : PySem.W.Frag) : Sp := fun vs H Q _ => ∃ (B D d : Addr) (fs : List File), vs = [.ref B, .ref d] ∧ Box H B D ∧ Tab K H d fs ∧ (∀ f ∈ fs, f.1 ∈ lawPaths ∧ okLn f.2) ∧ ∀ v a H', Dt K H' v (dA a) → LawA a → Kp B H H' → Box H' B D → Q v H'
/-- the caught error -/
structure CatC (K : PySem.W.Frag) (mg : Str → Option Value) (Co : Addr) : Prop where
  gl : mg "OutOfRange" = some (.ref Co)
  exm : PySem.W.exmOne K (.ref Co) (.ref Co) = some true
  xf : XfC K Co
  nm : PySem.W.findIn K (.ref Co) "name" = some none
def dRef (z : Str) : PyData := .tuple [.str "refused", .str z]
def spChkd (K : PySem.W.Frag) : Sp := fun vs H Q _ => ∃ (v : V) (a : Act), vs = [v] ∧ Dt K H v (dA a) ∧ a.small ∧ (a.bad = none → ∀ H', Same H H' → Q .non H') ∧ ∀ n, a.bad = some n → ∀ H' u, Same H H' → Dt K H' u (dRef n) → Q u H'
theorem same_made {H H' : Hp} {x dx C : Addr} (nx : H x = none) (ndx : H dx = none) (kp : Kp x (upd (upd H dx (.own x)) x (.ins C dx [])) H') : Same H H' := fun b o e => by
  refine kp b o (ne_of_none e nx) ?_
  rw [upd_ne (ne_of_none e nx), upd_ne (ne_of_none e ndx)]
  exact e
theorem same_upd2 {H : Hp} {x dx C : Addr} (nx : H x = none) (ndx : H dx = none) (nex : dx ≠ x) : Same H (upd (upd H dx (.own x)) x (.ins C dx [])) := fun b o e => by
  rw [upd_ne (ne_of_none e nx), upd_ne (ne_of_none e ndx)]
  exact e
structure TreeK (P : Program) (w : World) (K : PySem.W.Frag) (mg : Str → Option Value) (base : Heap) (C Co : Addr) : Prop where
  gl : mg "Tree" = some (.ref C)
  ex : ∃ (f e0 : Addr) (fd : FuncData) (ds : List Value), Mk K C f ∧ FnOk P w K mg base (L2.CX P w) 5 f fd ["self", "files"] (spInit K C Co) ∧ Binds K fd ["self", "files"] [] ∧
    Binds K fd ["self", "files"] ds ∧ Vals [V.ref e0] ds ∧ ∀ H : Hp, SqT K H e0 []
theorem ref_mem (fs : List File) (a : Act) : refM fs a ∈ (["blocked", "full", "", "missing", "absent", "ambiguous", "long"] : List Str) := by
  cases a <;> unfold refM <;> (repeat' split) <;> simp
theorem ans_pl (fs : List File) (a : Act) : Pl 100 1 (lawDo fs a).1 := by
  have w : ∀ z ∈ (["blocked", "full", "", "missing", "absent", "ambiguous", "long"] : List Str), okText 20 z := by
    intro z hz
    simp only [List.mem_cons, List.not_mem_nil, or_false] at hz
    rcases hz with rfl | rfl | rfl | rfl | rfl | rfl | rfl <;> decide +kernel
  unfold lawDo
  split
  · exact pl_w (w _ (ref_mem fs a))
  · exact pl_w (by decide +kernel)
theorem sqT_made {K : PySem.W.Frag} {H : Hp} {x dx C t : Addr} {xs : List V} (nx : H x = none) (ndx : H dx = none) (nex : dx ≠ x) (h : SqT K H t xs) : SqT K (upd (upd H dx (.own x)) x (.ins C dx [])) t xs := (same_upd2 nx ndx nex).seqT h
/-- one file -/
def oneF : List File := [("a", ["x"])]
theorem one_law : LawF oneF := ⟨fun f hf => by
  obtain rfl := List.mem_singleton.mp hf
  exact ⟨by decide +kernel, by decide, fun z hz => by
    obtain rfl := List.mem_singleton.mp hz
    exact ⟨by decide +kernel, by decide +kernel⟩⟩, fun f hf g hg => by
  obtain rfl := List.mem_singleton.mp hf
  obtain rfl := List.mem_singleton.mp hg
  decide +kernel, by decide⟩
theorem one_nd : (oneF.map (·.1)).Nodup := by simp [oneF]
theorem ask_tup (fs : List File) (a : Act) : ∃ ds, askM fs a = .tuple ds := by
  cases a with
  | read x => show ∃ ds, aRead fs x = _; unfold aRead dNone; split <;> exact ⟨_, rfl⟩
  | kind x => show ∃ ds, aKind fs x = _; unfold aKind dNone; (repeat' split) <;> exact ⟨_, rfl⟩
  | list x => show ∃ ds, aList fs x = _; unfold aList dNone; split <;> exact ⟨_, rfl⟩
  | find x y => show ∃ ds, aFind fs x y = _; unfold aFind dNone; split <;> exact ⟨_, rfl⟩
  | count x => show ∃ ds, aCount fs x = _; unfold aCount dNone; split <;> exact ⟨_, rfl⟩
  | _ => exact ⟨_, rfl⟩
theorem act_tup {a : Act} (h : LawQ a ∨ LawD a) : ∃ ds, (actM oneF a).1 = .tuple ds ∧ SeqAt.shaped (actM oneF a).1 = true := by
  rcases h with h | h
  · have e : (actM oneF a).1 = askM oneF a := by unfold actM; rw [if_pos h.q]
    rw [e]
    obtain ⟨ds, ed⟩ := ask_tup oneF a
    exact ⟨ds, ed, (pl_ask one_law one_nd h).shaped (by decide)⟩
  · have e : actM oneF a = doM oneF a := by unfold actM; rw [if_neg (by rw [h.q]; simp)]
    have di := do_is one_law one_nd (List.Perm.refl _) h
    rw [e, di.ans]
    have pl := ans_pl oneF a
    refine ⟨(if refM oneF a ≠ "" then [.str (refM oneF a)] else [.str "done"]), ?_, pl.shaped (by decide)⟩
    unfold lawDo
    split <;> rfl
def spActd (K : PySem.W.Frag) : Sp := fun vs H Q _ => ∃ (v : V) (a : Act), vs = [v] ∧ Dt K H v (dA a) ∧ a.small ∧ (a.bad = none → LawQ a ∨ LawD a) ∧ (a.bad = none → ∀ H', Same H H' → Q (.bl false) H') ∧ ∀ n, a.bad = some n → ∀ H' u, Same H H' → Dt K H' u (dRef n) → Q u H'
section
variable {X : Cx} {k n : Nat} {x : Str} {ps : List Str} {sp : Sp} {e : Expr} {es : List Expr} {t : TA} {p pos : Pos} {E : L2.St → XK}
theorem pe_calXS (S : CalX X.prog X.w X.K X.mg X.base k x ps sp) (hr : Room n X.A) (hx : ∀ σ, PassesAt (L2.CX X.prog X.w) X σ (E σ)) (ha : PA X (e :: es) t) (hk : k ≤ n := by decide) (hg : Gl X x := by rfl) (hdb : (x == ("__debug__" : Str)) = false := by decide)
    (he : starEach (e :: es) X.env = (false, eval e X.env) :: starEach es X.env := by rfl) (hpl : (backTo pos (starEach es X.env)).any (·.1) = false := by rfl) : PE X (.Call (.Name x p) (e :: es) [] pos) (tCallS sp E t) := by
  obtain ⟨f, fd, F, g, kp, b⟩ := S.ex
  exact pe_callS F (hr.mono hk) hg g kp b hx ha hdb he hpl
end
section
variable {P : Program} {w : World} {K : PySem.W.Frag} {mg : Str → Option Value} {base : Heap}
theorem ok_action {f : Addr} {fd : FuncData} (F : Fun K "_law_action" "_law_action" s_L_action f fd) (T : Tx mg) (CD : Cal P w K mg base 1 "_law_draw" ["box", "many"] spDraw) (CQ : Cal P w K mg base 5 "_law_question" ["box", "files"] (spQuest K))
    (CE : Cal P w K mg base 4 "_law_deed" ["box", "files"] (spDeed K)) : FnOk P w K mg base CX0 6 f fd ["box", "files"] (spAction K) := by
  refine F.ok sc_L_action (fun vs H Q E h => ?_) (fun cdv A outer s H vs Q E hr h => ?_)
  · obtain ⟨B, D, d, fs, rfl, _⟩ := h
    rfl
  · obtain ⟨B, D, d, fs, rfl, bx, tb, lf, q⟩ := h
    refine ⟨_, pss_cons (ps_if (pt_cmpR op_eq (pe_cal CD hr pass0 (pa_cons (pv 0) (pa_cons pe_int pa_nil))) pe_int (nomark _)) (pss_one (ps_ret (pe_cal CQ hr pass0 (pa_cons (pv 0) (pa_cons (pv 1) pa_nil))))) pss_nil)
      (pss_one (ps_ret (pe_cal CE hr pass0 (pa_cons (pv 0) (pa_cons (pv 1) pa_nil))))), ?_⟩
    refine ⟨_, rfl, B, D, 2, rfl, by decide, bx, fun r H1 r0 r2 kp1 b1 => ⟨rfl, _, rfl, ite2 (fun _ => ?_) (fun _ => ?_)⟩⟩
    · exact ⟨_, rfl, _, rfl, B, D, d, fs, rfl, b1, tb.kp kp1 bx, fun f hf => (lf f hf).1, fun v a H2 dv lq kp2 b2 => q v a H2 dv ⟨lq.ok, lq.small, .inl lq⟩ (kp1.trans kp2) b2⟩
    · exact ⟨_, rfl, _, rfl, B, D, d, fs, rfl, b1, tb.kp kp1 bx, lf, fun v a H2 dv ld kp2 b2 => q v a H2 dv ⟨ld.ok, ld.small, .inr ld⟩ (kp1.trans kp2) b2⟩
end
end KX

set_option maxRecDepth 100000
set_option maxHeartbeats 4000000
/-! J1: some words, *items = a list. -/
namespace Ga
open PySem PySem.Spec PyProof.Rows L2 TL
/-- (x, y, .., *z) = a list: i heads, and a new list of the rest -/
def gStarL (K : PySem.W.Frag) (i : Nat) (t : TGs) : TG := fun v σ H Q => ∃ a xs, v = .ref a ∧ SqL K H a xs ∧ i ≤ xs.length ∧ xs.length ≤ 1000 ∧ ∀ D, H D = none → t (xs.take i ++ [.ref D]) σ (upd H D (.lst (xs.drop i))) Q
theorem vals_take {xs : List V} {us : List Value} (r : Vals xs us) (i : Nat) : Vals (xs.take i) (us.take i) := by
  induction r generalizing i with
  | nil => simp; exact .nil
  | cons h t ih => cases i with
    | zero => exact .nil
    | succ i => exact .cons h (ih i)
theorem vals_drop {xs : List V} {us : List Value} (r : Vals xs us) (i : Nat) : Vals (xs.drop i) (us.drop i) := by
  induction r generalizing i with
  | nil => simp; exact .nil
  | cons h t ih => cases i with
    | zero => exact .cons h t
    | succ i => exact ih i
theorem pg_starL {X : Cx} {K : PySem.W.Frag} (hK : X.K = K) {es : List Expr} {k i : Nat} {t : TGs} {pos : Pos} (hc : X.calm = true) (h : PGs X (bare es) t) (hm : (assignEach es X.env).map (·.2) = (assignEach (bare es) X.env).map (·.2) := by rfl)
    (hn : (assignEach es X.env).length = i + 1 := by rfl) (hst : (assignEach es X.env).findIdx? (·.1) = some i := by rfl) : PG X (.Tuple es k pos) (gStarL K i t) := by
  subst hK
  refine ⟨fun pins s σ H v u Q I r hw => ?_⟩
  obtain ⟨a, xs, rfl, hq, hi, hl, hw⟩ := hw
  obtain rfl : u = Value.ref a := r
  obtain ⟨us, rv, hp, hz⟩ := I.list hq
  have ht : s.heap.IsList a us.toArray := by
    obtain ⟨o, n, e1, e2, _, e3⟩ := hp
    exact ⟨o, e1, e2, n, e3⟩
  have hh : X.A.handled = none := I.ok.hd hc
  have hul : us.length = xs.length := rv.length.symm
  have ne : a ≠ s.heap.objs.size := by
    obtain ⟨o, ho, _⟩ := ht
    exact Nat.ne_of_lt (Heap.lt_size ho)
  rw [PyProof.Rows.assign_Tuple]
  refine wpAny_bind (wpAny_standAt ?_)
  unfold unpack
  rw [hn, hst]
  refine wpAny_bind (wpAny_holding ?_)
  unfold unpackItems notIterableAtAll
  refine wpAny_bind (wpAny_bind (wpAny_specialOf ht.typeIs slot_list_iter.lookup (wpAny_pure ?_)))
  rw [if_neg (by simp)]
  refine wpAny_bind (wpAny_holding (wpAny_pyIter_list ht ?_))
  refine wpAny_bind (wpAny_holding (PySem.W.kun_draw ne i 0 _ _ ⟨_, Heap.get?_push_size _ rfl, rfl, rfl⟩ (ht.push _) (by simp; omega) fun h1 it1 sb1 => ?_))
  have t1 : h1.IsList a us.toArray := (ht.push _).extBut sb1.extBut ne
  rw [Nat.zero_add] at it1
  obtain ⟨oi, hoi, _⟩ := id it1
  obtain ⟨ot, hot, _⟩ := id t1
  rw [List.drop_zero]
  have hfl : (us.take i).length = i := by rw [List.length_take]; omega
  show wpAny _ _ (if (us.take i).length < i then _ else _) _ _ _
  rw [if_neg (by rw [hfl]; omega)]
  refine wpAny_bind (wpAny_holding (PySem.W.kun_collect (s := { s with heap := h1 }) (T := "list_iterator") (.inr (.inr (.inl rfl))) (Walks.list (A := X.A.in1) hh s.heap.objs.size a ne us.toArray) (fun j u st => st.1.typeIs) (k := i) (by simp; omega) ⟨it1, t1⟩
    (Heap.lt_size hoi) (Heap.lt_size hot) (fun h2 tk hk => ?_) (by simp; rw [sizeLine_eq]; omega)))
  have he : ∀ b o, s.heap.get? b = some o → h2.get? b = some o := fun b o e => hk b o (Nat.ne_of_lt (Heap.lt_size e)) (sb1.extBut b o (Nat.ne_of_lt (Heap.lt_size e)) (Heap.get?_push_of_some _ e))
  have e0 : i + 1 - 1 - i = 0 := by omega
  show wpAny _ _ (if (us.drop i).length < i + 1 - 1 - i then _ else _) _ _ _
  rw [if_neg (by rw [e0]; omega)]
  show wpAny _ _ (newList ((us.drop i).take ((us.drop i).length - (i + 1 - 1 - i))) >>= fun d => pure (us.take i ++ [d] ++ (us.drop i).drop ((us.drop i).length - (i + 1 - 1 - i)))) _ _ _
  rw [e0, Nat.sub_zero, List.take_length, List.drop_length]
  have I2 : Inv X pins σ H { s with heap := h2, toks := tk } := I.kept he
  have hdl : (us.drop i).length ≤ sizeLine := by rw [List.length_drop]; exact Nat.le_trans (show _ ≤ 1000 by omega) (by decide)
  refine wpAny_bind (wpAny_newList (wpAny_pure ?_) hdl)
  have rd := vals_drop rv i
  have new : ObjOk X.prog X.w (upd H h2.objs.size (.lst (xs.drop i))) (h2.push (seqObj "list" (us.drop i).toArray 0)) h2.objs.size (.lst (xs.drop i)) := ⟨by rw [rd.length]; exact hdl, us.drop i, 0, rd, Heap.get?_push_size _ rfl⟩
  have I3 : Inv X pins σ (upd H h2.objs.size (.lst (xs.drop i))) { s with heap := h2.push (seqObj "list" (us.drop i).toArray 0), toks := tk } :=
    I2.laid (t' := tk) (fun b o e => Heap.get?_push_of_some _ e) (Nat.le_refl _) new
  rw [hm, List.append_nil]
  exact h.run pins _ σ _ (xs.take i ++ [.ref h2.objs.size]) (us.take i ++ [.ref h2.objs.size]) Q I3 ((vals_take rv i).append (.cons (show L2.RelV (V.ref h2.objs.size) (.ref h2.objs.size) from rfl) .nil)) (hw _ (I2.hok.fresh (Nat.le_refl _)))
end Ga

set_option maxRecDepth 100000
set_option maxHeartbeats 4000000
/-! J2: the rules by the written part's name. -/
namespace Ga
open PySem PySem.Spec PyProof.Rows L2 TL
section
variable {X : Cx} {K : PySem.W.Frag}
/-- len of a list or a tuple -/
def rLenQ (K : PySem.W.Frag) : List V → Hp → VK → Prop := fun xs H Q => ∃ p ys, xs = [.ref p] ∧ (SqL K H p ys ∨ SqT K H p ys) ∧ Q (.int ys.length) H
theorem kLen (h : X.K = K) : CallR X (.builtin "len") (rLenQ K) := by
  subst h
  exact call_len_seq
theorem kEq (h : X.K = K) (hu : X.A.units + 64 < cLine) : OpR X (compareOp .Eq) (rEqD K) := by
  subst h
  exact op_eqD hu
theorem kNe (h : X.K = K) (hu : X.A.units + 64 < cLine) : OpR X (compareOp .NotEq) (rNeD K) := by
  subst h
  exact op_neD hu
theorem kSlL (h : X.K = K) : SlR X (rSlL K) := by
  subst h
  exact sl_list
/-- list(xs) -/
def rListOf (K : PySem.W.Frag) : List V → Hp → VK → Prop := fun xs H Q => ∃ p ys, xs = [.ref p] ∧ (SqL K H p ys ∨ SqT K H p ys) ∧ ∀ l, H l = none → Q (.ref l) (upd H l (.lst ys))
theorem kList (h : X.K = K) : CallR X (.type "list") (rListOf K) := by
  subst h
  exact call_list_of
theorem kAll (h : X.K = K) (hc : X.calm = true) : CallR X (.builtin "all") (rAll K) := by
  subst h
  exact cr_all hc
theorem kAny (h : X.K = K) (hc : X.calm = true) : CallR X (.builtin "any") (rAny K) := by
  subst h
  exact cr_any hc
end
end Ga

set_option maxRecDepth 100000
set_option maxHeartbeats 4000000
/-! J3: blocks of 32 numbers, read as pieces. -/
namespace Ga
open PySem PySem.Spec PyProof.Rows L2 TL
abbrev iv (ns : List Int) : List V := ns.map V.int
def IsB (ns : List Int) : Prop := ns.length = 32 ∧ ∀ x ∈ ns, 0 ≤ x ∧ x ≤ 255
def isCode (c : Int) : Bool := decide (c = 10) || (decide (32 ≤ c) && decide (c ≤ 126) && !decide (c = 37))
def signOf (c : Int) : Str := ⟨#[c.toNat]⟩
def textOf (cs : List Int) : Str := ⟨(cs.map Int.toNat).toArray⟩
def codesM (ns : List Int) : List Int := (ns.drop 6).take (ns.getD 5 0).toNat
def restM (ns : List Int) : List Int := (ns.drop (6 + (ns.getD 5 0).toNat)).take (25 - (ns.getD 5 0).toNat)
/-- what the marks and counts say -/
def headM (ns : List Int) : Bool := !(decide (ns.getD 0 0 ≠ 76) || (decide (ns.getD 31 0 ≠ 76) || (decide (ns.getD 1 0 ≥ ns.getD 2 0) || decide (ns.getD 5 0 > 24))))
def okM (ns : List Int) : Bool := headM ns && ((codesM ns).all isCode && (restM ns).all fun b => decide (b = 0))
def decM (ns : List Int) : Option (Int × Int × Int × Str) := if okM ns = true then some (ns.getD 1 0, ns.getD 2 0, 256 * ns.getD 3 0 + ns.getD 4 0, textOf (codesM ns)) else none
def decD (ns : List Int) : PyData := match decM ns with
  | none => .none
  | some (a, b, c, t) => .tuple [.int a, .int b, .int c, .str t]
def dI (ns : List Int) : PyData := .list (ns.map PyData.int)
theorem dp_ints {K : PySem.W.Frag} {H : Hp} : ∀ ns : List Int, DpAll K H (iv ns) (ns.map PyData.int)
  | [] => .nil
  | z :: r => .cons (.int z) (dp_ints r)
theorem can_ints : ∀ l : List Int, PyData.canLayAll0 (l.map PyData.int) = true
  | [] => rfl
  | z :: r => by
    show (true && PyData.canLayAll0 (r.map PyData.int)) = true
    rw [can_ints r]
    rfl
theorem depth_ints : ∀ l : List Int, PyData.depthAll (l.map PyData.int) = 0
  | [] => rfl
  | z :: r => by
    show max 0 (PyData.depthAll (r.map PyData.int)) = 0
    rw [depth_ints r]
    rfl
theorem shaped_ints (l : List Int) : SeqAt.shaped (dI l) = true := by
  unfold SeqAt.shaped dI
  rw [show PyData.canLay0 (.list (l.map PyData.int)) = PyData.canLayAll0 (l.map PyData.int) from rfl, can_ints l,
    show PyData.depth (.list (l.map PyData.int)) = PyData.depthAll (l.map PyData.int) + 1 from rfl, depth_ints]
  rfl
theorem eqv_refl' {d : PyData} (h : SeqAt.shaped d = true) : PyData.eqv d d = true := SeqAt.eqv_refl d (SeqAt.canLay_of_shaped h)
theorem tl_textOf (cs : List Int) : tl (textOf cs) = cs.map Int.toNat := by simp [textOf, tl]
theorem text_strOk {cs : List Int} (h : cs.all isCode = true) : PyData.strOk (textOf cs) = true := by
  show (textOf cs).cps.all (· < 0x110000) = true
  rw [← Array.all_toList, List.all_eq_true]
  intro c hc
  have hc2 : c ∈ cs.map Int.toNat := by rw [← tl_textOf]; exact hc
  obtain ⟨x, hx, rfl⟩ := List.mem_map.mp hc2
  have h2 := List.all_eq_true.mp h x hx
  unfold isCode at h2
  simp only [Bool.or_eq_true, Bool.and_eq_true, decide_eq_true_eq] at h2
  exact decide_eq_true (by omega)
theorem shaped_dec (ns : List Int) : SeqAt.shaped (decD ns) = true := by
  unfold decD decM
  by_cases h : okM ns = true
  · rw [if_pos h]
    unfold okM at h
    rw [Bool.and_eq_true, Bool.and_eq_true] at h
    have hs := text_strOk h.2.1
    show (PyData.canLayAll0 [_, _, _, _] && _) = true
    have e : PyData.canLayAll0 [PyData.int (ns.getD 1 0), .int (ns.getD 2 0), .int (256 * ns.getD 3 0 + ns.getD 4 0), .str (textOf (codesM ns))] = PyData.strOk (textOf (codesM ns)) := by
      show (true && (true && (true && (PyData.strOk (textOf (codesM ns)) && true)))) = _
      simp
    rw [e, hs]
    rfl
  · rw [if_neg h]
    rfl
theorem paired_and {α β : Type} {R : α → β → Prop} {p : α → Prop} : ∀ {l : List α} {m : List β}, Paired R l m → (∀ a ∈ l, p a) → Paired (fun a b => p a ∧ R a b) l m
  | _, _, .nil, _ => .nil
  | _, _, .cons h t, k => .cons ⟨k _ List.mem_cons_self, h⟩ (paired_and t fun a ha => k a (List.mem_cons_of_mem _ ha))
theorem paired_len {α β : Type} {R : α → β → Prop} : ∀ {l : List α} {m : List β}, Paired R l m → l.length = m.length
  | _, _, .nil => rfl
  | _, _, .cons _ t => by rw [List.length_cons, List.length_cons, paired_len t]
theorem flat_one {α : Type} (x : α) : ∀ n : Nat, (List.replicate n [x]).flatten = List.replicate n x
  | 0 => rfl
  | n + 1 => by rw [List.replicate_succ, List.flatten_cons, flat_one x n]; rfl
/-! ### a block's parts -/
theorem IsB.get {ns : List Int} (h : IsB ns) {i : Nat} (hi : i < 32) : ns[i]? = some (ns.getD i 0) ∧ 0 ≤ ns.getD i 0 ∧ ns.getD i 0 ≤ 255 := by
  have hl : i < ns.length := by rw [h.1]; exact hi
  have e : ns.getD i 0 = ns[i] := by rw [List.getD_eq_getElem?_getD, List.getElem?_eq_getElem hl]; rfl
  rw [e]
  exact ⟨List.getElem?_eq_getElem hl, h.2 _ (List.getElem_mem hl)⟩
theorem IsB.at {ns : List Int} (h : IsB ns) {i : Nat} (hi : i < 32) : atI (iv ns) ((i : Nat) : Int) = some (V.int (ns.getD i 0)) :=
  atI_nat (by rw [List.getElem?_map, (h.get hi).1]; rfl)
theorem cut_nat (xs : List V) (a b : Nat) (hb : b ≤ xs.length) : cutV xs (some (a : Int)) (some (b : Int)) = (xs.drop a).take (b - a) := by
  unfold cutV
  rw [show HT.sIx xs.length 0 (some (a : Int)) = min a xs.length from HT.sIx_nat _ _ _, show HT.sIx xs.length xs.length (some (b : Int)) = min b xs.length from HT.sIx_nat _ _ _, Nat.min_eq_left hb]
  rcases Nat.lt_or_ge a xs.length with h | h
  · rw [Nat.min_eq_left (Nat.le_of_lt h)]
  · rw [Nat.min_eq_right h, List.drop_eq_nil_of_le (Nat.le_refl _), List.drop_eq_nil_of_le h, List.take_nil, List.take_nil]
theorem cut_to (xs : List V) (b : Nat) : cutV xs none (some (b : Int)) = xs.take b := by
  unfold cutV
  rw [show HT.sIx xs.length 0 none = 0 from rfl, show HT.sIx xs.length xs.length (some (b : Int)) = min b xs.length from HT.sIx_nat _ _ _, List.drop_zero, Nat.sub_zero]
  exact List.take_eq_take_min.symm
theorem cut_from (xs : List V) (a : Nat) : cutV xs (some (a : Int)) none = xs.drop a := by
  unfold cutV
  rw [show HT.sIx xs.length 0 (some (a : Int)) = min a xs.length from HT.sIx_nat _ _ _, show HT.sIx xs.length xs.length none = xs.length from rfl]
  rcases Nat.lt_or_ge a xs.length with h | h
  · rw [Nat.min_eq_left (Nat.le_of_lt h), List.take_of_length_le (by rw [List.length_drop]; exact Nat.le_refl _)]
  · rw [Nat.min_eq_right h, List.drop_eq_nil_of_le (Nat.le_refl _), List.drop_eq_nil_of_le h, List.take_nil]
/-- rest[count:-1] -/
theorem cut_back (xs : List V) (a : Nat) (hne : xs ≠ []) : cutV xs (some (a : Int)) (some (-1)) = (xs.drop a).take (xs.length - 1 - a) := by
  have h0 : 0 < xs.length := List.length_pos_iff.mpr hne
  have e : (HT.sIx xs.length xs.length (some (-1))) = xs.length - 1 := by
    show (if (-1 : Int) < 0 then ((-1 : Int) + (xs.length : Int)).toNat else min (-1 : Int).toNat xs.length) = _
    rw [if_pos (by decide)]
    omega
  unfold cutV
  rw [show HT.sIx xs.length 0 (some (a : Int)) = min a xs.length from HT.sIx_nat _ _ _, e]
  rcases Nat.lt_or_ge a xs.length with h | h
  · rw [Nat.min_eq_left (Nat.le_of_lt h)]
  · rw [Nat.min_eq_right h, List.drop_eq_nil_of_le h, List.drop_eq_nil_of_le (Nat.le_refl xs.length), List.take_nil, List.take_nil]
theorem take_iv (ns : List Int) (n : Nat) : (iv ns).take n = iv (ns.take n) := (List.map_take ..).symm
theorem drop_iv (ns : List Int) (n : Nat) : (iv ns).drop n = iv (ns.drop n) := (List.map_drop ..).symm
theorem set_iv (ns : List Int) (i : Nat) (v : Int) : (iv ns).set i (.int v) = iv (ns.set i v) := (List.map_set ..).symm
theorem app_iv (ns ms : List Int) : iv ns ++ iv ms = iv (ns ++ ms) := (List.map_append ..).symm
theorem IsB.app {ns ms : List Int} (hn : ∀ x ∈ ns, 0 ≤ x ∧ x ≤ 255) (hm : ∀ x ∈ ms, 0 ≤ x ∧ x ≤ 255) (hl : ns.length + ms.length = 32) : IsB (ns ++ ms) :=
  ⟨by rw [List.length_append]; exact hl, fun x hx => (List.mem_append.mp hx).elim (hn x) (hm x)⟩
theorem IsB.set {ns : List Int} (h : IsB ns) (i : Nat) {v : Int} (hv : 0 ≤ v ∧ v ≤ 255) : IsB (ns.set i v) :=
  ⟨by rw [List.length_set]; exact h.1, fun x hx => (List.mem_or_eq_of_mem_set hx).elim (h.2 x) fun e => e ▸ hv⟩
/-! ### pieces -/
def upI (l : List Nat) : List Int := l.map fun (c : Nat) => (c : Int)
theorem upI_len (l : List Nat) : (upI l).length = l.length := List.length_map ..
def okS (c : Nat) : Bool := isCode (c : Int)
def pieceM (k many number : Int) (part : List Nat) : List Int := ([76, k, many, number / 256, number % 256, (part.length : Int)] ++ upI part) ++ (List.replicate (25 - part.length) 0 ++ [76])
def partM (l : List Nat) (k : Nat) : List Nat := (l.drop (24 * k)).take 24
def manyM (n : Nat) : Nat := max 1 ((n + 23) / 24)
def piecesM (number : Int) (l : List Nat) : List (List Int) := (List.range (manyM l.length)).map fun k => pieceM (k : Nat) (manyM l.length : Nat) number (partM l k)
theorem part_len (l : List Nat) (k : Nat) : (partM l k).length ≤ 24 := by
  unfold partM
  rw [List.length_take]
  exact Nat.min_le_left _ _
theorem piece_len {k many number : Int} {part : List Nat} (h : part.length ≤ 24) : (pieceM k many number part).length = 32 := by
  unfold pieceM
  simp [upI_len]
  omega
theorem getD_app {α : Type} {l m : List α} {i : Nat} {d : α} (h : i < l.length) : (l ++ m).getD i d = l.getD i d := by
  rw [List.getD_eq_getElem?_getD, List.getD_eq_getElem?_getD, List.getElem?_append_left h]
theorem piece_get {k many number : Int} {part : List Nat} (h : part.length ≤ 24) :
    (pieceM k many number part).getD 0 0 = 76 ∧ (pieceM k many number part).getD 1 0 = k ∧ (pieceM k many number part).getD 2 0 = many ∧ (pieceM k many number part).getD 3 0 = number / 256 ∧ (pieceM k many number part).getD 4 0 = number % 256 ∧
      (pieceM k many number part).getD 5 0 = part.length ∧ (pieceM k many number part).getD 31 0 = 76 := by
  have hi : ∀ i, i < 6 → (pieceM k many number part).getD i 0 = ([76, k, many, number / 256, number % 256, (part.length : Int)] : List Int).getD i 0 := by
    intro i hi
    unfold pieceM
    rw [List.append_assoc, getD_app (by exact hi)]
  refine ⟨hi 0 (by decide), hi 1 (by decide), hi 2 (by decide), hi 3 (by decide), hi 4 (by decide), hi 5 (by decide), ?_⟩
  unfold pieceM
  rw [← List.append_assoc, List.getD_eq_getElem?_getD, List.getElem?_append_right (by simp [upI_len]; omega)]
  have : 31 - (([76, k, many, number / 256, number % 256, (part.length : Int)] ++ upI part) ++ List.replicate (25 - part.length) 0).length = 0 := by simp [upI_len]; omega
  rw [this]
  rfl
theorem piece_codes {k many number : Int} {part : List Nat} (h : part.length ≤ 24) : codesM (pieceM k many number part) = upI part := by
  unfold codesM
  rw [(piece_get h).2.2.2.2.2.1, Int.toNat_natCast]
  unfold pieceM
  rw [List.append_assoc, show (6 : Nat) = ([76, k, many, number / 256, number % 256, (part.length : Int)] : List Int).length from rfl, List.drop_left]
  have : part.length = (upI part).length := (upI_len part).symm
  rw [this, List.take_left]
theorem piece_rest {k many number : Int} {part : List Nat} (h : part.length ≤ 24) : restM (pieceM k many number part) = List.replicate (25 - part.length) 0 := by
  unfold restM
  rw [(piece_get h).2.2.2.2.2.1, Int.toNat_natCast]
  unfold pieceM
  have e : 6 + part.length = ([76, k, many, number / 256, number % 256, (part.length : Int)] ++ upI part).length := by simp [upI_len]; omega
  rw [e, List.drop_left]
  generalize 25 - part.length = n
  exact (congrArg (fun m => List.take m (List.replicate n (0 : Int) ++ [76])) (List.length_replicate (n := n) (a := (0 : Int))).symm).trans List.take_left
theorem piece_ok {k many number : Int} {part : List Nat} (h : part.length ≤ 24) (hk : k < many) (hs : ∀ c ∈ part, okS c = true) : okM (pieceM k many number part) = true := by
  unfold okM
  obtain ⟨g0, g1, g2, g3, g4, g5, g31⟩ := piece_get (k := k) (many := many) (number := number) h
  have hh : headM (pieceM k many number part) = true := by
    unfold headM
    rw [g0, g1, g2, g5, g31]
    simp
    omega
  rw [hh, piece_codes h, piece_rest h, Bool.true_and, Bool.and_eq_true]
  refine ⟨List.all_eq_true.mpr fun x hx => ?_, List.all_eq_true.mpr fun x hx => ?_⟩
  · obtain ⟨c, hc, rfl⟩ := List.mem_map.mp hx
    exact hs c hc
  · rw [(List.mem_replicate.mp hx).2]
    rfl
theorem piece_dec {k many number : Int} {part : List Nat} (h : part.length ≤ 24) (hk : k < many) (hs : ∀ c ∈ part, okS c = true) :
    decM (pieceM k many number part) = some (k, many, number, ⟨part.toArray⟩) := by
  unfold decM
  rw [if_pos (piece_ok h hk hs)]
  obtain ⟨g0, g1, g2, g3, g4, g5, g31⟩ := piece_get (k := k) (many := many) (number := number) h
  rw [g1, g2, g3, g4, piece_codes h]
  have e : 256 * (number / 256) + number % 256 = number := Int.mul_ediv_add_emod number 256
  have e2 : textOf (upI part) = ⟨part.toArray⟩ := by
    unfold textOf upI
    rw [List.map_map]
    congr 2
    conv => rhs; rw [← List.map_id part]
    apply List.map_congr_left
    intro c _
    simp
  rw [e, e2]
theorem isCode_le {c : Int} (h : isCode c = true) : 0 ≤ c ∧ c ≤ 255 := by
  unfold isCode at h
  simp only [Bool.or_eq_true, Bool.and_eq_true, decide_eq_true_eq] at h
  omega
theorem piece_isB {k many number : Int} {part : List Nat} (h : part.length ≤ 24) (hk : 0 ≤ k ∧ k ≤ 255) (hm : 0 ≤ many ∧ many ≤ 255) (hn : 0 ≤ number ∧ number < 65536) (hs : ∀ c ∈ part, okS c = true) : IsB (pieceM k many number part) := by
  refine ⟨piece_len h, fun x hx => ?_⟩
  unfold pieceM at hx
  rcases List.mem_append.mp hx with hx | hx
  · rcases List.mem_append.mp hx with hx | hx
    · simp only [List.mem_cons, List.not_mem_nil, or_false] at hx
      have := Int.emod_nonneg number (show (256 : Int) ≠ 0 by decide)
      have := Int.emod_lt_of_pos number (show (0 : Int) < 256 by decide)
      rcases hx with rfl | rfl | rfl | rfl | rfl | rfl <;> omega
    · obtain ⟨c, hc, rfl⟩ := List.mem_map.mp hx
      exact isCode_le (hs c hc)
  · rcases List.mem_append.mp hx with hx | hx
    · rw [(List.mem_replicate.mp hx).2]
      decide
    · rw [List.mem_singleton.mp hx]
      decide
end Ga

set_option maxRecDepth 100000
set_option maxHeartbeats 4000000
/-! J4: isinstance, enumerate, starred items, long texts. -/
namespace Ga
open PySem PySem.Spec PyProof.Rows L2 TL StX
section
variable {X : Cx} {K : PySem.W.Frag}
theorem kIsi (h : X.K = K) : CallR X (.builtin "isinstance") (rIsi K) := by
  subst h
  exact call_isi
theorem kEnum (h : X.K = K) {e : Expr} {ta : TA} {p pos tpos : Pos} {elts : List Expr} {kk : Nat} (hg : Gl X "enumerate") (hm : X.mg "enumerate" = none) (ha : PA X [e] ta) (hs : starEach [e] X.env = [(false, eval e X.env)] := by rfl) :
    PI X (.Tuple elts kk tpos) (.Call (.Name "enumerate" p) [e] [] pos) (iEnum K ta) := by
  subst h
  exact pi_enum hg hm ha hs
theorem kStar (h : X.K = K) {e : Expr} {es : List Expr} {te : TE} {t : TA} {p : Pos} (he : PE X e te) (hr : PA X es t) (hs : starEach (.Starred e p :: es) X.env = (true, eval e X.env) :: starEach es X.env := by rfl) : PA X (.Starred e p :: es) (tStar K te t) := by
  subst h
  exact pa_star he hr hs
end
theorem tyTup {K : PySem.W.Frag} {H : Hp} {a : Addr} {xs : List V} (h : SqT K H a xs) : TyX K H (.ref a) (.type "tuple") := by
  rcases h with (h | ⟨o, h⟩) | ⟨o, its, n, h, c, _⟩
  · exact .base (.tup h)
  · exact .fTuple h
  · exact .kTuple h c
theorem tyLst {K : PySem.W.Frag} {H : Hp} {a : Addr} {xs : List V} (h : SqL K H a xs) : TyX K H (.ref a) (.type "list") := by
  rcases h with (h | ⟨o, h⟩) | ⟨o, its, n, h, c, _⟩
  · exact .base (.lst h)
  · exact .base (.frz h)
  · exact .kList h c
def dRs (rs : List (List Int)) : PyData := .list (rs.map dI)
theorem can_rs : ∀ rs : List (List Int), PyData.canLayAll0 (rs.map dI) = true
  | [] => rfl
  | z :: r => by
    show (PyData.canLayAll0 (z.map PyData.int) && PyData.canLayAll0 (r.map dI)) = true
    rw [can_ints, can_rs r]
    rfl
theorem depth_rs : ∀ rs : List (List Int), PyData.depthAll (rs.map dI) ≤ 1
  | [] => Nat.zero_le _
  | z :: r => by
    show max (PyData.depthAll (z.map PyData.int) + 1) (PyData.depthAll (r.map dI)) ≤ 1
    rw [depth_ints]
    exact Nat.max_le.mpr ⟨Nat.le_refl _, depth_rs r⟩
theorem shaped_rs (rs : List (List Int)) : SeqAt.shaped (dRs rs) = true := by
  unfold SeqAt.shaped dRs
  rw [show PyData.canLay0 (.list (rs.map dI)) = PyData.canLayAll0 (rs.map dI) from rfl, can_rs rs, show PyData.depth (.list (rs.map dI)) = PyData.depthAll (rs.map dI) + 1 from rfl, Bool.true_and, decide_eq_true_eq]
  have := depth_rs rs
  omega
/-- text * number, long -/
def rMulL : R2 := fun x y H Q => ∃ (z : Str) (n : Int), x = .str z ∧ y = .int n ∧ 0 ≤ n ∧ n ≤ 10000 ∧ (tl z).length ≤ 1000 ∧ ∀ r : Str, tl r = (List.replicate n.toNat (tl z)).flatten → Q (.str r) H
theorem op_mulL {X : Cx} : OpR X (binaryOp .Mult) rMulL := by
  intro pins s σ H x y v u Q I rx ry h
  obtain ⟨z, n, rfl, rfl, h0, h1, hz, q⟩ := h
  obtain ⟨t, rfl⟩ := rx
  obtain ⟨t2, rfl⟩ := ry
  have hl : z.length = (tl z).length := len_tl z
  have e63 : (2 : Int) ^ 63 = 9223372036854775808 := by decide
  refine PySem.P.mul_str ?_ (fun a b => ?_) (fun a b => ?_) ?_
  · rw [decide_eq_false (by omega), decide_eq_false (by omega)]
    rfl
  · have : (2 ^ 63 - 1 : Int) / n ≥ (2 ^ 63 - 1 : Int) / 10000 := by
      rw [e63]
      apply Int.le_ediv_of_mul_le (by omega)
      have : (9223372036854775808 - 1 : Int) / 10000 = 922337203685477 := by decide
      rw [this]
      have := Int.mul_le_mul_of_nonneg_left h1 (show (0 : Int) ≤ 922337203685477 by decide)
      omega
    have e2 : (2 ^ 63 - 1 : Int) / 10000 = 922337203685477 := by decide
    omega
  · have : z.length * n.toNat ≤ 1000 * 10000 := Nat.mul_le_mul (by omega) (by omega)
    have s1 : sizeLine = 16777216 := by decide
    exact decide_eq_false (by omega)
  · split
    · have e0 : n.toNat = 0 := by omega
      refine ⟨by decide, .str Str.empty, H, I.tok _, ⟨_, rfl⟩, q _ ?_⟩
      rw [e0]
      rfl
    · split
      · rename_i g1 g2
        refine ⟨.str z, H, I, ⟨_, rfl⟩, q z ?_⟩
        rw [Bool.or_eq_true, beq_iff_eq, beq_iff_eq] at g2
        rcases g2 with g2 | g2
        · rw [g2]
          show tl z = tl z ++ []
          rw [List.append_nil]
        · have e0 : tl z = [] := List.length_eq_zero_iff.mp (by rw [← hl]; exact g2)
          have := flat_len (tl z) n.toNat
          rw [e0] at this ⊢
          exact (List.length_eq_zero_iff.mp (by simpa using this)).symm
      · have e : tl ⟨(List.replicate n.toNat z.cps).foldl (· ++ ·) #[]⟩ = (List.replicate n.toNat (tl z)).flatten := flat_arr z.cps n.toNat #[]
        have s1 : sizeLine = 16777216 := by decide
        refine ⟨?_, .str _, H, I.tok _, ⟨_, rfl⟩, q _ e⟩
        rw [len_tl, e, flat_len]
        have : n.toNat * (tl z).length ≤ 10000 * 1000 := Nat.mul_le_mul (by omega) (by omega)
        omega
end Ga

set_option maxRecDepth 100000
set_option maxHeartbeats 4000000
/-! G5: a dict that is not the empty one; a list taken apart by an assignment. -/
namespace Ga
open PySem PySem.Spec PyProof.Rows L2 TL
/-- files != {} -/
def rNeE : R2 := fun x y H Q => ∃ a b ks, x = .ref a ∧ y = .ref b ∧ H a = some (.dK ks) ∧ H b = some (.dK []) ∧ Q (.bl (!ks.isEmpty)) H
theorem op_neE {X : Cx} (hu : X.A.units < cLine) : OpR X (compareOp .NotEq) rNeE := by
  intro pins s σ H x y v u Q I rx ry h
  obtain ⟨a, b, ks, rfl, rfl, ea, eb, q⟩ := h
  cases ks with
  | nil => exact op_ne_dictA hu pins s σ H _ _ v u Q I rx ry ⟨a, b, [], [], rfl, rfl, ea, eb, rfl, (fun _ h => nomatch h), q⟩
  | cons k ks =>
    obtain rfl : v = Value.ref a := rx
    obtain rfl : u = Value.ref b := ry
    obtain ⟨_, ya, va, ra, da⟩ := (show ObjOk X.prog X.w H s.heap a (.dK (k :: ks)) from I.hok a _ ea)
    obtain ⟨_, yb, vb, rb, db⟩ := (show ObjOk X.prog X.w H s.heap b (.dK []) from I.hok b _ eb)
    have h1 : va.length = ks.length + 1 := by rw [← ra.length]; rfl
    have h2 : vb.length = 0 := by rw [← rb.length]; rfl
    have hl : (va.length == vb.length) = false := by rw [h1, h2]; rfl
    exact PySem.W.keq_ne (knd := mixKind X.prog X.w) (r := true) ya yb da db hu (fun z => absurd z (by omega)) (fin_bl I q (by rw [hl]; rfl))
theorem pgU {X : Cx} {K : PySem.W.Frag} (h : X.K = K) {es : List Expr} {k : Nat} {t : TGs} {n : Nat} {pos : Pos} (hc : X.calm = true) (hg : PGs X es t)
    (hn : (assignEach es X.env).length = n := by rfl) (hst : (assignEach es X.env).findIdx? (·.1) = none := by rfl) : PG X (.Tuple es k pos) (gUnl K n t) := by
  subst h
  exact pg_unl hc hg hn hst
end Ga

set_option maxRecDepth 100000
set_option maxHeartbeats 1000000
/-! Na: sameanswers.journals. -/
namespace KX
open PySem PySem.Spec PyProof.Rows L2 TL Ga NdefX StX
abbrev Ent := Act × PyData
def stepM (s : List Ent × List File) (a : Act) : List Ent × List File := (s.1 ++ [(a, (actM s.2 a).1)], (actM s.2 a).2)
/-- the journal of these actions, and the files that they leave -/
def runM (fs : List File) (as : List Act) : List Ent × List File := as.foldl stepM ([], fs)
theorem runM_snoc (fs : List File) (as : List Act) {i : Nat} {a : Act} (h : as[i]? = some a) : runM fs (as.take (i + 1)) = stepM (runM fs (as.take i)) a := by
  unfold runM
  rw [List.take_add_one, h, List.foldl_append]
  rfl
theorem runM_len (fs : List File) (as : List Act) : (runM fs as).1.length = as.length := by
  have : ∀ (as : List Act) (s : List Ent × List File), (as.foldl stepM s).1.length = s.1.length + as.length := by
    intro as
    induction as with
    | nil => exact fun s => rfl
    | cons a r ih =>
      intro s
      rw [List.foldl_cons, ih]
      show (s.1 ++ [_]).length + r.length = s.1.length + (r.length + 1)
      rw [List.length_append]
      show s.1.length + 1 + r.length = _
      omega
  exact (this as _).trans (by show 0 + as.length = _; omega)
/-- the files are such that act may be asked of them -/
def FsOk (fs : List File) : Prop := Sml fs ∧ fs.length ≤ 39 ∧ okS fs
def EntAt (K : PySem.W.Frag) (H : Hp) (v : V) (e : Ent) : Prop := ∃ t x u, v = .ref t ∧ SqT K H t [x, u] ∧ Dt K H x (dA e.1) ∧ Dt K H u e.2
def JrnAt (K : PySem.W.Frag) (H : Hp) (v : V) (js : List Ent) : Prop := ∃ t ws, v = .ref t ∧ SqT K H t ws ∧ Paired (EntAt K H) ws js
theorem EntAt.st {K : PySem.W.Frag} {H H' : Hp} {v : V} {e : Ent} (h : EntAt K H v e) (s : SameT H H') : EntAt K H' v e := by
  obtain ⟨t, x, u, rfl, h1, h2, h3⟩ := h
  exact ⟨t, x, u, rfl, s.sq h1, h2.st s, h3.st s⟩
theorem JrnAt.st {K : PySem.W.Frag} {H H' : Hp} {v : V} {js : List Ent} (h : JrnAt K H v js) (s : SameT H H') : JrnAt K H' v js := by
  obtain ⟨t, ws, rfl, h1, h2⟩ := h
  exact ⟨t, ws, rfl, s.sq h1, h2.mono fun _ _ q => q.st s⟩
theorem TreeAt.putL {K : PySem.W.Frag} {C p l : Addr} {H : Hp} {fs : List File} {xs : List V} {o : HO} (t : TreeAt K C H p fs) (h : H l = some (.lst xs)) : TreeAt K C (upd H l o) p fs := by
  obtain ⟨dx, d, hp, kvs, hd, pr, rest⟩ := t
  have st : SameT H (upd H l o) := .put h rfl
  have n1 : p ≠ l := fun e => by rw [e, h] at hp; cases hp
  have n2 : d ≠ l := fun e => by rw [e, h] at hd; cases hd
  exact ⟨dx, d, by rw [upd_ne n1]; exact hp, kvs, by rw [upd_ne n2]; exact hd, pr.mono fun _ _ q => ⟨q.1, q.2.st st⟩, rest⟩
/-- run(tree, actions), the actions a tuple -/
def spRun (K : PySem.W.Frag) (C : Addr) : Sp := fun vs H Q _ => ∃ (p t : Addr) (ws : List V) (fs : List File) (as : List Act), vs = [.ref p, .ref t] ∧ TreeAt K C H p fs ∧ SqT K H t ws ∧ Paired (fun v a => Dt K H v (dA a)) ws as ∧ as.length ≤ 1000 ∧
  (∀ a ∈ as, a.small ∧ a.bad = none) ∧ (∀ i, i < as.length → FsOk (runM fs (as.take i)).2) ∧ ∀ r j p' H', Same H H' → H r = none → SqT K H' r [j, .ref p'] → JrnAt K H' j (runM fs as).1 → TreeAt K C H' p' (runM fs as).2 → Q (.ref r) H'
/-- the first entry whose answer is another one there -/
def fcM : List File → Nat → List Ent → Option (Nat × PyData)
  | _, _, [] => none
  | fs, i, (a, d) :: r => if PyData.eqv (actM fs a).1 d = true then fcM (actM fs a).2 (i + 1) r else some (i, (actM fs a).1)
/-- first_change(journal, tree) -/
def spFirst (K : PySem.W.Frag) (C : Addr) : Sp := fun vs H Q _ => ∃ (t p : Addr) (ws : List V) (fs : List File) (js : List Ent), vs = [.ref t, .ref p] ∧ TreeAt K C H p fs ∧ SqT K H t ws ∧ Paired (EntAt K H) ws js ∧ js.length ≤ 1000 ∧
  (∀ e ∈ js, e.1.small ∧ e.1.bad = none ∧ SeqAt.shaped e.2 = true) ∧ (∀ i a, (js.map (·.1))[i]? = some a → FsOk (runM fs ((js.map (·.1)).take i)).2 ∧ SeqAt.shaped (actM (runM fs ((js.map (·.1)).take i)).2 a).1 = true) ∧
  (fcM fs 0 js = none → ∀ H', Same H H' → Q .non H') ∧ (∀ i d, fcM fs 0 js = some (i, d) → ∀ r u H', Same H H' → H r = none → SqT K H' r [.int (i : Nat), u] → Dt K H' u d → Q (.ref r) H')
section
variable {P : Program} {w : World} {K : PySem.W.Frag} {mg : Str → Option Value} {base : Heap} {C Co : Addr}
/-- holds(journal, tree) -/
def spHolds (K : PySem.W.Frag) (C : Addr) : Sp := fun vs H Q _ => ∃ (t p : Addr) (ws : List V) (fs : List File) (js : List Ent), vs = [.ref t, .ref p] ∧ TreeAt K C H p fs ∧ SqT K H t ws ∧ Paired (EntAt K H) ws js ∧ js.length ≤ 1000 ∧
  (∀ e ∈ js, e.1.small ∧ e.1.bad = none ∧ SeqAt.shaped e.2 = true) ∧ (∀ i a, (js.map (·.1))[i]? = some a → FsOk (runM fs ((js.map (·.1)).take i)).2 ∧ SeqAt.shaped (actM (runM fs ((js.map (·.1)).take i)).2 a).1 = true) ∧ ∀ H', Same H H' → Q (.bl (fcM fs 0 js).isNone) H'
/-- run(tree, actions), the actions a list -/
def spRunL (K : PySem.W.Frag) (C : Addr) : Sp := fun vs H Q _ => ∃ (p t : Addr) (ws : List V) (fs : List File) (as : List Act), vs = [.ref p, .ref t] ∧ TreeAt K C H p fs ∧ SqL K H t ws ∧ Paired (fun v a => Dt K H v (dA a)) ws as ∧ as.length ≤ 1000 ∧
  (∀ a ∈ as, a.small ∧ a.bad = none) ∧ (∀ i, i < as.length → FsOk (runM fs (as.take i)).2) ∧ ∀ r j p' H', Same H H' → H r = none → SqT K H' r [j, .ref p'] → JrnAt K H' j (runM fs as).1 → TreeAt K C H' p' (runM fs as).2 → Q (.ref r) H'
/-- lead(journal, tree) -/
def spLead (K : PySem.W.Frag) (C : Addr) : Sp := fun vs H Q _ => ∃ (t p : Addr) (ws : List V) (fs : List File) (js : List Ent), vs = [.ref t, .ref p] ∧ TreeAt K C H p fs ∧ SqT K H t ws ∧ Paired (EntAt K H) ws js ∧ js.length ≤ 1000 ∧
  (∀ e ∈ js, e.1.small ∧ e.1.bad = none) ∧ (∀ i, i < js.length → FsOk (runM fs ((js.map (·.1)).take i)).2) ∧ ∀ p' H', Same H H' → TreeAt K C H' p' (runM fs (js.map (·.1))).2 → Q (.ref p') H'
/-- _law_act of a question -/
def spLActQ (K : PySem.W.Frag) : Sp := fun vs H Q _ => ∃ (d : Addr) (v : V) (a : Act) (fs : List File), vs = [.ref d, v] ∧ Tab K H d fs ∧ LawF fs ∧ Dt K H v (dA a) ∧ LawQ a ∧ ∀ H' r u, Same H H' → SqL K H' r [u, .ref d] → Dt K H' u (askM fs a) → Q (.ref r) H'
theorem ok_lactQ {f : Addr} {fd : FuncData} (F : Fun K "_law_act" "_law_act" s_L_act f fd) (CK : Cal P w K mg base 3 "_law_asked" ["files", "action"] (spAsked K)) : FnOk P w K mg base CX0 4 f fd ["files", "action"] (spLActQ K) := by
  refine F.ok sc_L_act (fun vs H Q E h => ?_) (fun cdv A outer s H vs Q E hr h => ?_)
  · obtain ⟨d, v, a, fs, rfl, _⟩ := h
    rfl
  · obtain ⟨d, v, a, fs, rfl, tb, lf, hd, lq, q⟩ := h
    refine ⟨_, pss_cons (ps_if (pt_cmpR op_in_seq (pe_ix (ixT (K := K) rfl) (pv 1) pe_int (fun _ _ => rfl)) (pe_tup (pa_consts (vs := qWords) rfl)) (by rfl))
        (pss_one (ps_ret (pe_lst (pa_cons (pe_cal CK hr pass0 (pa_cons (pv 0) (pa_cons (pv 1) pa_nil))) (pa_cons (pv 0) pa_nil))))) pss_nil) pss_never, ?_⟩
    obtain ⟨t, vs, rfl, st, dl⟩ := act_parts hd
    refine ⟨_, rfl, t, _, 0, .str a.word, rfl, rfl, st, at_of (j := 0) rfl rfl, by show 5 ≤ sizeLine; decide, fun m nm => ?_⟩
    have s1 : Same H (upd H m (.tup qWords)) := same_upd nm
    refine ⟨m, qWords, rfl, .inr (sqT upd_same), rfl, by decide, _, rfl, ?_⟩
    rw [if_neg Bool.false_ne_true, isQ_word, lq.q]
    refine ⟨_, rfl, _, rfl, d, .ref t, a, fs, rfl, tb.same s1, lf, hd.st s1.t, lq, fun H2 u s2 hu => ?_⟩
    refine ⟨_, rfl, by show 2 ≤ sizeLine; decide, fun l nl => ?_⟩
    exact q _ l u ((s1.trans s2).trans (same_upd nl)) (sqL upd_same) (hu.st (same_upd nl).t)
/-- the law's answer, and the files left -/
def lawAct (fs : List File) (a : Act) : PyData × List File := if isQ a = true then (askM fs a, fs) else lawDo fs a
def lstepM (s : List Ent × List File) (a : Act) : List Ent × List File := (s.1 ++ [(a, (lawAct s.2 a).1)], (lawAct s.2 a).2)
def lrunM (fs : List File) (as : List Act) : List Ent × List File := as.foldl lstepM ([], fs)
theorem lrunM_snoc (fs : List File) (as : List Act) {i : Nat} {a : Act} (h : as[i]? = some a) : lrunM fs (as.take (i + 1)) = lstepM (lrunM fs (as.take i)) a := by
  unfold lrunM
  rw [List.take_add_one, h, List.foldl_append]
  rfl
def spLActA (K : PySem.W.Frag) : Sp := fun vs H Q _ => ∃ (d : Addr) (v : V) (a : Act) (fs : List File), vs = [.ref d, v] ∧ Tab K H d fs ∧ LawF fs ∧ Dt K H v (dA a) ∧ (LawQ a ∨ LawD a) ∧
  ∀ H' r u d2, Same H H' → SqL K H' r [u, .ref d2] → Dt K H' u (lawAct fs a).1 → Tab K H' d2 (lawAct fs a).2 → Q (.ref r) H'
theorem ok_lactA {f : Addr} {fd : FuncData} (F : Fun K "_law_act" "_law_act" s_L_act f fd) (T : Tx mg) (CK : Cal P w K mg base 3 "_law_asked" ["files", "action"] (spAsked K)) (CR : Cal P w K mg base 3 "_law_refusal" ["files", "action"] (spRef K)) (CS : Cal P w K mg base 1 "_law_spots" ["lines", "old"] (spPlaces K)) :
    FnOk P w K mg base CX0 4 f fd ["files", "action"] (spLActA K) := by
  refine (FnOk.or (ok_lact F T CK CR CS) (ok_lactQ F CK)).imp fun vs H Q E h => ?_
  obtain ⟨d, v, a, fs, rfl, tb, lf, hd, l, q⟩ := h
  rcases l with lq | ld
  · refine .inr ⟨d, v, a, fs, rfl, tb, lf, hd, lq, fun H' r u s hS hu => ?_⟩
    have e : lawAct fs a = (askM fs a, fs) := if_pos lq.q
    exact q H' r u d s hS (by rw [e]; exact hu) (by rw [e]; exact tb.same s)
  · refine .inl ⟨d, v, a, fs, rfl, tb, lf, hd, ld, fun H' r u d2 s hS hu tb2 => ?_⟩
    have e : lawAct fs a = lawDo fs a := if_neg (by rw [ld.q]; exact Bool.false_ne_true)
    exact q H' r u d2 s hS (by rw [e]; exact hu) (by rw [e]; exact tb2)
end
end KX

set_option maxRecDepth 100000
set_option maxHeartbeats 4000000
/-! J5: a disk's state. -/
namespace Ga
open PySem PySem.Spec PyProof.Rows L2 TL StX
theorem kCatT {X : Cx} {K : PySem.W.Frag} (h : X.K = K) : OpR X (binaryOp .Add) (rCatA K) := by
  subst h
  exact op_catA
theorem kSlT {X : Cx} {K : PySem.W.Frag} (h : X.K = K) : SlR X (rSlA K) := by
  subst h
  exact sl_tupA
theorem kZip {X : Cx} {K : PySem.W.Frag} (h : X.K = K) {e e2 : Expr} {ta : TA} {p pos tpos : Pos} {elts : List Expr} {kk : Nat} (hg : Gl X "zip") (hm : X.mg "zip" = none) (ha : PA X [e, e2] ta)
    (hs : starEach [e, e2] X.env = (false, eval e X.env) :: starEach [e2] X.env := by rfl) (hpl : (backTo pos (starEach [e2] X.env)).any (·.1) = false := by rfl) :
    PI X (.Tuple elts kk tpos) (.Call (.Name "zip" p) [e, e2] [] pos) (iZip K ta) := by
  subst h
  exact pi_zip hg hm ha hs hpl
structure DkS where
  bl : List (List Int)
  wt : List (Nat × List Int)
  cuts : Int
  left : Option Int
  torn : List Int
/-- what stands at `at`, the waiting writes counted -/
def readM (s : DkS) (i : Nat) : List Int := s.wt.foldl (fun acc e => if e.1 = i then e.2 else acc) (s.bl.getD i [])
def flushB (bl : List (List Int)) (wt : List (Nat × List Int)) : List (List Int) := wt.foldl (fun bl e => bl.set e.1 e.2) bl
def tear (bl : List (List Int)) (e : (Nat × List Int) × Int) : List (List Int) := bl.set e.1.1 (e.1.2.take e.2.toNat ++ (bl.getD e.1.1 []).drop e.2.toNat)
def cutB (bl : List (List Int)) (wt : List (Nat × List Int)) (torn : List Int) : List (List Int) := (wt.zip torn).foldl tear bl
def cutM (s : DkS) (torn : List Int) : DkS := { s with bl := cutB s.bl s.wt torn, wt := [], cuts := s.cuts + 1, left := none }
def flushM (s : DkS) : DkS := { s with bl := flushB s.bl s.wt, wt := [] }
def writeM (s : DkS) (i : Nat) (ns : List Int) : DkS := { s with wt := s.wt ++ [(i, ns)] }
/-- 32 numbers from 0 to 255 -/
def isBlkM (ns : List Int) : Bool := decide (ns.length = 32) && ns.all fun b => decide (0 ≤ b) && decide (b ≤ 255)
def tornOk (ts : List Int) : Bool := ts.all fun b => decide (0 ≤ b) && decide (b ≤ 32)
structure WfD (s : DkS) : Prop where
  len : 8 ≤ s.bl.length ∧ s.bl.length ≤ 400
  bl : ∀ b ∈ s.bl, b.length = 32
  wt : ∀ e ∈ s.wt, e.1 < s.bl.length ∧ e.2.length = 32
  few : s.wt.length ≤ 100000
  torn : tornOk s.torn = true ∧ s.torn.length ≤ 100000
  left : ∀ k, s.left = some k → 0 ≤ k
theorem flush_len (bl : List (List Int)) : ∀ wt : List (Nat × List Int), (flushB bl wt).length = bl.length := by
  intro wt
  unfold flushB
  induction wt generalizing bl with
  | nil => rfl
  | cons e r ih => rw [List.foldl_cons, ih, List.length_set]
theorem flush_mem {bl : List (List Int)} {wt : List (Nat × List Int)} (hb : ∀ b ∈ bl, b.length = 32) (hw : ∀ e ∈ wt, e.2.length = 32) : ∀ b ∈ flushB bl wt, b.length = 32 := by
  unfold flushB
  induction wt generalizing bl with
  | nil => exact hb
  | cons e r ih =>
    rw [List.foldl_cons]
    refine ih (fun b h => ?_) fun f hf => hw f (List.mem_cons_of_mem _ hf)
    rcases List.mem_or_eq_of_mem_set h with h | h
    · exact hb b h
    · rw [h]; exact hw e List.mem_cons_self
theorem tear_len (bl : List (List Int)) (e : (Nat × List Int) × Int) : (tear bl e).length = bl.length := List.length_set ..
theorem tears_len (bl : List (List Int)) : ∀ l : List ((Nat × List Int) × Int), (l.foldl tear bl).length = bl.length := by
  intro l
  induction l generalizing bl with
  | nil => rfl
  | cons e r ih => rw [List.foldl_cons, ih, tear_len]
theorem getD_mem {bl : List (List Int)} {i : Nat} (h : i < bl.length) : bl.getD i [] ∈ bl ∧ bl[i]? = some (bl.getD i []) := by
  have e : bl.getD i [] = bl[i] := by rw [List.getD_eq_getElem?_getD, List.getElem?_eq_getElem h]; rfl
  rw [e]
  exact ⟨List.getElem_mem h, List.getElem?_eq_getElem h⟩
theorem tear_mem {bl : List (List Int)} {e : (Nat × List Int) × Int} (hb : ∀ b ∈ bl, b.length = 32) (hw : e.1.1 < bl.length ∧ e.1.2.length = 32) (ht : 0 ≤ e.2 ∧ e.2 ≤ 32) : ∀ b ∈ tear bl e, b.length = 32 := fun b h => by
  rcases List.mem_or_eq_of_mem_set h with h | h
  · exact hb b h
  · rw [h, List.length_append, List.length_take, List.length_drop, hw.2, hb _ (getD_mem hw.1).1]
    omega
theorem tears_mem {l : List ((Nat × List Int) × Int)} : ∀ {bl : List (List Int)}, (∀ b ∈ bl, b.length = 32) → (∀ e ∈ l, (e.1.1 < bl.length ∧ e.1.2.length = 32) ∧ 0 ≤ e.2 ∧ e.2 ≤ 32) → ∀ b ∈ l.foldl tear bl, b.length = 32 := by
  induction l with
  | nil => exact fun hb _ => hb
  | cons e r ih =>
    intro bl hb hl
    rw [List.foldl_cons]
    refine ih (tear_mem hb (hl e List.mem_cons_self).1 (hl e List.mem_cons_self).2) fun f hf => ?_
    rw [tear_len]
    exact hl f (List.mem_cons_of_mem _ hf)
theorem torn_mem {ts : List Int} (h : tornOk ts = true) : ∀ x ∈ ts, 0 ≤ x ∧ x ≤ 32 := fun x hx => by
  have := List.all_eq_true.mp h x hx
  simpa using this
theorem zip_ok {s : DkS} (W : WfD s) {ts : List Int} (h : tornOk ts = true) : ∀ e ∈ s.wt.zip ts, (e.1.1 < s.bl.length ∧ e.1.2.length = 32) ∧ 0 ≤ e.2 ∧ e.2 ≤ 32 := fun e he =>
  ⟨W.wt _ (List.of_mem_zip he).1, torn_mem h _ (List.of_mem_zip he).2⟩
theorem WfD.cut {s : DkS} (W : WfD s) {ts : List Int} (h : tornOk ts = true) : WfD (cutM s ts) :=
  ⟨by show 8 ≤ (cutB s.bl s.wt ts).length ∧ (cutB s.bl s.wt ts).length ≤ 400; unfold cutB; rw [tears_len]; exact W.len, tears_mem W.bl (zip_ok W h), (fun _ h => nomatch h), Nat.zero_le _, W.torn, fun k h => nomatch h⟩
theorem WfD.flush {s : DkS} (W : WfD s) : WfD (flushM s) :=
  ⟨by show 8 ≤ (flushB s.bl s.wt).length ∧ (flushB s.bl s.wt).length ≤ 400; rw [flush_len]; exact W.len, flush_mem W.bl (fun e he => (W.wt e he).2), (fun _ h => nomatch h), Nat.zero_le _, W.torn, W.left⟩
theorem WfD.write {s : DkS} (W : WfD s) {i : Nat} {ns : List Int} (hi : i < s.bl.length) (hn : ns.length = 32) (hw : s.wt.length < 100000) : WfD (writeM s i ns) :=
  ⟨W.len, W.bl, fun e he => (List.mem_append.mp he).elim (W.wt e) fun h => by rw [List.mem_singleton.mp h]; exact ⟨hi, hn⟩, by show (s.wt ++ [(i, ns)]).length ≤ _; rw [List.length_append]; show s.wt.length + 1 ≤ _; omega, W.torn, W.left⟩
theorem WfD.left' {s : DkS} (W : WfD s) {l : Option Int} (h : ∀ k, l = some k → 0 ≤ k) : WfD { s with left := l } := ⟨W.len, W.bl, W.wt, W.few, W.torn, h⟩
/-! ### on the heap -/
theorem same_made {H H' : Hp} {x dx C : Addr} (nx : H x = none) (ndx : H dx = none) (kp : Kp x (upd (upd H dx (.own x)) x (.ins C dx [])) H') : Same H H' := fun b o e => by
  refine kp b o (ne_of_none e nx) ?_
  rw [upd_ne (ne_of_none e nx), upd_ne (ne_of_none e ndx)]
  exact e
theorem same_upd2 {H : Hp} {x dx C : Addr} (nx : H x = none) (ndx : H dx = none) : Same H (upd (upd H dx (.own x)) x (.ins C dx [])) := fun b o e => by
  rw [upd_ne (ne_of_none e nx), upd_ne (ne_of_none e ndx)]
  exact e
theorem Kp.none {B r : Addr} {H H1 : Hp} (k : Kp B H H1) (n : H1 r = none) (hB : H1 B ≠ none) : H r = none := by
  cases e : H r with
  | none => rfl
  | some o => rw [k r o (fun z => hB (z ▸ n)) e] at n; cases n
theorem Box.some {H : Hp} {B D : Addr} (b : Box H B D) : H B ≠ none ∧ H D ≠ none := by
  obtain ⟨ds, i, h1, _, _, h4⟩ := b.ex
  exact ⟨by rw [h1]; exact (fun z => nomatch z), by rw [h4]; exact (fun z => nomatch z)⟩
theorem Kp.upd {B : Addr} {H H1 : Hp} {o : HO} (k : Kp B H H1) : Kp B H (upd H1 B o) := fun b u n e => by rw [upd_ne n]; exact k b u n e
theorem paired_rep {α β : Type} {R : α → β → Prop} {x : β} : ∀ {l : List α} {n : Nat}, l.length = n → (∀ a ∈ l, R a x) → Paired R l (List.replicate n x)
  | [], 0, _, _ => .nil
  | a :: r, n + 1, h, k => .cons (k a List.mem_cons_self) (paired_rep (by simpa using h) fun b hb => k b (List.mem_cons_of_mem _ hb))
theorem paired_set {α β : Type} {R : α → β → Prop} : ∀ {l : List α} {m : List β} {i : Nat} {a : α} {b : β}, Paired R l m → R a b → Paired R (l.set i a) (m.set i b)
  | _, _, _, _, _, .nil, _ => .nil
  | _, _, 0, _, _, .cons _ t, r => .cons r t
  | _, _, i + 1, _, _, .cons h t, r => .cons h (paired_set t r)
theorem paired_memR {α β : Type} {R : α → β → Prop} : ∀ {l : List α} {m : List β}, Paired R l m → ∀ b ∈ m, ∃ a ∈ l, R a b
  | _, _, .nil, _, h => nomatch h
  | _, _, .cons h t, b, hb => (List.mem_cons.mp hb).elim (fun e => ⟨_, List.mem_cons_self, e ▸ h⟩) fun hb => (paired_memR t b hb).imp fun _ q => ⟨List.mem_cons_of_mem _ q.1, q.2⟩
def BlkV (K : PySem.W.Frag) (H : Hp) (v : V) (ns : List Int) : Prop := ∃ t, v = .ref t ∧ SqT K H t (iv ns)
def EntV (K : PySem.W.Frag) (H : Hp) (v : V) (e : Nat × List Int) : Prop := ∃ t b, v = .ref t ∧ SqT K H t [.int (e.1 : Nat), b] ∧ BlkV K H b e.2
def leftV : Option Int → V
  | none => .non
  | some k => .int k
theorem BlkV.st {K : PySem.W.Frag} {H H' : Hp} {v : V} {ns : List Int} (h : BlkV K H v ns) (s : SameT H H') : BlkV K H' v ns := by
  obtain ⟨t, e, h⟩ := h
  exact ⟨t, e, s.sq h⟩
theorem EntV.st {K : PySem.W.Frag} {H H' : Hp} {v : V} {e : Nat × List Int} (h : EntV K H v e) (s : SameT H H') : EntV K H' v e := by
  obtain ⟨t, b, e, h, g⟩ := h
  exact ⟨t, b, e, s.sq h, g.st s⟩
/-- what stands outside F stays -/
def KpF (F : Addr → Prop) (H H' : Hp) : Prop := ∀ b o, ¬ F b → H b = some o → H' b = some o
theorem KpF.refl (F : Addr → Prop) (H : Hp) : KpF F H H := fun _ _ _ h => h
theorem KpF.trans {F : Addr → Prop} {H H1 H2 : Hp} (a : KpF F H H1) (b : KpF F H1 H2) : KpF F H H2 := fun c o n h => b c o n (a c o n h)
theorem KpF.same {F : Addr → Prop} {H H1 : Hp} (a : Same H H1) : KpF F H H1 := fun c o _ h => a c o h
theorem KpF.put {F : Addr → Prop} {H H1 : Hp} {a : Addr} {o : HO} (h : KpF F H H1) (f : F a) : KpF F H (upd H1 a o) := fun c u n e => by
  rw [upd_ne (fun z => n (by rw [z]; exact f))]
  exact h c u n e
theorem KpF.new {F : Addr → Prop} {H H1 : Hp} {a : Addr} {o : HO} (h : KpF F H H1) (f : H a = none) : KpF F H (upd H1 a o) := fun c u n e => by
  rw [upd_ne (ne_of_none e f)]
  exact h c u n e
/-- the disk's own objects, written over by its methods -/
structure DkF (F : Addr → Prop) (p aB aW : Addr) : Prop where
  iff : ∀ b, F b ↔ b = p ∨ b = aB ∨ b = aW
  bw : aB ≠ aW
def DiskAt (K : PySem.W.Frag) (C : Addr) (H : Hp) (p : Addr) (F : Addr → Prop) (s : DkS) : Prop := ∃ (dx aB aW tT : Addr) (vs ws : List V), DkF F p aB aW ∧
  H p = some (.ins C dx [("_blocks", .ref aB), ("_waiting", .ref aW), ("_cuts", .int s.cuts), ("_left", leftV s.left), ("_torn", .ref tT)]) ∧ H aB = some (.lst vs) ∧ Paired (BlkV K H) vs s.bl ∧ H aW = some (.lst ws) ∧ Paired (EntV K H) ws s.wt ∧ SqT K H tT (iv s.torn) ∧ WfD s
theorem DiskAt.kp {K : PySem.W.Frag} {C p : Addr} {H H' : Hp} {F : Addr → Prop} {s : DkS} (d : DiskAt K C H p F s) (k : ∀ b o, F b → H b = some o → H' b = some o) (st : SameT H H') : DiskAt K C H' p F s := by
  obtain ⟨dx, aB, aW, tT, vs, ws, f, h1, h2, h3, h4, h5, h6, h7⟩ := d
  exact ⟨dx, aB, aW, tT, vs, ws, f, k _ _ ((f.iff _).mpr (.inl rfl)) h1, k _ _ ((f.iff _).mpr (.inr (.inl rfl))) h2, h3.mono fun _ _ q => q.st st, k _ _ ((f.iff _).mpr (.inr (.inr rfl))) h4, h5.mono fun _ _ q => q.st st, st.sq h6, h7⟩
theorem DiskAt.same {K : PySem.W.Frag} {C p : Addr} {H H' : Hp} {F : Addr → Prop} {s : DkS} (d : DiskAt K C H p F s) (st : Same H H') : DiskAt K C H' p F s := d.kp (fun b o _ e => st b o e) st.t
theorem DiskAt.has {K : PySem.W.Frag} {C p : Addr} {H : Hp} {F : Addr → Prop} {s : DkS} (d : DiskAt K C H p F s) {b : Addr} (f : F b) : H b ≠ none := by
  obtain ⟨dx, aB, aW, tT, vs, ws, fi, h1, h2, h3, h4, _⟩ := d
  rcases (fi.iff b).mp f with rfl | rfl | rfl
  · rw [h1]; exact (fun z => nomatch z)
  · rw [h2]; exact (fun z => nomatch z)
  · rw [h4]; exact (fun z => nomatch z)
/-- tuples are not among them -/
theorem DiskAt.kt {K : PySem.W.Frag} {C p : Addr} {H H' : Hp} {F : Addr → Prop} {s : DkS} (d : DiskAt K C H p F s) (k : KpF F H H') : SameT H H' := fun b xs => by
  obtain ⟨dx, aB, aW, tT, vs, ws, fi, h1, h2, h3, h4, _⟩ := d
  have no : ∀ o, H b = some o → NoTup o = false → ¬ F b := fun o e n f => by
    rcases (fi.iff b).mp f with rfl | rfl | rfl
    · rw [h1] at e; cases e; cases n
    · rw [h2] at e; cases e; cases n
    · rw [h4] at e; cases e; cases n
  exact ⟨fun e => k b _ (no _ e rfl) e, fun o e => k b _ (no _ e rfl) e⟩
theorem DiskAt.wf {K : PySem.W.Frag} {C p : Addr} {H : Hp} {F : Addr → Prop} {s : DkS} (d : DiskAt K C H p F s) : WfD s := by
  obtain ⟨dx, aB, aW, tT, vs, ws, fi, h1, h2, h3, h4, h5, h6, h7⟩ := d
  exact h7
end Ga

set_option maxRecDepth 100000
set_option maxHeartbeats 1000000
/-! Nb: the law's runs and the program's. -/
namespace KX
open PySem PySem.Spec PyProof.Rows L2 TL Ga NdefX StX
/-- an action, done by the law on fs and by the program on gs -/
structure ActIs (fs gs : List File) (a : Act) : Prop where
  ans : (actM gs a).1 = (lawAct fs a).1
  left : (actM gs a).2.Perm (lawAct fs a).2
  law : LawF (lawAct fs a).2
  nd : ((lawAct fs a).2.map (·.1)).Nodup
theorem act_is {fs gs : List File} (lf : LawF fs) (nd : (fs.map (·.1)).Nodup) (p : gs.Perm fs) {a : Act} (l : LawQ a ∨ LawD a) : ActIs fs gs a := by
  rcases l with l | l
  · have e1 : actM gs a = (askM gs a, gs) := if_pos l.q
    have e2 : lawAct fs a = (askM fs a, fs) := if_pos l.q
    exact ⟨by rw [e1, e2]; exact askM_perm p nd a, by rw [e1, e2]; exact p, by rw [e2]; exact lf, by rw [e2]; exact nd⟩
  · have e1 : actM gs a = doM gs a := if_neg (by rw [l.q]; exact Bool.false_ne_true)
    have e2 : lawAct fs a = lawDo fs a := if_neg (by rw [l.q]; exact Bool.false_ne_true)
    have d := do_is lf nd p l
    exact ⟨by rw [e1, e2]; exact d.ans, by rw [e1, e2]; exact d.left, by rw [e2]; exact d.law, by rw [e2]; exact d.nd⟩
theorem pl_ans {fs : List File} (lf : LawF fs) (nd : (fs.map (·.1)).Nodup) {a : Act} (l : LawQ a ∨ LawD a) : Pl 9000 4 (lawAct fs a).1 := by
  rcases l with l | l
  · have e2 : lawAct fs a = (askM fs a, fs) := if_pos l.q
    rw [e2]
    exact pl_ask lf nd l
  · have e2 : lawAct fs a = lawDo fs a := if_neg (by rw [l.q]; exact Bool.false_ne_true)
    rw [e2]
    exact (ans_pl fs a).mono (by decide) (by decide)
theorem pl_okLn {l : List Str} (h : okLn l) : Pl 252 1 (dL l) := (pl_lines (n := 20) (m := 12) (fun z hz => (h.2 z hz).1) h.1).mono (by decide) (Nat.le_refl _)
theorem pl_deedItm {q : Itm} (h : deedItm q) : Pl 252 1 (dI q) := by
  cases q with
  | tx z => exact (pl_str (pth h).text).mono (by decide) (by decide)
  | ln l => exact pl_okLn h
theorem LawF.nd {K : PySem.W.Frag} {H : Hp} {d : Addr} {fs : List File} (t : Tab K H d fs) : (fs.map (·.1)).Nodup := by
  obtain ⟨_, _, _, nd, _⟩ := t
  exact nd
theorem pl_dA {a : Act} (l : LawQ a ∨ LawD a) : Pl 1000 2 (dA a) := by
  rcases l with l | l
  · exact l.pl.mono (by decide) (by decide)
  · have few := parts_few a
    have b := PlL.all (n := 252) (k := 1) (ds := a.parts.map fun q => dI q.2) fun d hd => by
      obtain ⟨q, hq, rfl⟩ := List.mem_map.mp hd
      exact pl_deedItm (l.parts q hq)
    exact (PlL.cons ((pl_str (word_txt a)).mono (Nat.le_refl _) (by decide)) b).tup.mono (by rw [List.length_map]; omega) (by decide)
def dE (e : Ent) : PyData := .tuple [dA e.1, e.2]
def dJ (js : List Ent) : PyData := .tuple (js.map dE)
def EntOk (e : Ent) : Prop := (LawQ e.1 ∨ LawD e.1) ∧ Pl 9000 4 e.2
theorem pl_ent {e : Ent} (h : EntOk e) : Pl 52000 5 (dE e) := (PlL.cons ((pl_dA h.1).mono (n' := 1000) (by decide) (show 2 ≤ 4 by decide)) (PlL.cons h.2 (PlL.nil (n := 0)))).tup.mono (by decide) (by decide)
theorem pl_jrn {js : List Ent} (h : ∀ e ∈ js, EntOk e) (hz : js.length ≤ 12) : Pl 630000 6 (dJ js) := by
  refine (PlL.all (n := 52000) (k := 5) (ds := js.map dE) fun d hd => ?_).tup.mono (by rw [List.length_map]; omega) (by decide)
  obtain ⟨e, he, rfl⟩ := List.mem_map.mp hd
  exact pl_ent (h e he)
theorem EntAt.dp {K : PySem.W.Frag} {H : Hp} {v : V} {e : Ent} (h : EntAt K H v e) : Dp K H v (dE e) := by
  obtain ⟨t, x, u, rfl, h1, h2, h3⟩ := h
  exact .tup h1 (.cons h2.dp (.cons h3.dp .nil))
theorem JrnAt.dp {K : PySem.W.Frag} {H : Hp} {v : V} {js : List Ent} (h : JrnAt K H v js) : Dp K H v (dJ js) := by
  obtain ⟨t, ws, rfl, h1, h2⟩ := h
  refine .tup h1 ?_
  clear h1
  induction h2 with
  | nil => exact .nil
  | cons a _ ih => exact .cons a.dp ih
theorem JrnAt.same {K : PySem.W.Frag} {H H' : Hp} {v : V} {js : List Ent} (h : JrnAt K H v js) (s : Same H H') : JrnAt K H' v js := h.st s.t
/-- the program's run and the law's, side by side -/
structure SimS (s t : List Ent × List File) : Prop where
  jrn : s.1 = t.1
  left : s.2.Perm t.2
  law : LawF t.2
  nd : (t.2.map (·.1)).Nodup
  ent : ∀ e ∈ t.1, EntOk e
theorem SimS.step {s t : List Ent × List File} (h : SimS s t) {a : Act} (l : LawQ a ∨ LawD a) : SimS (stepM s a) (lstepM t a) := by
  have i := act_is h.law h.nd h.left l
  refine ⟨?_, i.left, i.law, i.nd, fun e he => ?_⟩
  · show s.1 ++ [(a, (actM s.2 a).1)] = t.1 ++ [(a, (lawAct t.2 a).1)]
    rw [h.jrn, i.ans]
  · rcases List.mem_append.mp he with he | he
    · exact h.ent e he
    · obtain rfl := List.mem_singleton.mp he
      exact ⟨l, pl_ans h.law h.nd l⟩
theorem SimS.fold : ∀ (as : List Act) {s t : List Ent × List File}, SimS s t → (∀ a ∈ as, LawQ a ∨ LawD a) → SimS (as.foldl stepM s) (as.foldl lstepM t)
  | [], _, _, h, _ => h
  | a :: as, _, _, h, l => SimS.fold as (h.step (l a List.mem_cons_self)) fun b hb => l b (List.mem_cons_of_mem _ hb)
theorem run_is {fs gs : List File} (lf : LawF fs) (nd : (fs.map (·.1)).Nodup) (p : gs.Perm fs) {as : List Act} (l : ∀ a ∈ as, LawQ a ∨ LawD a) : SimS (runM gs as) (lrunM fs as) :=
  SimS.fold as ⟨rfl, p, lf, nd, fun _ h => nomatch h⟩ l
theorem LawF.fsok {fs : List File} (lf : LawF fs) : FsOk fs := ⟨lf.sml, by have := lf.few; omega, fun f hf z hz => okc_strOk ((lf.each f hf).2.2 z hz).1⟩
theorem SimS.fsok {s t : List Ent × List File} (h : SimS s t) : FsOk s.2 := (h.law.perm h.left).fsok
theorem lrunM_len (fs : List File) (as : List Act) : (lrunM fs as).1.length = as.length := by
  have : ∀ (as : List Act) (s : List Ent × List File), (as.foldl lstepM s).1.length = s.1.length + as.length := by
    intro as
    induction as with
    | nil => exact fun s => rfl
    | cons a r ih =>
      intro s
      rw [List.foldl_cons, ih]
      show (s.1 ++ [_]).length + r.length = s.1.length + (r.length + 1)
      rw [List.length_append]
      show s.1.length + 1 + r.length = _
      omega
  exact (this as _).trans (by show 0 + as.length = _; omega)
theorem lrunM_acts (fs : List File) (as : List Act) : (lrunM fs as).1.map (·.1) = as := by
  have : ∀ (as : List Act) (s : List Ent × List File), (as.foldl lstepM s).1.map (·.1) = s.1.map (·.1) ++ as := by
    intro as
    induction as with
    | nil => exact fun s => (List.append_nil _).symm
    | cons a r ih =>
      intro s
      rw [List.foldl_cons, ih]
      show (s.1 ++ [_]).map _ ++ r = _
      rw [List.map_append, List.append_assoc]
      rfl
  exact this as _
theorem take_law {as : List Act} (l : ∀ a ∈ as, LawQ a ∨ LawD a) (i : Nat) : ∀ a ∈ as.take i, LawQ a ∨ LawD a := fun a ha => l a (List.mem_of_mem_take ha)
theorem LawA.of {a : Act} (l : LawQ a ∨ LawD a) : LawA a := by
  rcases l with l | l
  · exact ⟨l.ok, l.small, .inl l⟩
  · exact ⟨l.ok, l.small, .inr l⟩
/-- the law's first change -/
def lfcM : List File → Nat → List Ent → Option (Nat × PyData)
  | _, _, [] => none
  | fs, i, (a, d) :: r => if PyData.eqv (lawAct fs a).1 d = true then lfcM (lawAct fs a).2 (i + 1) r else some (i, (lawAct fs a).1)
theorem fc_is : ∀ (js : List Ent) {fs gs : List File} (i : Nat), LawF fs → (fs.map (·.1)).Nodup → gs.Perm fs → (∀ e ∈ js, LawQ e.1 ∨ LawD e.1) → fcM gs i js = lfcM fs i js
  | [], _, _, _, _, _, _, _ => rfl
  | (a, d) :: r, fs, gs, i, lf, nd, p, l => by
    have h := act_is lf nd p (l (a, d) List.mem_cons_self)
    have ih := fc_is r (i + 1) h.law h.nd h.left fun e he => l e (List.mem_cons_of_mem _ he)
    unfold fcM lfcM
    rw [h.ans, ih]
theorem lfc_ok : ∀ (js : List Ent) {fs : List File} (i : Nat) {k : Nat} {d : PyData}, LawF fs → (fs.map (·.1)).Nodup → (∀ e ∈ js, LawQ e.1 ∨ LawD e.1) → lfcM fs i js = some (k, d) → Pl 9000 4 d ∧ k < i + js.length
  | [], _, _, _, _, _, _, _, h => by cases h
  | (a, d) :: r, fs, i, k, d2, lf, nd, l, h => by
    have la := l (a, d) List.mem_cons_self
    have ai := act_is lf nd (List.Perm.refl fs) la
    unfold lfcM at h
    by_cases c : PyData.eqv (lawAct fs a).1 d = true
    · rw [if_pos c] at h
      have ih := lfc_ok r (i + 1) ai.law ai.nd (fun e he => l e (List.mem_cons_of_mem _ he)) h
      exact ⟨ih.1, by have := ih.2; rw [List.length_cons]; omega⟩
    · rw [if_neg c] at h
      cases h
      exact ⟨pl_ans lf nd la, by rw [List.length_cons]; omega⟩
theorem cat_any {K : PySem.W.Frag} {H : Hp} {a b : Addr} {xs ys : List V} {Q : VK} (sa : SqT K H a xs) (sb : SqT K H b ys) (hz : xs.length + ys.length ≤ 100000) (h : ∀ H' t, Same H H' → SqT K H' t (xs ++ ys) → Q (.ref t) H') : rCatA K (.ref a) (.ref b) H Q := by
  refine ⟨a, b, xs, ys, rfl, rfl, sa, sb, Nat.le_trans hz (by decide), fun e => ?_, fun _ e => ?_, fun _ _ p np => h _ p (same_upd np) (sqT upd_same)⟩
  · subst e; exact h H b (.refl _) sb
  · subst e; exact h H a (.refl _) (by rw [List.append_nil]; exact sa)
theorem sl_any {K : PySem.W.Frag} {H : Hp} {a : Addr} {xs : List V} {lo hi : Option Int} {Q : VK} (sa : SqT K H a xs) (h : ∀ H' t, Same H H' → SqT K H' t (cutV xs lo hi) → Q (.ref t) H') : rSlA K (.ref a) lo hi H Q := by
  refine ⟨a, xs, rfl, sa, fun e => h H a (.refl _) ?_, fun _ p np => h _ p (same_upd np) (sqT upd_same)⟩
  have : cutV xs lo hi = xs := by
    unfold cutV
    rw [e.1, e.2, List.drop_zero, Nat.sub_zero, List.take_length]
  rw [this]
  exact sa
def spLRun (K : PySem.W.Frag) : Sp := fun vs H Q _ => ∃ (d t : Addr) (ws : List V) (fs : List File) (as : List Act), vs = [.ref d, .ref t] ∧ Tab K H d fs ∧ LawF fs ∧ SqL K H t ws ∧ Paired (fun v a => Dt K H v (dA a)) ws as ∧ as.length ≤ 1000 ∧ (∀ a ∈ as, LawQ a ∨ LawD a) ∧
  ∀ H' r j d2, Same H H' → SqL K H' r [j, .ref d2] → JrnAt K H' j (lrunM fs as).1 → Tab K H' d2 (lrunM fs as).2 → Q (.ref r) H'
/-- _law_first_change(journal, files) -/
def spLFirst (K : PySem.W.Frag) : Sp := fun vs H Q _ => ∃ (j : V) (d : Addr) (fs : List File) (js : List Ent), vs = [j, .ref d] ∧ Tab K H d fs ∧ LawF fs ∧ JrnAt K H j js ∧ js.length ≤ 1000 ∧ (∀ e ∈ js, EntOk e) ∧
  (lfcM fs 0 js = none → ∀ H', Same H H' → Q .non H') ∧ (∀ i d, lfcM fs 0 js = some (i, d) → ∀ r u H', Same H H' → SqT K H' r [.int (i : Nat), u] → Dt K H' u d → Q (.ref r) H')
section
variable {P : Program} {w : World} {K : PySem.W.Frag} {mg : Str → Option Value} {base : Heap}
theorem ok_lrun {f : Addr} {fd : FuncData} (F : Fun K "_law_run" "_law_run" s_L_run f fd) (H_law_act : Cal P w K mg base 4 "_law_act" ["files", "action"] (spLActA K)) : FnOk P w K mg base CX0 5 f fd ["files", "actions"] (spLRun K) := by
  refine F.ok sc_L_run (fun vs H Q E h => ?_) (fun cdv A outer s H vs Q E hr h => ?_)
  · obtain ⟨d, t, ws, fs, as, rfl, _⟩ := h
    rfl
  · obtain ⟨d, t, ws, fs, as, rfl, tb, lf, ht, pr, hz, l, q⟩ := h
    refine ⟨_, pss_cons (ps_set (i := 2) sc_L_run.nd rfl (.inl rfl) (pe_tup pa_nil))
      (pss_cons (ps_for PassesOwn.never rfl (piL (K := K) rfl (pv 1)) (pg_name (i := 3) sc_L_run.nd rfl (Or.inl rfl))
      (pss_cons (ps_asg (pe_cal H_law_act hr pass0 (pa_cons (pv 0) (pa_cons (pv 3) pa_nil))) (pgU (K := K) (n := 2) rfl rfl (pgs_cons (pg_name (i := 4) sc_L_run.nd rfl (Or.inl rfl)) (pgs_cons (pg_name (i := 0) sc_L_run.nd rfl (Or.inl rfl)) pgs_nil))))
      (pss_one (ps_set (i := 2) sc_L_run.nd rfl (.inl rfl) (pe_op (kCatT (K := K) rfl) (pv 2) (pe_tup (pa_cons (pe_tup (pa_cons (pv 3) (pa_cons (pv 4) pa_nil))) pa_nil)))))))
      (pss_one (ps_ret (pe_lst (pa_cons (pv 2) (pa_cons (pv 0) pa_nil)))))), ?_⟩
    have nd := LawF.nd tb
    have sim := fun i => run_is lf nd (List.Perm.refl fs) (take_law l i)
    refine ⟨by show 0 ≤ sizeLine; decide, fun j0 nj0 => ?_⟩
    have s1 := same_upd (o := HO.tup []) nj0
    have hj : SqT K (upd H j0 (.tup [])) j0 [] := sqT upd_same
    generalize upd H j0 (.tup []) = H1 at s1 hj ⊢
    refine ⟨_, rfl, t, rfl, ⟨_, s1.seq ht⟩, ?_⟩
    refine for_list (K := K) (xs := ws) (fun j σ H' => ∃ (d' : Addr) (jv : V) (o3 o4 : Option V), σ = [some (.ref d'), some (.ref t), some jv, o3, o4] ∧ Same H H' ∧ JrnAt K H' jv (lrunM fs (as.take j)).1 ∧ Tab K H' d' (lrunM fs (as.take j)).2)
      ⟨d, .ref j0, none, none, rfl, s1, ⟨j0, [], rfl, hj, .nil⟩, tb.same s1⟩ (fun j σ H' _ ⟨_, _, _, _, _, h, _⟩ => h.seq ht) ?_ ?_
    · rintro j c σ H2 hc ⟨d', jv, o3, o4, rfl, s2, hjv, tb2⟩
      obtain ⟨a, hax, hda⟩ := paired_get pr _ _ hc
      have hm := l a (List.mem_of_getElem? hax)
      refine ⟨_, rfl, _, rfl, d', c, a, _, rfl, tb2, (sim j).law, hda.st s2.t, hm, fun H3 r u d2 s3 sr du tb3 => ?_⟩
      refine ⟨r, _, rfl, sr, rfl, _, _, rfl, _, _, rfl, rfl, ?_⟩
      obtain ⟨jt, vs, rfl, qj, pj⟩ := id hjv
      refine ⟨_, rfl, _, rfl, _, rfl, by show 2 ≤ sizeLine; decide, fun e ne => ?_⟩
      have s4 := same_upd (o := HO.tup [c, u]) ne
      have he4 : SqT K (upd H3 e (.tup [c, u])) e [c, u] := sqT upd_same
      generalize upd H3 e (.tup [c, u]) = H4 at s4 he4 ⊢
      refine ⟨by show 1 ≤ sizeLine; decide, fun e2 ne2 => ?_⟩
      have s5 := same_upd (o := HO.tup [.ref e]) ne2
      have he5 : SqT K (upd H4 e2 (.tup [.ref e])) e2 [.ref e] := sqT upd_same
      generalize upd H4 e2 (.tup [.ref e]) = H5 at s5 he5 ⊢
      have s35 := s3.trans (s4.trans s5)
      have lz := paired_len pj
      rw [lrunM_len, List.length_take] at lz
      refine cat_any (s35.seqT qj) he5 (by rw [List.length_singleton]; omega) fun H6 t6 s6 q6 => ?_
      have s36 := s35.trans s6
      refine ⟨d2, .ref t6, _, _, rfl, s2.trans s36, ?_, ?_⟩
      · rw [lrunM_snoc fs as hax]
        exact ⟨t6, _, rfl, q6, Paired.snoc (pj.mono fun _ _ q => q.st s36.t) ⟨e, c, u, rfl, (s5.trans s6).seqT he4, hda.st (s2.trans s36).t, du.st ((s4.trans s5).trans s6).t⟩⟩
      · rw [lrunM_snoc fs as hax]
        exact tb3.same ((s4.trans s5).trans s6)
    · rintro σ H2 ⟨d', jv, o3, o4, rfl, s2, hjv, tb2⟩
      have hwl : ws.length = as.length := paired_len pr
      rw [hwl, List.take_length] at hjv tb2
      refine ⟨_, rfl, _, rfl, by show 2 ≤ sizeLine; decide, fun r nr => ?_⟩
      have s3 := same_upd (o := HO.lst [jv, .ref d']) nr
      exact q _ r jv d' (s2.trans s3) (sqL upd_same) (hjv.same s3) (tb2.same s3)
theorem ok_lfirst {f : Addr} {fd : FuncData} (F : Fun K "_law_first_change" "_law_first_change" s_L_first_change f fd) (T : Tx mg) (H_law_act : Cal P w K mg base 4 "_law_act" ["files", "action"] (spLActA K)) : FnOk P w K mg base CX0 5 f fd ["journal", "files"] (spLFirst K) := by
  refine F.ok sc_L_first_change (fun vs H Q E h => ?_) (fun cdv A outer s H vs Q E hr h => ?_)
  · obtain ⟨j, d, fs, js, rfl, _⟩ := h
    rfl
  · obtain ⟨j, d, fs, js, rfl, tb, lf, hj, hz, he, q1, q2⟩ := h
    refine ⟨_, pss_cons (ps_for PassesOwn.never rfl (pi_range1 (by rfl) T.range (pa_cons (pe_callB (kLen (K := K) rfl) (by rfl) T.len PySem.boot_len (pa_cons (pv 0) pa_nil)) pa_nil)) (pg_name (i := 2) sc_L_first_change.nd rfl (Or.inl rfl))
      (pss_cons (ps_asg (pe_cal H_law_act hr pass0 (pa_cons (pv 1) (pa_cons (pe_ix (ixT (K := K) rfl) (pe_ix (ixT (K := K) rfl) (pv 0) (pv 2) (fun _ _ => rfl)) pe_int (fun _ _ => rfl)) pa_nil))) (pgU (K := K) (n := 2) rfl rfl (pgs_cons (pg_name (i := 3) sc_L_first_change.nd rfl (Or.inl rfl)) (pgs_cons (pg_name (i := 1) sc_L_first_change.nd rfl (Or.inl rfl)) pgs_nil))))
      (pss_one (ps_if (pt_cmpR (kNe (K := K) rfl hr.units) (pv 3) (pe_ix (ixT (K := K) rfl) (pe_ix (ixT (K := K) rfl) (pv 0) (pv 2) (fun _ _ => rfl)) pe_int (fun _ _ => rfl)) (nomark _)) (pss_one (ps_ret (pe_tup (pa_cons (pv 2) (pa_cons (pv 3) pa_nil))))) pss_nil))))
      (pss_one (ps_ret pe_non)), ?_⟩
    have nd := LawF.nd tb
    obtain ⟨jt, ws, rfl, qj, pj⟩ := id hj
    have hwl : ws.length = js.length := paired_len pj
    refine ⟨_, rfl, jt, ws, rfl, .inr qj, ?_⟩
    refine ⟨_, rfl, by omega, by have : (2 : Int) ^ 63 = 9223372036854775808 := by decide
                                 omega, ?_⟩
    rw [hwl, Int.toNat_natCast]
    refine for_range (lo := 0) (n := js.length) (fun i σ H' => ∃ (d' : Addr) (gs : List File) (o2 o3 : Option V), σ = [some (.ref jt), some (.ref d'), o2, o3] ∧ Same H H' ∧ Tab K H' d' gs ∧ LawF gs ∧ lfcM fs 0 js = lfcM gs i (js.drop i))
      ⟨d, fs, none, none, rfl, .refl _, tb, lf, rfl⟩ ?_ ?_
    · rintro i σ H2 hi ⟨d', gs, o2, o3, rfl, s2, tb2, lf2, hf⟩
      obtain ⟨e, hei⟩ : ∃ e, js[i]? = some e := ⟨_, List.getElem?_eq_getElem hi⟩
      obtain ⟨y, hy, ey⟩ := paired_get2 pj i e hei
      obtain ⟨t', x', u', rfl, ht', hd1, hd2⟩ := ey
      have em := he e (List.mem_of_getElem? hei)
      have nd2 := LawF.nd tb2
      have ix : atI ws ((0 : Int) + (i : Int)) = some (.ref t') := by rw [Int.zero_add]; exact at_of rfl hy
      refine ⟨_, rfl, _, rfl, _, rfl, jt, ws, _, .ref t', rfl, rfl, s2.seqT qj, ix, t', _, 0, x', rfl, rfl, s2.seqT ht', at_of (j := 0) rfl rfl, ?_⟩
      refine ⟨d', x', e.1, gs, rfl, tb2, lf2, hd1.st s2.t, em.1, fun H3 r u d2 s3 sr du tb3 => ?_⟩
      refine ⟨r, _, rfl, sr, rfl, _, _, rfl, _, _, rfl, rfl, ?_⟩
      have s23 := s2.trans s3
      have ai := act_is lf2 nd2 (List.Perm.refl gs) em.1
      have hdrop : js.drop i = e :: js.drop (i + 1) := by
        obtain ⟨hj2, he2⟩ := List.getElem?_eq_some_iff.mp hei
        rw [List.drop_eq_getElem_cons hj2, he2]
      rw [hdrop] at hf
      refine ⟨_, rfl, _, rfl, _, rfl, jt, ws, _, .ref t', rfl, rfl, s23.seqT qj, ix, t', _, 1, u', rfl, rfl, s23.seqT ht', at_of (j := 1) rfl rfl, ?_⟩
      refine ⟨(lawAct gs e.1).1, e.2, du.dp, (hd2.st s23.t).dp, (pl_ans lf2 nd2 em.1).shaped (by decide), em.2.shaped (by decide), _, rfl, ite2 (fun hb => ?_) (fun hb => ?_)⟩
      · have hb' : ¬ PyData.eqv (lawAct gs e.1).1 e.2 = true := fun z => by rw [z] at hb; cases hb
        have hs : lfcM fs 0 js = some (i, (lawAct gs e.1).1) := by rw [hf]; exact if_neg hb'
        refine ⟨_, rfl, _, rfl, by show 2 ≤ sizeLine; decide, fun r2 nr2 => ?_⟩
        rw [Int.zero_add]
        exact q2 i _ hs r2 u _ (s23.trans (same_upd nr2)) (sqT upd_same) (du.st (same_upd nr2).t)
      · have hb' : PyData.eqv (lawAct gs e.1).1 e.2 = true := by
          cases hx : PyData.eqv (lawAct gs e.1).1 e.2 with
          | true => rfl
          | false => rw [hx] at hb; exact absurd rfl hb
        refine ⟨d2, _, _, _, rfl, s23, tb3, ai.law, ?_⟩
        rw [hf]
        exact if_pos hb'
    · rintro σ H2 ⟨d', gs, o2, o3, rfl, s2, tb2, lf2, hf⟩
      rw [List.drop_length] at hf
      exact q1 hf H2 s2
end
end KX

set_option maxRecDepth 100000
set_option maxHeartbeats 1000000
/-! Nc: pieces of laws over trees and journals. -/
namespace KX
open PySem PySem.Spec PyProof.Rows L2 TL Ga NdefX StX
theorem TreeAt.kp {K : PySem.W.Frag} {C : Addr} {H H' : Hp} {p B D : Addr} {fs : List File} (t : TreeAt K C H p fs) (k : Kp B H H') (bx : Box H B D) : TreeAt K C H' p fs := by
  obtain ⟨dx, d, hp, t⟩ := t
  refine ⟨dx, d, k _ _ (fun z => ?_) hp, t.kp k bx⟩
  obtain ⟨ds, i, h1, _⟩ := bx.ex
  rw [z, h1] at hp
  cases hp
theorem JrnAt.kp {K : PySem.W.Frag} {H H' : Hp} {v : V} {B D : Addr} {js : List Ent} (t : JrnAt K H v js) (k : Kp B H H') (bx : Box H B D) : JrnAt K H' v js := t.st (SameT.box k bx)
theorem rows_dp {K : PySem.W.Frag} {H : Hp} {t : Addr} {ys : List V} {gs : List File} (h1 : SqT K H t ys) (h2 : RowsAt K H ys gs) : Dp K H (.ref t) (dR gs) := .tup h1 h2.dp
theorem at_last {ws : List V} {v : V} : atI (ws ++ [v]) (-1) = some v := by
  have e : ixN (ws ++ [v]).length (-1) = some ws.length := by
    unfold ixN
    rw [List.length_append, List.length_singleton, if_neg (by omega), if_pos (by omega)]
    congr 1
    omega
  unfold atI
  rw [e]
  simp
theorem paired_app {α β : Type} {R : α → β → Prop} : ∀ {l k : List α} {m n : List β}, Paired R l m → Paired R k n → Paired R (l ++ k) (m ++ n)
  | _, _, _, _, .nil, h => h
  | _, _, _, _, .cons a t, h => .cons a (paired_app t h)
theorem paired_drop {α β : Type} {R : α → β → Prop} : ∀ {l : List α} {m : List β}, Paired R l m → ∀ n, Paired R (l.drop n) (m.drop n)
  | _, _, h, 0 => h
  | _, _, .nil, n + 1 => .nil
  | _, _, .cons _ t, n + 1 => paired_drop t n
section
variable {K : PySem.W.Frag} {H H' : Hp}
mutual
theorem dp_same {v : V} {d : PyData} (e : Same H H') : Dp K H v d → Dp K H' v d
  | .non => .non
  | .bl b => .bl b
  | .int i => .int i
  | .str z => .str z
  | .lst s l => .lst (e.seq s) (dpAll_same e l)
  | .tup s l => .tup (e.seqT s) (dpAll_same e l)
theorem dpAll_same {vs : List V} {ds : List PyData} (e : Same H H') : DpAll K H vs ds → DpAll K H' vs ds
  | .nil => .nil
  | .cons h t => .cons (dp_same e h) (dpAll_same e t)
end
end
theorem Tab.putL {K : PySem.W.Frag} {H : Hp} {d l : Addr} {fs : List File} {xs ys : List V} (t : Tab K H d fs) (h : H l = some (.lst xs)) : Tab K (upd H l (.lst ys)) d fs := by
  obtain ⟨kvs, hd, pr, nd, hl⟩ := t
  exact ⟨kvs, by rw [upd_ne (fun z => by rw [z, h] at hd; cases hd)]; exact hd, pr.mono fun _ _ q => ⟨q.1, q.2.st (.put h rfl)⟩, nd, hl⟩
theorem room65 {k : Nat} {A : Around} (r : Room k A) : A.units + 65 < cLine := by have := r.un; omega
/-- Tree(rows) -/
theorem mk_rows {K : PySem.W.Frag} {C Co a x dx : Addr} {H : Hp} {ws : List V} {gs : List File} {R : VK} {E : XK} (ea : H a = some (.tup ws)) (hR : RowsAt K H ws gs) (lf : LawF gs) (nd : (gs.map (·.1)).Nodup) (nx : H x = none) (ndx : H dx = none) (nex : dx ≠ x)
    (k : ∀ H', Same H H' → TreeAt K C H' x gs → R .non H') : spInit K C Co (.ref x :: ([.ref a] ++ [])) (upd (upd H dx (.own x)) x (.ins C dx [])) R E := by
  refine ⟨x, dx, .ref a, gs, rfl, upd_same, ⟨a, ws, rfl, .inr ?_, ?_⟩, lf.small, fun _ HA kp tr => k HA (same_made nx ndx kp) tr, fun z => absurd z (by rw [lf.good nd]; simp)⟩
  · exact sqT (same_upd2 nx ndx nex _ _ ea)
  · exact hR.st (same_upd2 nx ndx nex).t
/-- Tree() -/
theorem mk_none {K : PySem.W.Frag} {C Co e0 x dx : Addr} {H : Hp} {R : VK} {E : XK} (he : ∀ H : Hp, SqT K H e0 []) (nx : H x = none) (ndx : H dx = none) (k : ∀ H', Same H H' → TreeAt K C H' x [] → R .non H') :
    spInit K C Co (.ref x :: ([] ++ [.ref e0])) (upd (upd H dx (.own x)) x (.ins C dx [])) R E :=
  ⟨x, dx, .ref e0, [], rfl, upd_same, ⟨e0, [], rfl, .inr (he _), .nil⟩, ⟨by decide, fun f h => nomatch h⟩, fun _ HA kp tr => k HA (same_made nx ndx kp) tr, fun z => absurd z (by decide +kernel)⟩
theorem alike_dp {K : PySem.W.Frag} {H : Hp} {x y : V} {d : PyData} {n k : Nat} {Q : VK} {E : XK} (dx : Dp K H x d) (dy : Dp K H y d) (p : Pl n k d) (q : Q (.bl true) H) (hn : n ≤ 1000000 := by decide) (hk : k ≤ 40 := by decide) : spAlike K [x, y] H Q E :=
  have p := p.plain hn hk
  ⟨x, y, d, rfl, dx, dy, p.sh, p.nd, p.dp, p.ln, q⟩
theorem alike_bl {K : PySem.W.Frag} {H : Hp} {b : Bool} {Q : VK} {E : XK} (q : Q (.bl true) H) : spAlike K [.bl b, .bl b] H Q E := alike_dp (n := 1) (k := 1) (.bl b) (.bl b) (pl_bool b) q
theorem LawF.pl {fs : List File} (h : LawF fs) : Plain (dR fs) := h.rows.plain (by decide) (by decide)
/-- tree.files() -/
theorem files_go {K : PySem.W.Frag} {C p : Addr} {H : Hp} {gs : List File} {Q : VK} {E : XK} (tr : TreeAt K C H p gs) (k : ∀ H' r ws, Same H H' → H' r = some (.tup ws) → RowsAt K H' ws (srtF gs) → Q (.ref r) H') :
    ∃ (pp dx : Addr) (kvs : List (Str × V)), V.ref p = .ref pp ∧ H pp = some (.ins C dx kvs) ∧ spTFiles K C [.ref pp] H Q E := by
  obtain ⟨dx', d', hp', rest⟩ := id tr
  exact ⟨p, dx', [("_table", .ref d')], rfl, hp', p, _, rfl, tr, fun HF a ws s na ea hR => k HF a ws s ea hR⟩
/-- a first change as data -/
def dFc : Option (Nat × PyData) → PyData
  | none => .none
  | some (i, d) => .tuple [.int (i : Nat), d]
theorem pl_fc {o : Option (Nat × PyData)} (h : ∀ i d, o = some (i, d) → Pl 9000 4 d ∧ i < 64) : Pl 51000 5 (dFc o) := by
  match o, h with
  | none, _ => exact pl_none
  | some (i, d), h =>
    have hp := h i d rfl
    exact ((PlL.cons ((pl_nat (k := 4) hp.2)) (PlL.cons hp.1 (PlL.nil (n := 0)))).tup).mono (by decide) (by decide)
theorem fc_isN {K : PySem.W.Frag} {H : Hp} {v : V} {o : Option (Nat × PyData)} (h : Dp K H v (dFc o)) : decide (v = V.non) = o.isNone := by
  cases o with
  | none => cases h; rfl
  | some x =>
    obtain ⟨i, d⟩ := x
    cases h
    rfl
theorem first_go {K : PySem.W.Frag} {C t p : Addr} {H : Hp} {ws : List V} {fs : List File} {js : List Ent} {Q : VK} {E : XK} (tr : TreeAt K C H p fs) (ht : SqT K H t ws) (pr : Paired (EntAt K H) ws js) (hz : js.length ≤ 1000)
    (ha : ∀ e ∈ js, e.1.small ∧ e.1.bad = none ∧ SeqAt.shaped e.2 = true) (ho : ∀ i a, (js.map (·.1))[i]? = some a → FsOk (runM fs ((js.map (·.1)).take i)).2 ∧ SeqAt.shaped (actM (runM fs ((js.map (·.1)).take i)).2 a).1 = true)
    (k : ∀ v H', Same H H' → Dp K H' v (dFc (fcM fs 0 js)) → Q v H') : spFirst K C [.ref t, .ref p] H Q E := by
  refine ⟨t, p, ws, fs, js, rfl, tr, ht, pr, hz, ha, ho, fun hn H' s => k _ H' s ?_, fun i d hs r u H' s nr hq hu => k _ H' s ?_⟩
  · rw [hn]; exact .non
  · rw [hs]; exact .tup hq (.cons (.int _) (.cons hu.dp .nil))
theorem lfirst_go {K : PySem.W.Frag} {j : V} {d : Addr} {H : Hp} {fs : List File} {js : List Ent} {Q : VK} {E : XK} (tb : Tab K H d fs) (lf : LawF fs) (hj : JrnAt K H j js) (hz : js.length ≤ 1000) (he : ∀ e ∈ js, EntOk e)
    (k : ∀ v H', Same H H' → Dp K H' v (dFc (lfcM fs 0 js)) → Q v H') : spLFirst K [j, .ref d] H Q E := by
  refine ⟨j, d, fs, js, rfl, tb, lf, hj, hz, he, fun hn H' s => k _ H' s ?_, fun i d hs r u H' s hq hu => k _ H' s ?_⟩
  · rw [hn]; exact .non
  · rw [hs]; exact .tup hq (.cons (.int _) (.cons hu.dp .nil))
/-- first_change(journal, tree), its answer as data -/
def spFirstD (K : PySem.W.Frag) (C : Addr) : Sp := fun vs H Q _ => ∃ (t p : Addr) (ws : List V) (fs : List File) (js : List Ent), vs = [.ref t, .ref p] ∧ TreeAt K C H p fs ∧ SqT K H t ws ∧ Paired (EntAt K H) ws js ∧ js.length ≤ 1000 ∧
  (∀ e ∈ js, e.1.small ∧ e.1.bad = none ∧ SeqAt.shaped e.2 = true) ∧ (∀ i a, (js.map (·.1))[i]? = some a → FsOk (runM fs ((js.map (·.1)).take i)).2 ∧ SeqAt.shaped (actM (runM fs ((js.map (·.1)).take i)).2 a).1 = true) ∧
  ∀ v H', Same H H' → Dp K H' v (dFc (fcM fs 0 js)) → Q v H'
def spLFirstD (K : PySem.W.Frag) : Sp := fun vs H Q _ => ∃ (j : V) (d : Addr) (fs : List File) (js : List Ent), vs = [j, .ref d] ∧ Tab K H d fs ∧ LawF fs ∧ JrnAt K H j js ∧ js.length ≤ 1000 ∧ (∀ e ∈ js, EntOk e) ∧
  ∀ v H', Same H H' → Dp K H' v (dFc (lfcM fs 0 js)) → Q v H'
section
variable {P : Program} {w : World} {K : PySem.W.Frag} {mg : Str → Option Value} {base : Heap}
theorem ok_firstD {C f : Addr} {fd : FuncData} (h : FnOk P w K mg base (L2.CX P w) 11 f fd ["journal", "tree"] (spFirst K C)) : FnOk P w K mg base (L2.CX P w) 11 f fd ["journal", "tree"] (spFirstD K C) := h.imp fun vs H Q E z => by
  obtain ⟨t, p, ws, fs, js, rfl, tr, ht, pr, hz, ha, ho, k⟩ := z
  exact first_go tr ht pr hz ha ho k
theorem ok_lfirstD {f : Addr} {fd : FuncData} (h : FnOk P w K mg base CX0 5 f fd ["journal", "files"] (spLFirst K)) : FnOk P w K mg base CX0 5 f fd ["journal", "files"] (spLFirstD K) := h.imp fun vs H Q E z => by
  obtain ⟨j, d, fs, js, rfl, tb, lf, hj, hz, he, k⟩ := z
  exact lfirst_go tb lf hj hz he k
end
/-- what a run asks, of a tree that is the law's -/
theorem sim_fsok {fs gs : List File} (lf : LawF fs) (nd : (fs.map (·.1)).Nodup) (p : gs.Perm fs) {as : List Act} (l : ∀ a ∈ as, LawQ a ∨ LawD a) (i : Nat) : FsOk (runM gs (as.take i)).2 := (run_is lf nd p (take_law l i)).fsok
theorem sim_shaped {fs gs : List File} (lf : LawF fs) (nd : (fs.map (·.1)).Nodup) (p : gs.Perm fs) {as : List Act} (l : ∀ a ∈ as, LawQ a ∨ LawD a) (i : Nat) {a : Act} (h : as[i]? = some a) : SeqAt.shaped (actM (runM gs (as.take i)).2 a).1 = true := by
  have s := run_is lf nd p (take_law l i)
  have ha := l a (List.mem_of_getElem? h)
  rw [(act_is s.law s.nd s.left ha).ans]
  exact (pl_ans s.law s.nd ha).shaped (by decide)
end KX

set_option maxRecDepth 100000
set_option maxHeartbeats 1000000
/-! Sa: sets of tuples of any kind: what is asked of their items. -/
namespace Ga
open PySem PySem.Spec PyProof.Rows L2 TL SeqAt
/-- the tuple at b is the key k -/
def NKy (h : Heap) (k : NestedKey) (b : Addr) : Prop := NestedIs h k (.ref b) ∧ k.depth ≤ 8
theorem nested_each {h : Heap} {m : Nat} : ∀ {ks : List NestedKey} {vs : List Value}, NestedAll h ks vs → NestedKey.depthAll ks ≤ m → ∀ v ∈ vs, ∃ k, NestedIs h k v ∧ k.depth ≤ m
  | _, _, .nil, _, v, hv => nomatch hv
  | _, _, .cons (k := k) (ks := ks) a r, hd, v, hv => by
    have hd : max k.depth (NestedKey.depthAll ks) ≤ m := hd
    rcases List.mem_cons.mp hv with rfl | hv
    · exact ⟨k, a, by omega⟩
    · exact nested_each r (by omega) v hv
section
variable {P : Program} {w : World} {A : Around} {E : Value → Shared → Prop} {s : Shared}
theorem ky_type {k : NestedKey} {b : Addr} (h : NKy s.heap k b) : s.TypeIs (.ref b) "tuple" := by
  obtain ⟨h, _⟩ := h
  cases h with
  | tup ho hc hd hall => exact ⟨_, ho, hc⟩
/-- such a key is of no class statement -/
theorem ky_nocls : ∀ (n : Nat) {k : NestedKey} {v : Value} {Q : Bool → Shared → Prop}, NestedIs s.heap k v → k.depth ≤ n → Q false s → wpAny (model P w) A (ofAClassStatement n v) Q E s := by
  intro n
  induction n with
  | zero =>
    intro k v Q hk hd q
    cases hk with
    | none => exact wpAny_pure q
    | bool e => exact wpAny_pure q
    | int i t => exact wpAny_pure q
    | text x t => exact wpAny_pure q
    | @tup a o vs m ks ho hc hdt hall =>
      have hd : NestedKey.depthAll ks + 1 ≤ 0 := hd
      omega
  | succ n ih =>
    intro k v Q hk hd q
    cases hk with
    | none => exact wpAny_pure q
    | bool e => exact wpAny_pure q
    | int i t => exact wpAny_pure q
    | text x t => exact wpAny_pure q
    | @tup a o vs m ks ho hc hdt hall =>
      have hd : NestedKey.depthAll ks + 1 ≤ n + 1 := hd
      have tT : s.TypeIs (.ref a) "tuple" := ⟨_, ho, hc⟩
      unfold ofAClassStatement
      refine wpAny_bind (wpAny_typeOf tT ?_)
      dsimp only
      have tt : (("tuple" : String) == "tuple") = true := by decide
      simp only [tt, if_true, Bool.not_true, Bool.false_eq_true, if_false]
      try refine wpAny_bind (wpAny_pure ?_)
      try simp only [Bool.not_true, Bool.false_eq_true, if_false]
      show wpAny _ _ (seqItems? (.ref a) >>= _) _ _ s
      refine wpAny_bind (wpAny_seqItems ho hdt ?_)
      dsimp only
      refine wpAny_bind ?_
      show wpAny _ _ (forIn vs _ _) _ _ s
      rw [← Array.forIn_toList]
      refine wpAny_forIn_list _ (fun left acc s2 => acc.1 = none ∧ s2 = s ∧ ∀ u ∈ left, ∃ k, NestedIs s.heap k u ∧ k.depth ≤ n) _ ?_ ?_ _ _ ⟨rfl, rfl, nested_each hall (by omega)⟩
      · rintro u left acc s2 ⟨hacc, rfl, each⟩
        obtain ⟨k2, hu, hd2⟩ := each u List.mem_cons_self
        refine wpAny_bind (ih hu hd2 ?_)
        simp only [Bool.false_eq_true, if_false]
        exact wpAny_pure ⟨rfl, rfl, fun u2 hu2 => each u2 (List.mem_cons_of_mem _ hu2)⟩
      · rintro ⟨acc1, acc2⟩ s2 ⟨hacc, rfl, _⟩
        simp only at hacc
        subst hacc
        exact wpAny_pure q
/-- whether its hash is by value is told, and changes nothing -/
theorem ky_byval : ∀ (n : Nat) {k : NestedKey} {v : Value} {Q : Bool → Shared → Prop}, NestedIs s.heap k v → k.depth ≤ n → (∀ b, Q b s) → wpAny (model P w) A (hashByValue n v) Q E s := by
  intro n
  induction n with
  | zero =>
    intro k v Q hk hd q
    cases hk with
    | none => exact wpAny_pure (q _)
    | bool e => exact wpAny_pure (q _)
    | int i t => exact wpAny_pure (q _)
    | text x t => exact wpAny_pure (q _)
    | @tup a o vs m ks ho hc hdt hall =>
      have hd : NestedKey.depthAll ks + 1 ≤ 0 := hd
      omega
  | succ n ih =>
    intro k v Q hk hd q
    cases hk with
    | none => exact wpAny_pure (q _)
    | bool e => exact wpAny_pure (q _)
    | int i t => exact wpAny_pure (q _)
    | text x t => exact wpAny_pure (q _)
    | @tup a o vs m ks ho hc hdt hall =>
      have hd : NestedKey.depthAll ks + 1 ≤ n + 1 := hd
      have tT : s.TypeIs (.ref a) "tuple" := ⟨_, ho, hc⟩
      unfold hashByValue
      refine wpAny_bind (wpAny_specialOf tT F.slot_tuple_hash.lookup ?_)
      show wpAny _ _ (seqItems? (.ref a) >>= _) _ _ s
      refine wpAny_bind (wpAny_seqItems ho hdt ?_)
      refine wpAny_bind ?_
      show wpAny _ _ (forIn vs _ _) _ _ s
      rw [← Array.forIn_toList]
      refine wpAny_forIn_list _ (fun left acc s2 => s2 = s ∧ ∀ u ∈ left, ∃ k, NestedIs s.heap k u ∧ k.depth ≤ n) _ ?_ ?_ _ _ ⟨rfl, nested_each hall (by omega)⟩
      · rintro u left acc s2 ⟨rfl, each⟩
        obtain ⟨k2, hu, hd2⟩ := each u List.mem_cons_self
        refine wpAny_bind (ih hu hd2 fun b => ?_)
        cases b with
        | true =>
          simp only [Bool.not_true, Bool.false_eq_true, if_false]
          exact wpAny_pure ⟨rfl, fun u2 hu2 => each u2 (List.mem_cons_of_mem _ hu2)⟩
        | false =>
          simp only [Bool.not_false, if_true]
          exact wpAny_pure (show wpAny _ _ (pure false) _ _ _ from wpAny_pure (q _))
      · rintro ⟨acc1, acc2⟩ s2 ⟨rfl, _⟩
        cases acc1 with
        | none => exact wpAny_pure (q _)
        | some b => exact wpAny_pure (q _)
/-- a search among keys shows nothing -/
theorem ky_unseen {k : NestedKey} {b : Addr} {Q : Bool → Shared → Prop} (hk : NKy s.heap k b) {ys : List Value} (hy : ∀ y ∈ ys, ∃ k2 c, y = Value.ref c ∧ NKy s.heap k2 c) (q : Q false s) : wpAny (model P w) A (searchCouldBeSeen (.ref b) ys) Q E s := by
  unfold searchCouldBeSeen
  refine wpAny_bind ?_
  refine wpAny_forIn_list _ (fun left acc s2 => acc.1 = none ∧ s2 = s ∧ ∀ y ∈ left, ∃ k2 c, y = Value.ref c ∧ NKy s.heap k2 c) _ ?_ ?_ _ _ ⟨rfl, rfl, hy⟩
  · rintro u left acc s2 ⟨hacc, rfl, each⟩
    obtain ⟨k2, c, rfl, hc⟩ := each u List.mem_cons_self
    have more : ∀ y ∈ left, ∃ k2 c, y = Value.ref c ∧ NKy s2.heap k2 c := fun y hy => each y (List.mem_cons_of_mem _ hy)
    dsimp only
    by_cases same : (b == c || (carriedByValue (.ref b) && carriedByValue (.ref c))) = true
    · exact wp_if_pos same (wpAny_pure ⟨rfl, rfl, more⟩)
    · refine wp_if_neg same (wpAny_bind ((nestedKind P w).quiet hk ?_))
      simp only [Bool.not_true, Bool.false_eq_true, if_false]
      refine wpAny_bind ((nestedKind P w).quiet hc ?_)
      simp only [Bool.not_true, Bool.false_eq_true, if_false]
      refine wpAny_bind (ky_nocls 8 hk.1 hk.2 ?_)
      simp only [Bool.false_eq_true, if_false]
      refine wpAny_bind (ky_nocls 8 hc.1 hc.2 ?_)
      simp only [Bool.false_eq_true, if_false]
      exact wpAny_pure ⟨rfl, rfl, more⟩
  · rintro ⟨acc1, acc2⟩ s2 ⟨hacc, rfl, _⟩
    simp only at hacc
    subst hacc
    exact wpAny_pure q
end
end Ga

set_option maxRecDepth 100000
set_option maxHeartbeats 1000000
/-! Sb: sets of tuples of any kind: finding and adding. -/
namespace Ga
open PySem PySem.Spec PyProof.Rows L2 TL SeqAt
abbrev SL := List (Addr × NestedKey)
def rws (w : World) (L : SL) : List (Int × Value) := L.map fun p => (p.2.hash w, Value.ref p.1)
def hshs (w : World) (L : SL) : List Int := L.map fun p => p.2.hash w
/-- at a stands a set of these tuples, with its table -/
structure NSet (w : World) (h : Heap) (a : Addr) (L : SL) (es : Array (Int × Value)) (ep : Nat) (t : SetTable) : Prop where
  obj : ∃ o, h.get? a = some o ∧ o.ExactSet ∧ o.data = .set es ep t
  ents : es.toList = rws w L
  tab : TabOk t (hshs w L)
  nodup : (L.map (·.2)).Nodup
  keys : ∀ p ∈ L, NKy h p.2 p.1
  order : w.params.followText "set-order" = true ∨ t.led = true
  room : L.length * 5 < t.mask * 3
  few : L.length < 64
theorem rws_len (w : World) (L : SL) : (rws w L).length = L.length := List.length_map _
theorem hshs_len (w : World) (L : SL) : (hshs w L).length = L.length := List.length_map _
theorem size_of {w : World} {L : SL} {es : Array (Int × Value)} (h : es.toList = rws w L) : es.size = L.length := by
  rw [← Array.length_toList, h, rws_len]
theorem ent_of {w : World} {L : SL} {es : Array (Int × Value)} (h : es.toList = rws w L) {i : Nat} {p : Addr × NestedKey} (hi : L[i]? = some p) : es[i]? = some (p.2.hash w, Value.ref p.1) := by
  rw [← Array.getElem?_toList, h, rws, List.getElem?_map, hi]
  rfl
theorem fits_of {t : SetTable} {n : Nat} (z : t.place.size = n) (d : t.dummies = #[]) (r : n ≤ t.mask) : t.fits n = true := by
  unfold SetTable.fits SetTable.fill
  rw [d, z, Bool.and_eq_true, beq_iff_eq, decide_eq_true_eq]
  exact ⟨rfl, r⟩
section
variable {P : Program} {w : World} {A : Around} {E : Value → Shared → Prop} {s : Shared} {a : Addr} {L : SL} {es : Array (Int × Value)} {ep : Nat} {t : SetTable}
theorem NSet.place (S : NSet w s.heap a L es ep t) : t.place.size = L.length := by rw [S.tab.sz, hshs_len]
theorem NSet.fit (S : NSet w s.heap a L es ep t) : t.fits es.size = true := fits_of (by rw [S.place, size_of S.ents]) S.tab.dm (by have := S.room; rw [size_of S.ents]; omega)
theorem no_dummy (m : Nat) : ∀ (n : Nat) (p : SetTable.Probe), p.dummy = none → (nth m p n).dummy = none
  | 0, _, h => h
  | n + 1, p, h => no_dummy m n (adv m p) (by unfold adv; split <;> exact h)
/-- from the c-th step of its way on, a key is found, or the first empty slot is -/
theorem find_key (S : NSet w s.heap a L es ep t) {x : Addr} {k : NestedKey} (hx : NKy s.heap k x) (hu : A.units + 8 < cLine) {rr : SetTable.Probe} (er : rr = runAt t.mask (SetTable.bits (k.hash w) % (t.mask + 1)) (SetTable.bits (k.hash w)))
    {K : Nat} (lim : K < 10 * SetTable.turns t.mask) (emp : (nth t.mask rr K).j ∉ t.place.toList) (occ : ∀ c, c < K → (nth t.mask rr c).j ∈ t.place.toList) {Q : SetFound → Shared → Prop}
    (yes : k ∈ L.map (·.2) → Q (.there none) s) (no : k ∉ L.map (·.2) → Q (.free (nth t.mask rr K).j false) s) :
    ∀ (f c : Nat) (stand : Option SetTable.Probe), stand.getD (t.probeStart (k.hash w)) = nth t.mask rr c → c ≤ K → K - c < f →
      (∀ (i : Nat) p, L[i]? = some p → p.2 = k → ∃ c2, c ≤ c2 ∧ c2 < K ∧ t.place.toList[i]? = some (nth t.mask rr c2).j) → wpAny (model P w) A (setSearchFrom a (.ref x) (k.hash w) true f stand) Q E s := by
  intro f
  induction f with
  | zero => exact fun c stand _ _ h _ => absurd h (Nat.not_lt_zero _)
  | succ f ih =>
    intro c stand hs hc hf later
    obtain ⟨o, go, gx, gd⟩ := S.obj
    rw [setSearchFrom_succ]
    refine wpAny_bind (wpAny_setState_of go gd S.fit ?_)
    dsimp only
    have odd : ¬ t.gaveWay = true := by
      unfold SetTable.gaveWay
      rw [mask_odd S.tab.mok]
      decide
    refine wp_if_neg odd ?_
    try refine wpAny_bind (wpAny_pure ?_)
    have shift : ∀ q, nth t.mask (nth t.mask rr c) q = nth t.mask rr (c + q) := fun q => (nth_add t.mask c rr q).symm
    have pos : ∀ q, (nth t.mask (nth t.mask rr c) q).j = (nth t.mask rr (c + q)).j := fun q => by rw [shift]
    have eK : c + (K - c) = K := by omega
    have hsh : ∀ (i : Nat) p, L[i]? = some p → (fun i => (es[i]?.map (·.1)).getD 0) i = p.2.hash w := fun i p hp => by
      dsimp only
      rw [ent_of S.ents hp]
      rfl
    have look := go_spec t S.tab.ris S.tab.dm (fun i => (es[i]?.map (·.1)).getD 0) (k.hash w) (10 * SetTable.turns t.mask) (K - c) (nth t.mask rr c) (no_dummy _ c _ (by rw [er]; rfl)) (by omega)
      (fun q hq => by rw [pos]; exact occ _ (by omega)) (by rw [pos, eK]; exact emp)
    rw [hs]
    rcases look with ⟨q, i, hq, hi, -, bef, hp⟩ | ⟨bef, hp⟩
    · have hp : t.probe (fun i => (es[i]?.map (·.1)).getD 0) (k.hash w) (nth t.mask rr c) = some (.candidate (nth t.mask rr (c + q)).j i (nth t.mask rr (c + (q + 1)))) := by
        rw [← pos, ← shift]
        exact hp
      rw [hp]
      dsimp only
      rw [pos] at hi
      have il : i < L.length := by
        have z := (List.getElem?_eq_some_iff.mp hi).1
        rwa [Array.length_toList, S.place] at z
      obtain ⟨p, hip⟩ : ∃ p, L[i]? = some p := ⟨_, List.getElem?_eq_getElem il⟩
      have pin : p ∈ L := List.mem_of_getElem? hip
      have pk := S.keys p pin
      have live : t.slot (nth t.mask rr (c + q)).j = .live i := slot_live S.tab.ris hi
      have behind : wpAny (model P w) A (searchRest a (.ref x) (k.hash w) true f es t (nth t.mask rr (c + q)).j i (nth t.mask rr (c + (q + 1)))) Q E s := by
        unfold searchRest
        rw [ent_of S.ents hip]
        dsimp only
        refine wpAny_bind (wpAny_holding ((nestedKind P w).eqBool hu pk hx ?_))
        refine wpAny_bind (wpAny_setState_of go gd S.fit ?_)
        dsimp only
        by_cases same : p.2 = k
        · exact wp_if_pos (by simp [same]) (wpAny_pure (yes (List.mem_map.mpr ⟨p, pin, same⟩)))
        · refine wp_if_neg (by simp [same]) ?_
          try refine wpAny_bind (wpAny_pure ?_)
          rw [sameMem]
          dsimp only
          simp only [if_true, live, ent_of S.ents hip]
          refine wpAny_bind (wpAny_isSame_ref_self (wpAny_bind (wpAny_pure ?_)))
          simp only [if_true]
          refine wp_if_neg (by simp [same]) (ih (c + (q + 1)) _ rfl (by omega) (by omega) fun i2 p2 h2 k2 => ?_)
          obtain ⟨c2, l1, l2, l3⟩ := later i2 p2 h2 k2
          refine ⟨c2, Nat.lt_of_not_le fun z => ?_, l2, l3⟩
          have z : c2 ≤ c + q := z
          rcases Nat.lt_or_eq_of_le z with z | z
          · refine bef (c2 - c) i2 (by omega) (by rw [pos, show c + (c2 - c) = c2 by omega]; exact l3) ?_
            rw [← k2]
            exact hsh i2 p2 h2
          · have z : c2 = c + q := z
            rw [z] at l3
            have live2 := slot_live S.tab.ris l3
            rw [live] at live2
            injection live2 with e
            rw [← e, hip] at h2
            cases h2
            exact same k2
      by_cases led : t.led = true
      · refine wp_if_neg (by simp [led]) ?_
        try refine wpAny_bind (wpAny_pure ?_)
        exact behind
      · refine wp_if_pos (by simp [led]) (wpAny_bind (ky_unseen hx (fun y hy => ?_) ?_))
        · obtain ⟨e, he, rfl⟩ := List.mem_map.mp hy
          have he1 : e ∈ es ∧ e.1 = k.hash w := by simpa using he
          have he2 : e ∈ es.toList := by simpa using he1.1
          rw [S.ents] at he2
          obtain ⟨p2, hp2, e2⟩ := List.mem_map.mp he2
          exact ⟨p2.2, p2.1, by rw [← e2], S.keys p2 hp2⟩
        · refine wp_if_neg (by decide) ?_
          try refine wpAny_bind (wpAny_pure ?_)
          exact behind
    · have hp : t.probe (fun i => (es[i]?.map (·.1)).getD 0) (k.hash w) (nth t.mask rr c) = some (.empty (nth t.mask rr K).j none) := by
        rw [show (nth t.mask rr K).j = (nth t.mask (nth t.mask rr c) (K - c)).j by rw [pos, eK]]
        exact hp
      rw [hp]
      dsimp only
      refine wpAny_pure (no fun hm => ?_)
      obtain ⟨p2, h2, k2⟩ := List.mem_map.mp hm
      obtain ⟨i2, hi2⟩ := List.getElem?_of_mem h2
      obtain ⟨c2, l1, l2, l3⟩ := later i2 p2 hi2 k2
      refine bef (c2 - c) i2 (by omega) (by rw [pos, show c + (c2 - c) = c2 by omega]; exact l3) ?_
      rw [← k2]
      exact hsh i2 p2 hi2
/-- the search for a key that shall be added -/
theorem find_at (S : NSet w s.heap a L es ep t) {x : Addr} {k : NestedKey} (hx : NKy s.heap k x) (hu : A.units + 8 < cLine) {Q : SetFound → Shared → Prop} (yes : k ∈ L.map (·.2) → Q (.there none) s)
    (no : ∀ K, k ∉ L.map (·.2) → way t.mask (k.hash w) K ∉ t.place.toList → (∀ c, c < K → way t.mask (k.hash w) c ∈ t.place.toList) → Q (.free (way t.mask (k.hash w) K) false) s) : wpAny (model P w) A (setSearch a (.ref x) (k.hash w) true) Q E s := by
  obtain ⟨K, lim, emp, occ⟩ := S.tab.first (by rw [hshs_len]; have := S.room; omega) (k.hash w)
  have small : K < 100000 := by
    have z : 10 * SetTable.turns t.mask ≤ 1420 := by
      unfold SetTable.turns
      rcases S.tab.mok with e | e | e <;> omega
    omega
  unfold setSearch
  refine find_key S hx hu rfl lim emp occ yes (fun n => no K n emp occ) 100000 0 none rfl (Nat.zero_le _) (by omega) fun i p hi hk => ?_
  have hh : (hshs w L)[i]? = some (k.hash w) := by rw [hshs, List.getElem?_map, hi, ← hk]; rfl
  have il : i < t.place.toList.length := by rw [Array.length_toList, S.place]; exact (List.getElem?_eq_some_iff.mp hi).1
  have hj := List.getElem?_eq_getElem il
  obtain ⟨c, lc, e⟩ := S.tab.before emp hh hj
  exact ⟨c, Nat.zero_le _, lc, by rw [hj, ← e]⟩
end
end Ga

set_option maxRecDepth 100000
set_option maxHeartbeats 2000000
/-! Sc: sets of tuples of any kind: a key is added. -/
namespace Ga
open PySem PySem.Spec PyProof.Rows L2 TL SeqAt
theorem ky_same {h h' : Heap} {k : NestedKey} {a b : Addr} {o : Obj} {es : Array (Int × Value)} {ep : Nat} {t : SetTable} (x : NKy h k b) (ho : h.get? a = some o) (hd : o.data = .set es ep t) (sb : Heap.SameBut a h h') : NKy h' k b :=
  ⟨NestedIs.at (fun b ob vs n hb hc => (sb.2 b fun e => by
    subst e
    rw [ho] at hb
    cases hb
    rw [hd] at hc
    cases hc).trans hb) k _ x.1, x.2⟩
theorem ky_keep {h h' : Heap} {k : NestedKey} {b : Addr} (x : NKy h k b) (hk : ∀ c o, h.get? c = some o → h'.get? c = some o) : NKy h' k b :=
  ⟨NestedIs.at (fun c o _ _ ho _ => hk c o ho) k _ x.1, x.2⟩
theorem rws_ins (w : World) (L : SL) (p : Nat) (x : Addr) (k : NestedKey) : rws w (L.take p ++ (x, k) :: L.drop p) = (rws w L).take p ++ (k.hash w, Value.ref x) :: (rws w L).drop p := by
  simp only [rws, List.map_append, List.map_cons, List.map_take, List.map_drop]
theorem hshs_ins (w : World) (L : SL) (p : Nat) (x : Addr) (k : NestedKey) : hshs w (L.take p ++ (x, k) :: L.drop p) = (hshs w L).take p ++ k.hash w :: (hshs w L).drop p := by
  simp only [hshs, List.map_append, List.map_cons, List.map_take, List.map_drop]
/-- all places of a list give the list -/
theorem all_places {α : Type} (L : List α) : (List.range L.length).filterMap (fun i => L[i]?) = L := by
  suffices h : ∀ n, n ≤ L.length → (List.range n).filterMap (fun i => L[i]?) = L.take n by
    rw [h _ (Nat.le_refl _), List.take_length]
  intro n
  induction n with
  | zero => exact fun _ => rfl
  | succ n ih =>
    intro hn
    have lt : n < L.length := hn
    rw [List.range_succ, List.filterMap_append, ih (by omega), List.take_succ]
    simp [List.getElem?_eq_getElem lt]
/-- the rows in another order -/
theorem in_order {w : World} {L : SL} {es : Array (Int × Value)} (hr : es.toList = rws w L) (od : List Nat) (hp : od.Perm (List.range L.length)) :
    ∃ L2 : SL, od.filterMap (fun i => es[i]?) = rws w L2 ∧ L2.Perm L ∧ hshs w L2 = od.map fun i => (es.map (·.1)).getD i 0 := by
  have step : ∀ l : List Nat, (∀ i ∈ l, i < L.length) → l.filterMap (fun i => es[i]?) = rws w (l.filterMap fun i => L[i]?) ∧ hshs w (l.filterMap fun i => L[i]?) = l.map fun i => (es.map (·.1)).getD i 0 := by
    intro l
    induction l with
    | nil => exact fun _ => ⟨rfl, rfl⟩
    | cons i l ih =>
      intro hl
      obtain ⟨e1, e2⟩ := ih fun j hj => hl j (List.mem_cons_of_mem _ hj)
      have hi := List.getElem?_eq_getElem (hl i List.mem_cons_self)
      have he := ent_of hr hi
      rw [List.filterMap_cons_some hi, List.filterMap_cons_some he, e1]
      refine ⟨rfl, ?_⟩
      show (L[i]'(hl i List.mem_cons_self)).2.hash w :: hshs w (l.filterMap fun i => L[i]?) = _
      rw [e2, List.map_cons]
      congr 1
      rw [Array.getD_eq_getD_getElem?, Array.getElem?_map, he]
      rfl
  obtain ⟨e1, e2⟩ := step od fun i hi => List.mem_range.mp (hp.mem_iff.mp hi)
  refine ⟨_, e1, ?_, e2⟩
  have := hp.filterMap fun i => L[i]?
  rwa [all_places] at this
section
variable {P : Program} {w : World} {A : Around} {E : Value → Shared → Prop} {s : Shared} {a : Addr} {L : SL} {es : Array (Int × Value)} {ep : Nat} {t : SetTable}
/-- the table is laid anew, wider -/
theorem relay_key {o : Obj} (ho : s.heap.get? a = some o) (hex : o.ExactSet) (hd : o.data = .set es ep t) (hr : es.toList = rws w L) (hz : t.place.size = es.size) (hm : t.dummies = #[]) (hl : es.size ≤ t.mask)
    (nd : (L.map (·.2)).Nodup) (ky : ∀ p ∈ L, NKy s.heap p.2 p.1) (od : w.params.followText "set-order" = true ∨ t.led = true) (few : L.length < 64) {wanted M : Nat}
    (hw : SetTable.sizeAbove wanted = M + 1) (hM : MaskOk M) (hM2 : M ≤ 127) (wide : L.length * 5 < M * 3) {Q : Unit → Shared → Prop}
    (hQ : ∀ h' L' es' ep' t', Heap.SameBut a s.heap h' → NSet w h' a L' es' ep' t' → L'.Perm L → Q () { s with heap := h' }) : wpAny (model P w) A (setRelay a wanted) Q E s := by
  have z := size_of hr
  have fit : t.fits es.size = true := fits_of hz hm hl
  obtain ⟨t', order, e, hp, T, em, el, -, -⟩ := relaid_ok t (hs := es.map (·.1)) (wanted := wanted) (M := M) (by omega) hM (by rw [Array.size_map, z]; omega)
  rw [Array.size_map, z] at hp
  obtain ⟨L2, r1, r2, r3⟩ := in_order hr order.toList hp
  rw [← r3] at T
  have r1 : (order.filterMap (es[·]?)).toList = rws w L2 := by
    first | (rw [Array.toList_filterMap]; exact r1) | simpa using r1
  have z2 := size_of r1
  rw [r2.length_eq, ← z] at z2
  rw [setRelay_eq]
  refine wpAny_bind (wpAny_setState_of ho hd fit ?_)
  dsimp only
  refine wp_if_neg (by rw [sizeLine_eq]; omega) ?_
  try refine wpAny_bind (wpAny_pure ?_)
  rw [e]
  dsimp only
  refine wpAny_bind ?_
  refine wp_if_neg (by rw [z2]; simp) ?_
  try refine wpAny_bind (wpAny_pure ?_)
  refine wpAny_pure ?_
  dsimp only
  refine wpAny_storeSet_of ho hd ?_ (by rw [z2, z, sizeLine_eq]; omega)
  have sb : Heap.SameBut a s.heap (s.heap.update a (Obj.putSet (order.filterMap (es[·]?)) t')) := Heap.SameBut.update ..
  refine hQ _ L2 (order.filterMap (es[·]?)) (ep + 1) t' sb ?_ r2
  exact { obj := ⟨_, store_at ho hd, ⟨hex.1, hex.2.1, hex.2.2⟩, rfl⟩, ents := r1, tab := T, nodup := (r2.map _).nodup_iff.mpr nd
          keys := fun p hp => ky_same (ky p (r2.mem_iff.mp hp)) ho hd sb, order := by rw [el]; exact od
          room := by rw [r2.length_eq, em]; exact wide, few := by rw [r2.length_eq]; exact few }
/-- a key is added -/
theorem add_key (S : NSet w s.heap a L es ep t) {x : Addr} {k : NestedKey} (hx : NKy s.heap k x) (hu : A.units + 8 < cLine) (few : L.length + 1 < 64) {Q : Bool → Shared → Prop}
    (hQ : ∀ b h' L' es' ep' t', Heap.SameBut a s.heap h' → NSet w h' a L' es' ep' t' → (k ∈ L.map (·.2) → L' = L) → (k ∉ L.map (·.2) → L'.Perm ((x, k) :: L)) → Q b { s with heap := h' }) :
    wpAny (model P w) A (setAddHashed a (.ref x) (k.hash w)) Q E s := by
  obtain ⟨o, ho, hex, hd⟩ := S.obj
  have z := size_of S.ents
  have roomy := S.room
  unfold setAddHashed
  refine wpAny_holding ?_
  rw [show (100000 : Nat) = 99999 + 1 from rfl, setAddHashedIn_succ]
  refine wpAny_bind (wpAny_setState_of ho hd S.fit ?_)
  dsimp only
  refine wp_if_neg (by simp [byScan, Value.scannable]) ?_
  try refine wpAny_bind (wpAny_pure ?_)
  refine wpAny_bind (find_at S hx hu (fun yes => ?_) fun K no emp occ => ?_)
  · dsimp only
    exact wpAny_pure (hQ false s.heap L es ep t (Heap.SameBut.refl a s.heap) S (fun _ => rfl) fun n => absurd yes n)
  dsimp only
  refine wpAny_bind (wpAny_setState_of ho hd S.fit ?_)
  dsimp only
  obtain ⟨q1, q2, q3, q4, q5, q6, q7, q8, q9⟩ := S.tab.put emp occ
  generalize hpt : t.put (way t.mask (k.hash w) K) = pt at q1 q3 q4 q5 q6 q7 q8 q9 ⊢
  obtain ⟨t1, p⟩ := pt
  dsimp only at q1 q3 q4 q5 q6 q7 q8 q9 ⊢
  subst q1
  -- from here on, whatever is said of plain
  have rest : ∀ t2 : SetTable, t2.mask = t1.mask → t2.place = t1.place → t2.led = t1.led → TabOk t2 ((hshs w L).take (SetTable.below t.place (way t.mask (k.hash w) K)) ++ k.hash w :: (hshs w L).drop (SetTable.below t.place (way t.mask (k.hash w) K))) → t2.tooFull = t1.tooFull →
      wpAny (model P w) A (do
        storeSet a (SetTable.insertAt es (SetTable.below t.place (way t.mask (k.hash w) K)) (k.hash w, Value.ref x)) t2
        if (!false && t2.tooFull) = true then setRelay a (SetTable.grown (es.size + 1))
        return true) Q E s := by
    intro t2 m2 p2 l2 T2 full2
    have hin : (SetTable.insertAt es (SetTable.below t.place (way t.mask (k.hash w) K)) (k.hash w, Value.ref x)).toList = rws w (L.take (SetTable.below t.place (way t.mask (k.hash w) K)) ++ (x, k) :: L.drop (SetTable.below t.place (way t.mask (k.hash w) K))) := by
      rw [SetTable.toList_insertAt, rws_ins, S.ents]
    rw [← hshs_ins w L _ x k] at T2
    have pm := put_perm L (SetTable.below t.place (way t.mask (k.hash w) K)) (x, k)
    generalize SetTable.insertAt es (SetTable.below t.place (way t.mask (k.hash w) K)) (k.hash w, Value.ref x) = es1 at hin ⊢
    generalize L.take (SetTable.below t.place (way t.mask (k.hash w) K)) ++ (x, k) :: L.drop (SetTable.below t.place (way t.mask (k.hash w) K)) = L1 at pm T2 hin
    have len1 : L1.length = L.length + 1 := pm.length_eq
    have z1 := size_of hin
    have nd1 : (L1.map (·.2)).Nodup := (pm.map (·.2)).nodup_iff.mpr (List.nodup_cons.mpr ⟨no, S.nodup⟩)
    refine wpAny_bind (wpAny_storeSet_of ho hd ?_ (by rw [z1, len1, sizeLine_eq]; omega))
    have sb : Heap.SameBut a s.heap (s.heap.update a (Obj.putSet es1 t2)) := Heap.SameBut.update ..
    have ho1 := store_at (es' := es1) (t' := t2) ho hd
    generalize s.heap.update a (Obj.putSet es1 t2) = h1 at sb ho1 ⊢
    have ky1 : ∀ p ∈ L1, NKy h1 p.2 p.1 := fun p hp => by
      rcases List.mem_cons.mp (pm.mem_iff.mp hp) with e | hp
      · rw [e]; exact ky_same hx ho hd sb
      · exact ky_same (S.keys p hp) ho hd sb
    have od1 : w.params.followText "set-order" = true ∨ t2.led = true := by rw [l2, q5]; exact S.order
    have m2 : t2.mask = t.mask := m2.trans q4
    have full1 : t2.tooFull = decide ((L.length + 1) * 5 ≥ t.mask * 3) := by
      have sz := T2.sz
      rw [hshs_len, len1] at sz
      unfold SetTable.tooFull
      rw [m2]
      congr 1
      simp only [SetTable.fill, T2.dm, sz]
      first | rfl | simp
    by_cases hf : t2.tooFull = true
    · have hfull : (L.length + 1) * 5 ≥ t.mask * 3 := by rw [full1, decide_eq_true_eq] at hf; exact hf
      have two : (t.mask = 7 ∧ L.length = 4) ∨ (t.mask = 31 ∧ L.length = 18) := by
        rcases S.tab.mok with e | e | e <;> rw [e] at hfull roomy <;> omega
      have go : ∀ M, SetTable.sizeAbove (SetTable.grown (L.length + 1)) = M + 1 → MaskOk M → M ≤ 127 → (L.length + 1) * 5 < M * 3 →
          wpAny (model P w) A (setRelay a (SetTable.grown (es.size + 1))) (fun _ s' => wpAny (model P w) A (pure true) Q E s') E { s with heap := h1 } := fun M e1 e2 e3 e4 => by
        rw [z]
        refine relay_key (s := { s with heap := h1 }) ho1 ⟨hex.1, hex.2.1, hex.2.2⟩ rfl hin (by rw [z1, T2.sz, hshs_len]) T2.dm (by rw [z1, m2, len1]; rcases two with ⟨a1, a2⟩ | ⟨a1, a2⟩ <;> omega) nd1 ky1 od1 (by omega) e1 e2 e3 (by rw [len1]; exact e4) ?_
        exact fun h2 L2 es2 ep2 t3 sb2 S2 pm2 => wpAny_pure (hQ true h2 L2 es2 ep2 t3 (sb.trans sb2) S2 (fun y => absurd y no) fun _ => pm2.trans pm)
      have go2 : wpAny (model P w) A (setRelay a (SetTable.grown (es.size + 1))) (fun _ s' => wpAny (model P w) A (pure true) Q E s') E { s with heap := h1 } := by
        rcases two with ⟨_, e⟩ | ⟨_, e⟩
        · exact go 31 (by rw [e, size_20]) (.inr (.inl rfl)) (by decide) (by omega)
        · exact go 127 (by rw [e, size_76]) (.inr (.inr rfl)) (by decide) (by omega)
      first
        | exact wp_if_pos (by simp [hf]) (wpAny_bind go2)
        | (refine wpAny_bind ?_; exact wp_if_pos (by simp [hf]) go2)
    · have nofull : (L.length + 1) * 5 < t.mask * 3 := by rw [full1, decide_eq_true_eq] at hf; omega
      first
        | refine wp_if_neg (by simp [hf]) ?_
        | (refine wpAny_bind ?_; refine wp_if_neg (by simp [hf]) ?_; refine wpAny_pure ?_)
      exact wpAny_pure (hQ true h1 L1 es1 (ep + 1) t2 sb { obj := ⟨_, ho1, ⟨hex.1, hex.2.1, hex.2.2⟩, rfl⟩, ents := hin, tab := T2, nodup := nd1, keys := ky1, order := od1, room := by rw [len1, m2]; exact nofull, few := by omega } (fun y => absurd y no) fun _ => pm)
  by_cases pl : t1.plain = true
  · first
      | (refine wpAny_bind ?_; refine wp_if_pos pl ?_; refine ky_byval 8 hx.1 hx.2 fun b => ?_)
      | refine wp_if_pos pl (wpAny_bind (ky_byval 8 hx.1 hx.2 fun b => ?_))
    cases b with
    | true => exact rest t1 rfl rfl rfl q3 rfl
    | false => exact rest { t1 with plain := false } rfl rfl rfl ⟨q3.ris, q3.dm, q3.sz, q3.mok, q3.bd, q3.reach⟩ rfl
  · first
      | (refine wpAny_bind ?_; refine wp_if_neg pl ?_; refine wpAny_pure ?_)
      | refine wp_if_neg pl (wpAny_bind (wpAny_pure ?_))
    exact rest t1 rfl rfl rfl q3 rfl
end
end Ga

set_option maxRecDepth 100000
set_option maxHeartbeats 2000000
/-! Sd: set(xs) of a list of tuples of any kind. -/
namespace Ga
open PySem PySem.Spec PyProof.Rows L2 TL SeqAt
/-- how many different ones stand among the first i -/
def cntA {α : Type} [DecidableEq α] (xs : List α) : Nat → Nat
  | 0 => 0
  | i + 1 => match xs[i]? with
    | none => cntA xs i
    | some x => if x ∈ xs.take i then cntA xs i else cntA xs i + 1
section
variable {α : Type} [DecidableEq α]
theorem cntA_le (xs : List α) : ∀ i, cntA xs i ≤ i
  | 0 => Nat.le_refl _
  | i + 1 => by
    have := cntA_le xs i
    unfold cntA
    split
    · omega
    · split <;> omega
theorem cntA_nodup (xs : List α) : ∀ i, i ≤ xs.length → (cntA xs i = i ↔ (xs.take i).Nodup)
  | 0, _ => ⟨fun _ => List.nodup_nil, fun _ => rfl⟩
  | i + 1, hi => by
    have ih := cntA_nodup xs i (by omega)
    have le := cntA_le xs i
    have hx : xs[i]? = some xs[i] := List.getElem?_eq_getElem hi
    unfold cntA
    rw [hx, List.take_add_one, hx, Option.toList_some, List.nodup_append]
    dsimp only
    by_cases m : xs[i] ∈ xs.take i
    · rw [if_pos m]
      exact ⟨fun e => by omega, fun ⟨_, _, h⟩ => absurd rfl (h _ m _ List.mem_cons_self)⟩
    · rw [if_neg m]
      refine ⟨fun e => ⟨ih.mp (by omega), by simp, fun x hx2 y hy e2 => m ?_⟩, fun ⟨h, _, _⟩ => by rw [ih.mpr h]⟩
      rw [← List.mem_singleton.mp hy, ← e2]
      exact hx2
theorem cntA_full (xs : List α) : cntA xs xs.length = xs.length ↔ xs.Nodup := by
  have := cntA_nodup xs xs.length (Nat.le_refl _)
  rwa [List.take_length] at this
end
/-- what stands in the set behind the first i -/
structure Gain (ks : SL) (i : Nat) (L : SL) : Prop where
  sub : ∀ p ∈ L, p ∈ ks.take i
  all : ∀ k, k ∈ L.map (·.2) ↔ k ∈ (ks.take i).map (·.2)
  len : L.length = cntA (ks.map (·.2)) i
theorem Gain.zero (ks : SL) : Gain ks 0 [] := ⟨fun p h => (by cases h), fun k => by simp, rfl⟩
theorem Gain.next {ks L L' : SL} {i : Nat} {p : Addr × NestedKey} (g : Gain ks i L) (h : ks[i]? = some p) (c1 : p.2 ∈ L.map (·.2) → L' = L) (c2 : p.2 ∉ L.map (·.2) → L'.Perm (p :: L)) : Gain ks (i + 1) L' := by
  have tk : ks.take (i + 1) = ks.take i ++ [p] := by rw [List.take_add_one, h]; rfl
  have ct : cntA (ks.map (·.2)) (i + 1) = if p.2 ∈ L.map (·.2) then L.length else L.length + 1 := by
    rw [cntA, List.getElem?_map, h]
    dsimp only [Option.map]
    rw [← List.map_take, ← g.len]
    by_cases m : p.2 ∈ L.map (·.2)
    · rw [if_pos m, if_pos ((g.all _).mp m)]
    · rw [if_neg m, if_neg fun z => m ((g.all _).mpr z)]
  by_cases m : p.2 ∈ L.map (·.2)
  · rw [c1 m]
    refine ⟨fun q hq => by rw [tk]; exact List.mem_append_left _ (g.sub q hq), fun k => ?_, by rw [ct, if_pos m]⟩
    rw [tk, List.map_append, List.mem_append, ← g.all]
    refine ⟨.inl, fun z => z.elim id fun z => ?_⟩
    rw [List.mem_singleton.mp z]
    exact m
  · have pm := c2 m
    refine ⟨fun q hq => ?_, fun k => ?_, by rw [ct, if_neg m, pm.length_eq, List.length_cons]⟩
    · rw [tk, List.mem_append]
      rcases List.mem_cons.mp (pm.mem_iff.mp hq) with e | z
      · exact .inr (List.mem_singleton.mpr e)
      · exact .inl (g.sub q z)
    · rw [(pm.map (·.2)).mem_iff, tk, List.map_append, List.mem_append, ← g.all, List.map_cons, List.mem_cons]
      exact ⟨fun z => z.elim (fun e => .inr (List.mem_singleton.mpr e)) .inl, fun z => z.elim .inr fun e => .inl (List.mem_singleton.mp e)⟩
section
variable {P : Program} {w : World} {A : Around} {E : Value → Shared → Prop} {s : Shared}
theorem NSet.kept {h h' : Heap} {a : Addr} {L : SL} {es : Array (Int × Value)} {ep : Nat} {t : SetTable} (S : NSet w h a L es ep t) (ha : ∀ o, h.get? a = some o → h'.get? a = some o) (hk : ∀ p ∈ L, NKy h' p.2 p.1) : NSet w h' a L es ep t := by
  obtain ⟨o, ho, r⟩ := S.obj
  exact { S with obj := ⟨o, ha o ho, r⟩, keys := hk }
theorem nset_new {h : Heap} {a : Addr} (ho : h.get? a = some { cls := .type "set", dict := none, data := .set #[] 0 (.fresh 0 0 (!w.params.followText "set-order")) }) : NSet w h a [] #[] 0 (.fresh 0 0 (!w.params.followText "set-order")) where
  obj := ⟨_, ho, ⟨rfl, rfl, rfl⟩, rfl⟩
  ents := rfl
  tab := { ris := List.Pairwise.nil, dm := rfl, sz := rfl, mok := .inl rfl, bd := fun x hx => (by cases hx), reach := fun i h j hi => (by simp [hshs] at hi) }
  nodup := List.nodup_nil
  keys := fun p hp => (by cases hp)
  order := by
    show _ ∨ (!w.params.followText "set-order") = true
    cases w.params.followText "set-order"
    · exact .inr rfl
    · exact .inl rfl
  room := by
    show 0 * 5 < 7 * 3
    decide
  few := by
    show 0 < 64
    decide
/-- the loop of set.update -/
theorem upd_keys {J : Addr} {fp wr : List Addr} {G : Array GenState → Array GenState → Prop} {n : Nat} {Pv : Nat → Value → Prop} {St : Nat → Shared → Prop} {R : Result → Shared → Prop}
    (W : WalksS P w A.in1 J fp wr G n Pv St) (Z : Addr) (nf : Z ∉ fp) (ks : SL) (hn : n = ks.length) (few : ks.length < 64) (hv : ∀ i v, Pv i v → ∃ p, ks[i]? = some p ∧ v = .ref p.1)
    (h0 : Heap) (hk : ∀ p ∈ ks, NKy h0 p.2 p.1) (z0 : h0.get? Z = none) (w0 : ∀ b ∈ wr, h0.get? b = none) (hu : A.in1.units + 8 < cLine) (m : Nat) :
    ∀ (i : Nat) (s : Shared), n - i = m → i ≤ n → St i s → (∀ b o, h0.get? b = some o → s.heap.get? b = some o) → (∃ L es ep t, NSet w s.heap Z L es ep t ∧ Gain ks i L) →
      (∀ s' L es ep t, Moved (Z :: wr) G s s' → NSet w s'.heap Z L es ep t → Gain ks n L → R (.ok (.ret .none)) s') →
      codeAny (model P w) A (.builtin "set.update.loop" ⟨[.ref Z, .ref J], []⟩) R s := by
  have nw : Z ∉ wr := fun z => nf (W.sub _ z)
  have more : ∀ b ∈ wr, b ∈ Z :: wr := fun b => List.mem_cons_of_mem _
  have still : ∀ {s s' : Shared}, Moved wr G s s' → (∀ b o, h0.get? b = some o → s.heap.get? b = some o) → ∀ b o, h0.get? b = some o → s'.heap.get? b = some o := fun mv k b o e =>
    mv.heap b o (fun hb => by rw [w0 b hb] at e; cases e) (k b o e)
  have setstill : ∀ {s s' : Shared} {i : Nat} {L : SL} {es ep t}, Moved wr G s s' → Gain ks i L → NSet w s.heap Z L es ep t → (∀ b o, h0.get? b = some o → s'.heap.get? b = some o) → NSet w s'.heap Z L es ep t := fun mv g S k =>
    S.kept (fun o e => mv.heap Z o nw e) fun p hp => ky_keep (hk p (List.mem_of_mem_take (g.sub p hp))) k
  induction m with
  | zero =>
    intro i s e1 e2 st keep ⟨L, es, ep, t, S, g⟩ fin
    obtain rfl : i = n := by omega
    apply codeAny_builtin PyProof.Rows.F.entry_set_update_loop
    rw [Around.under_plainId PyProof.Rows.F.plain_set_update_loop]
    change wpAny _ A.in1 (pyNext (.ref J) >>= _) _ _ s
    apply wpAny_bind
    refine W.done s _ _ st fun s' mv => ?_
    exact wpAny_pure (fin s' L es ep t (mv.mono more) (setstill mv g S (still mv keep)) g)
  | succ m ih =>
    intro i s e1 e2 st keep ⟨L, es, ep, t, S, g⟩ fin
    have lt : i < n := by omega
    apply codeAny_builtin PyProof.Rows.F.entry_set_update_loop
    rw [Around.under_plainId PyProof.Rows.F.plain_set_update_loop]
    change wpAny _ A.in1 (pyNext (.ref J) >>= _) _ _ s
    apply wpAny_bind
    refine W.item i s _ _ lt st fun v s' pv st' mv => ?_
    obtain ⟨p, hp, rfl⟩ := hv i v pv
    have keep' := still mv keep
    have S' := setstill mv g S keep'
    have hx : NKy s'.heap p.2 p.1 := ky_keep (hk p (List.mem_of_getElem? hp)) keep'
    change wpAny _ A.in1 (holding [Value.ref p.1] (setAdd Z (.ref p.1)) >>= _) _ _ s'
    apply wpAny_bind
    apply wpAny_holding
    unfold setAdd
    apply wpAny_holding
    apply wpAny_bind
    refine (nestedKind P w).pyHash hu hx ?_
    have glen : L.length ≤ i := by rw [g.len]; exact cntA_le _ _
    refine add_key (s := { s' with toks := s'.toks + p.2.draws }) S' hx hu (by omega) fun b h' L' es' ep' t' sb S2 c1 c2 => ?_
    have apart : ∀ b ∈ fp, b ≠ Z := fun b hb e => nf (e ▸ hb)
    have keep2 : ∀ b o, h0.get? b = some o → h'.get? b = some o := fun b o e => (sb.2 b (fun z => by rw [z, z0] at e; cases e)).trans (keep' b o e)
    refine wpAny_pure ⟨plainId_quiet PyProof.Rows.F.plain_set_update_loop _, ih (i + 1) _ (by omega) lt ?_ keep2 ⟨L', es', ep', t', S2, g.next hp c1 c2⟩ fun s2 L2 es2 ep2 t2 mv2 SN gN => ?_⟩
    · exact W.frame _ s' _ _ st' (Nat.le_add_right _ _) fun b hb o e => (sb.2 b (apart b hb)).trans e
    · exact fin s2 L2 es2 ep2 t2 (Moved.trans W.gtrans ((mv.mono more).then_heap (Nat.le_add_right _ _) fun b o hb e => (sb.2 b fun z => hb (z ▸ List.mem_cons_self)).trans e) mv2) SN gN
set_option maxHeartbeats 6400000 in
/-- set(xs) -/
theorem set_keys {l : Addr} {its : Array Value} {ks : SL} {Q : Value → Shared → Prop} (hh : A.handled = none) (hl : s.heap.IsList l its)
    (hx : its.toList = ks.map fun p => Value.ref p.1) (hk : ∀ p ∈ ks, NKy s.heap p.2 p.1) (few : ks.length < 64) (hu : A.units + 16 < cLine)
    (fin : ∀ (h' : Heap) (tk : Nat) L es ep t, NSet w h' s.heap.objs.size L es ep t → Gain ks ks.length L →
      (∀ b o, b < s.heap.objs.size → s.heap.get? b = some o → h'.get? b = some o) → Q (.ref s.heap.objs.size) { s with heap := h', toks := tk }) :
    wpAny (model P w) A (call (.type "set") [.ref l]) Q E s := by
  obtain ⟨c0, tl0, mro0⟩ := PySem.F.called_set.mro
  have made := PySem.F.called_set.made
  have subs := PySem.F.called_set.sub
  have ntyp := PySem.F.called_set.notType
  have cans := PySem.F.called_set.canCreate
  have tcal := PySem.F.typeCall_set_1 (.ref l)
  have len : its.size = ks.length := by rw [← Array.length_toList, hx, List.length_map]
  apply wpAny_call
  apply codeAny_of_tree
  change wpAny _ _ (callAny (.type "set") _) _ _ _
  refine wpAny_pure ⟨Code.quiet_builtin _ (by decide +kernel), codeAny_builtin PySem.F.entry_type_call ?_⟩
  rw [Around.under_plain (weight_type_call_type "set" [.ref l] []) rfl]
  repeat (any_goals (first | assumption | wp_step))
  let Z : Addr := s.heap.objs.size
  let fresh : Obj := { cls := .type "set", dict := none, data := .set #[] 0 (.fresh 0 0 (!w.params.followText "set-order")) }
  refine codeAny_mono (code_set_led1 (.ref l) (E := E) (Q₁ := fun ob s1 => ob = .ref Z ∧ s1 = { s with heap := s.heap.push fresh }) ⟨rfl, rfl⟩) ?_
  rintro (e | fl) s1 hr
  · exact hr
  cases fl with
  | next => exact hr.elim
  | brk => exact hr.elim
  | cont => exact hr.elim
  | ret ob =>
    obtain ⟨rfl, rfl⟩ := hr
    have atZ : (s.heap.push fresh).get? Z = some fresh := Heap.get?_push_size _ rfl
    have tyZ : Shared.TypeIs { s with heap := s.heap.push fresh } (.ref Z) "set" := ⟨_, atZ, rfl⟩
    have ini := PySem.F.called_set.init.lookup
    have bnd := PySem.F.called_set.init.bind (.ref Z)
    repeat (any_goals (first | assumption | wp_step))
    refine codeAny_mono (codeAny_call_builtin (R := wants (fun r s2 => r = .none ∧ ∃ h' tk L es ep t, s2 = { s with heap := h', toks := tk } ∧
        NSet w h' Z L es ep t ∧ Gain ks ks.length L ∧ (∀ b o, b < Z → s.heap.get? b = some o → h'.get? b = some o)) E)
      PySem.F.called_set.init.plain PySem.F.entry_set_init (check_set_init_1 tyZ ?_)) ?_
    · obtain ⟨⟨cl, dd, da, sl⟩, hol, hcl, nl, hdl⟩ := hl
      simp only at hcl hdl
      subst hcl
      subst hdl
      have hol1 : (s.heap.push fresh).get? l = some { cls := .type "list", dict := dd, data := .seq its nl, slots := sl } := Heap.get?_push_of_some _ hol
      have n1 := PySem.F.sub_list_set
      have n2 := PySem.F.sub_list_frozenset
      have n3 : (Value.type "list" == Value.type "dict") = false := by decide
      have isl : (s.heap.push fresh).IsList l its := ⟨_, hol1, rfl, nl, rfl⟩
      unfold Builtin.«set.__init__» noKeywords Builtin.Frozenset.updateFrom
      generalize hPI : pyIter = PI
      wp_walk
      subst hPI
      apply wpAny_pyIter_list isl
      apply wpAny_bind
      apply wpAny_runValue
      have lZ : l < Z := Heap.lt_size hol
      have size1 : (s.heap.push fresh).objs.size = Z + 1 := Heap.size_push _ _
      have calm : A.in1.in1.in1.handled = none := by simp [hh]
      have neJ : l ≠ (s.heap.push fresh).objs.size := by rw [size1]; exact Nat.ne_of_lt (Nat.lt_succ_of_lt lZ)
      have notin : Z ∉ [(s.heap.push fresh).objs.size, l] := by
        rw [size1]
        simp only [List.mem_cons, List.not_mem_nil, or_false, not_or]
        exact ⟨Nat.ne_of_lt (Nat.lt_succ_self _), Nat.ne_of_gt lZ⟩
      have none_at : ∀ b, Z ≤ b → s.heap.get? b = none := fun b hb => by
        cases q : s.heap.get? b with
        | none => rfl
        | some o => exact absurd (Nat.lt_of_lt_of_le (Heap.lt_size q) hb) (Nat.lt_irrefl _)
      have hval : ∀ (i : Nat) (v : Value), its[i]? = some v → ∃ p, ks[i]? = some p ∧ v = .ref p.1 := fun i v hv => by
        have q : its.toList[i]? = some v := by rw [Array.getElem?_toList]; exact hv
        rw [hx, List.getElem?_map, Option.map_eq_some_iff] at q
        obtain ⟨p, hp, e⟩ := q
        exact ⟨p, hp, e.symm⟩
      refine upd_keys (Walks.list calm _ l neJ its).toS Z notin ks len few hval s.heap hk (none_at _ (Nat.le_refl _)) (fun b hb => none_at b ?_) (by simp only [Around.in1_units] at *; omega) (its.size - 0) 0 _
        (by omega) (Nat.zero_le _) ⟨⟨_, Heap.get?_push_size _ rfl, rfl, rfl⟩, isl.push _⟩ (fun b o e => Heap.get?_push_of_some _ (Heap.get?_push_of_some _ e)) ?zero ?last
      · rw [List.mem_singleton.mp hb, size1]; exact Nat.le_succ _
      case zero =>
        have g := Heap.get?_push_of_some ({ cls := .type "list_iterator", data := .fields #[.ref l, .int 0 0] } : Obj) atZ
        exact ⟨[], #[], 0, _, nset_new g, Gain.zero ks⟩
      case last =>
        rintro ⟨h', g', d', tk', os'⟩ L es ep t mv SN gN
        obtain rfl : g' = s.gens := mv.gens
        obtain rfl : d' = s.drawn := mv.drawn
        obtain rfl : os' = s.os := mv.os
        change wpAny _ _ _ _ _ _
        apply wpAny_pure
        change wpAny _ _ (ret Value.none) _ _ _
        rw [len] at gN
        refine wpAny_pure ⟨rfl, h', tk', L, es, ep, t, rfl, SN, gN, fun b o hb e => mv.heap b o ?_ (Heap.get?_push_of_some _ (Heap.get?_push_of_some _ e))⟩
        simp only [List.mem_cons, List.not_mem_nil, or_false, not_or]
        rw [size1]
        exact ⟨Nat.ne_of_lt hb, Nat.ne_of_lt (Nat.lt_succ_of_lt hb)⟩
    · rintro (e | fl2) s2 hr2
      · exact hr2
      cases fl2 with
      | next => exact hr2.elim
      | brk => exact hr2.elim
      | cont => exact hr2.elim
      | ret r =>
        obtain ⟨rfl, h', tk, L, es, ep, t, rfl, SN, gN, kp⟩ := hr2
        repeat (any_goals (first | assumption | wp_step))
        exact fin _ _ _ _ _ _ SN gN kp
end
end Ga

set_option maxRecDepth 100000
set_option maxHeartbeats 1000000
/-! Se: len(set(xs)) of a list of tuples of data. -/
namespace Ga
open PySem PySem.Spec PyProof.Rows L2 TL SeqAt
mutual
/-- the data as a key -/
def keyD : PyData → NestedKey
  | .none => .none
  | .bool b => .num (if b = true then 1 else 0)
  | .int i => .num i
  | .str x => .text x
  | .tuple ds => .tup (keysD ds)
  | .list _ => .none
  | .dict _ => .none
def keysD : List PyData → List NestedKey
  | [] => []
  | d :: ds => keyD d :: keysD ds
end
mutual
/-- no list and no dict anywhere -/
def flatD : PyData → Bool
  | .none => true
  | .bool _ => true
  | .int _ => true
  | .str _ => true
  | .tuple ds => flatsD ds
  | .list _ => false
  | .dict _ => false
def flatsD : List PyData → Bool
  | [] => true
  | d :: ds => flatD d && flatsD ds
end
theorem keysD_map : ∀ ds : List PyData, keysD ds = ds.map keyD
  | [] => rfl
  | d :: ds => by rw [keysD, keysD_map ds]; rfl
theorem flatsD_all : ∀ ds : List PyData, flatsD ds = ds.all flatD
  | [] => rfl
  | d :: ds => by rw [flatsD, flatsD_all ds]; rfl
mutual
theorem keyD_depth : ∀ d : PyData, flatD d = true → (keyD d).depth = d.depth
  | .none, _ => rfl
  | .bool _, _ => rfl
  | .int _, _ => rfl
  | .str _, _ => rfl
  | .tuple ds, h => by
    rw [flatD] at h
    rw [keyD, NestedKey.depth, PyData.depth, keysD_depth ds h]
  | .list _, h => by rw [flatD] at h; cases h
  | .dict _, h => by rw [flatD] at h; cases h
theorem keysD_depth : ∀ ds : List PyData, flatsD ds = true → NestedKey.depthAll (keysD ds) = PyData.depthAll ds
  | [], _ => rfl
  | d :: ds, h => by
    rw [flatsD, Bool.and_eq_true] at h
    rw [keysD, NestedKey.depthAll, PyData.depthAll, keyD_depth d h.1, keysD_depth ds h.2]
end
mutual
theorem keyD_eqv : ∀ d e : PyData, flatD d = true → flatD e = true → NestedKey.beq (keyD d) (keyD e) = PyData.eqv d e
  | .none, .none, _, _ => by simp only [keyD, NestedKey.beq, PyData.eqv]
  | .none, .bool _, _, _ => by simp only [keyD, NestedKey.beq, PyData.eqv]
  | .none, .int _, _, _ => by simp only [keyD, NestedKey.beq, PyData.eqv]
  | .none, .str _, _, _ => by simp only [keyD, NestedKey.beq, PyData.eqv]
  | .none, .tuple _, _, _ => by simp only [keyD, NestedKey.beq, PyData.eqv]
  | .bool a, .none, _, _ => by simp only [keyD, NestedKey.beq, PyData.eqv]
  | .bool a, .bool b, _, _ => by cases a <;> cases b <;> simp [keyD, NestedKey.beq, PyData.eqv]
  | .bool a, .int i, _, _ => by simp only [keyD, NestedKey.beq, PyData.eqv]; rfl
  | .bool a, .str _, _, _ => by simp only [keyD, NestedKey.beq, PyData.eqv]
  | .bool a, .tuple _, _, _ => by simp only [keyD, NestedKey.beq, PyData.eqv]
  | .int i, .none, _, _ => by simp only [keyD, NestedKey.beq, PyData.eqv]
  | .int i, .bool b, _, _ => by simp only [keyD, NestedKey.beq, PyData.eqv]; rfl
  | .int i, .int j, _, _ => by simp only [keyD, NestedKey.beq, PyData.eqv]; rfl
  | .int i, .str _, _, _ => by simp only [keyD, NestedKey.beq, PyData.eqv]
  | .int i, .tuple _, _, _ => by simp only [keyD, NestedKey.beq, PyData.eqv]
  | .str x, .none, _, _ => by simp only [keyD, NestedKey.beq, PyData.eqv]
  | .str x, .bool _, _, _ => by simp only [keyD, NestedKey.beq, PyData.eqv]
  | .str x, .int _, _, _ => by simp only [keyD, NestedKey.beq, PyData.eqv]
  | .str x, .str y, _, _ => by simp only [keyD, NestedKey.beq, PyData.eqv]; rw [Bool.eq_iff_iff]; simp
  | .str x, .tuple _, _, _ => by simp only [keyD, NestedKey.beq, PyData.eqv]
  | .tuple ds, .none, _, _ => by simp only [keyD, NestedKey.beq, PyData.eqv]
  | .tuple ds, .bool _, _, _ => by simp only [keyD, NestedKey.beq, PyData.eqv]
  | .tuple ds, .int _, _, _ => by simp only [keyD, NestedKey.beq, PyData.eqv]
  | .tuple ds, .str _, _, _ => by simp only [keyD, NestedKey.beq, PyData.eqv]
  | .tuple ds, .tuple es, hd, he => by
    rw [flatD] at hd he
    rw [keyD, keyD, NestedKey.beq, PyData.eqv]
    exact keysD_eqv ds es hd he
  | .list _, _, hd, _ => by rw [flatD] at hd; cases hd
  | .dict _, _, hd, _ => by rw [flatD] at hd; cases hd
  | .none, .list _, _, he => by rw [flatD] at he; cases he
  | .bool _, .list _, _, he => by rw [flatD] at he; cases he
  | .int _, .list _, _, he => by rw [flatD] at he; cases he
  | .str _, .list _, _, he => by rw [flatD] at he; cases he
  | .tuple _, .list _, _, he => by rw [flatD] at he; cases he
  | .none, .dict _, _, he => by rw [flatD] at he; cases he
  | .bool _, .dict _, _, he => by rw [flatD] at he; cases he
  | .int _, .dict _, _, he => by rw [flatD] at he; cases he
  | .str _, .dict _, _, he => by rw [flatD] at he; cases he
  | .tuple _, .dict _, _, he => by rw [flatD] at he; cases he
theorem keysD_eqv : ∀ ds es : List PyData, flatsD ds = true → flatsD es = true → NestedKey.beqAll (keysD ds) (keysD es) = PyData.eqvAll ds es
  | [], [], _, _ => rfl
  | [], _ :: _, _, _ => rfl
  | _ :: _, [], _, _ => rfl
  | d :: ds, e :: es, hd, he => by
    rw [flatsD, Bool.and_eq_true] at hd he
    rw [keysD, keysD, NestedKey.beqAll, PyData.eqvAll, keyD_eqv d e hd.1 he.1, keysD_eqv ds es hd.2 he.2]
end
/-- two data are one key if they are == -/
theorem keyD_iff {d e : PyData} (hd : flatD d = true) (he : flatD e = true) : keyD d = keyD e ↔ PyData.eqv d e = true := by
  rw [← keyD_eqv d e hd he]
  exact ⟨fun h => by rw [h]; exact NestedKey.beq_self _, NestedKey.eq_of_beq _ _⟩
section
variable {X : Cx} {pins : List (Addr × Obj)} {σ : L2.St} {H : Hp} {s : Shared}
mutual
theorem nested_of (I : Inv X pins σ H s) : ∀ (d : PyData) (v : V) (u : Value), Dp X.K H v d → RelV v u → flatD d = true → NestedIs s.heap (keyD d) u
  | .none, _, _, h, r, _ => by
    cases h
    cases r
    exact .none
  | .bool b, _, _, h, r, _ => by
    cases h
    cases r
    exact .bool rfl
  | .int i, _, _, h, r, _ => by
    cases h
    obtain ⟨t, rfl⟩ := r
    exact .int i t
  | .str x, _, _, h, r, _ => by
    cases h
    obtain ⟨t, rfl⟩ := r
    exact .text x t
  | .tuple ds, _, _, h, r, f => by
    rw [flatD] at f
    cases h with
    | tup hs ha =>
      cases r
      obtain ⟨its, rv, ⟨o, ho, hc, n, hd⟩, _⟩ := I.tuple hs
      exact .tup ho hc hd (by simpa using nested_all I ds _ its ha rv f)
  | .list _, _, _, _, _, f => by rw [flatD] at f; cases f
  | .dict _, _, _, _, _, f => by rw [flatD] at f; cases f
theorem nested_all (I : Inv X pins σ H s) : ∀ (ds : List PyData) (vs : List V) (us : List Value), DpAll X.K H vs ds → Vals vs us → flatsD ds = true → NestedAll s.heap (keysD ds) us
  | [], _, _, h, r, _ => by
    cases h
    cases r
    exact .nil
  | d :: ds, _, _, h, r, f => by
    rw [flatsD, Bool.and_eq_true] at f
    cases h with
    | cons h1 h2 =>
      cases r with
      | cons r1 r2 => exact .cons (nested_of I d _ _ h1 r1 f.1) (nested_all I ds _ _ h2 r2 f.2)
end
/-- a tuple of data that can be a key -/
def tupD : PyData → Bool
  | .tuple ds => flatsD ds && decide (PyData.depthAll ds ≤ 7)
  | _ => false
theorem flat_tup {d : PyData} (h : tupD d = true) : flatD d = true := by
  cases d <;> simp only [tupD, Bool.and_eq_true, Bool.false_eq_true] at h
  rw [flatD]
  exact h.1
/-- the items of such a list -/
theorem keys_at (I : Inv X pins σ H s) : ∀ (ds : List PyData) (vs : List V) (us : List Value), DpAll X.K H vs ds → Vals vs us → (∀ d ∈ ds, tupD d = true) →
    ∃ ks : SL, us = (ks.map fun p => Value.ref p.1) ∧ ks.map (·.2) = ds.map keyD ∧ (∀ p ∈ ks, NKy s.heap p.2 p.1) ∧ vs = ks.map fun p => V.ref p.1
  | [], _, _, h, r, _ => by
    cases h
    cases r
    exact ⟨[], rfl, rfl, fun p hp => (by cases hp), rfl⟩
  | d :: ds, _, _, h, r, f => by
    cases h with
    | cons h1 h2 =>
      cases r with
      | cons r1 r2 =>
        obtain ⟨ks, e1, e2, e3, e4⟩ := keys_at I ds _ _ h2 r2 fun d hd => f d (List.mem_cons_of_mem _ hd)
        have fd := f d List.mem_cons_self
        have nk := nested_of I d _ _ h1 r1 (flat_tup fd)
        cases h1 with
        | tup hs ha =>
          rename_i a xs es
          cases r1
          refine ⟨(a, keyD (.tuple es)) :: ks, by rw [e1]; rfl, by rw [List.map_cons, e2]; rfl, fun p hp => ?_, by rw [e4]; rfl⟩
          rcases List.mem_cons.mp hp with rfl | hp
          · refine ⟨nk, ?_⟩
            rw [keyD_depth _ (flat_tup fd), PyData.depth]
            simp only [tupD, Bool.and_eq_true, decide_eq_true_eq] at fd
            omega
          · exact e3 p hp
        | _ => simp [tupD] at fd
end
/-- len(set(xs)) of a list of tuples -/
def tLenSetD (K : PySem.W.Frag) (ta : TE) : TE := fun σ H Q => ta σ H fun x H1 => ∃ (l : Addr) (xs : List V) (ds : List PyData), x = .ref l ∧ SqL K H1 l xs ∧ DpAll K H1 xs ds ∧ ds.length < 64 ∧ (∀ d ∈ ds, tupD d = true) ∧
  Q (.int (cntA (ds.map keyD) ds.length : Nat)) H1
theorem pe_lenSetD {X : Cx} {a : Expr} {ta : TE} {p p2 q pos : Pos} (hu : X.A.units + 64 < cLine) (hg : Gl X "len") (hm : X.mg "len" = none) (gs : Gl X "set") (ms : X.mg "set" = none)
    (ha : PE X a ta) (hc : X.calm = true := by rfl) (na : starEach [a] X.env = (false, eval a X.env) :: starEach [] X.env := by rfl) :
    PE X (.Call (.Name "len" p) [.Call (.Name "set" p2) [a] [] q] [] pos) (tLenSetD X.K ta) := by
  refine ⟨fun pins s σ H Q I h => Call_ (ld_blt I hg hm boot_len ?_)⟩
  refine callWith_builtin1 (args_cons (Call_ (ld_blt I gs ms boot_set ?_)) rfl) rfl rfl
  refine callWith_type1 (args_cons (thn (ha.run pins s σ H _ I h) ?_) na) na rfl
  rintro v s1 ⟨x, H1, I1, r1, l, xs, ds, rfl, hq, hd, hl, hf, q1⟩
  apply args_nil
  cases r1
  obtain ⟨its, r, pl, hz⟩ := I1.list hq
  obtain ⟨ks, e1, e2, e3, e4⟩ := keys_at I1 ds xs its hd r hf
  have len : ks.length = ds.length := by have := congrArg List.length e2; simpa using this
  refine set_keys (P := X.prog) (w := X.w) (ks := ks) (I1.ok.hd hc) pl.isList (by simpa using e1) e3 (by omega) (by omega) fun h' tk L es ep t S g hk => ?_
  apply args_nil
  obtain ⟨o, ho, hex, hd2⟩ := S.obj
  have z := size_of S.ents
  have I2 : Inv X pins σ H1 { s1 with heap := h', toks := tk } := I1.kept fun b o e => hk b o (Heap.lt_size e) e
  have c := cntA_le (ks.map (·.2)) ks.length
  have zz : es.size = cntA (ds.map keyD) ds.length := by rw [z, g.len, e2, len]
  exact call_len_set ho hex hd2 (S.fit (s := { s1 with heap := h', toks := tk })) (by rw [z]; have := S.few; omega) ⟨.int (cntA (ds.map keyD) ds.length : Nat), H1, I2.tok _, ⟨_, by rw [zz]⟩, q1⟩
/-- as many as there are: no two are == -/
theorem cnt_keys {ds : List PyData} (hf : ∀ d ∈ ds, tupD d = true) : cntA (ds.map keyD) ds.length = ds.length ↔ ds.Pairwise fun d e => PyData.eqv d e = false := by
  have z := cntA_full (ds.map keyD)
  rw [List.length_map] at z
  rw [z]
  unfold List.Nodup
  rw [List.pairwise_map]
  refine ⟨fun h => h.imp_of_mem fun a b n => ?_, fun h => h.imp_of_mem fun a b n => ?_⟩
  · rw [← Bool.not_eq_true]
    exact fun e => n ((keyD_iff (flat_tup (hf _ a)) (flat_tup (hf _ b))).mpr e)
  · exact fun e => by rw [(keyD_iff (flat_tup (hf _ a)) (flat_tup (hf _ b))).mp e] at n; cases n
end Ga

set_option maxRecDepth 100000
set_option maxHeartbeats 1000000
/-! Xb: tuples of texts, sorted. -/
namespace Ga
open PySem PySem.Spec PyProof.Rows L2 TL SrtO Srt
/-- the order of tuples of texts -/
def ltL : List Str → List Str → Bool
  | _, [] => false
  | [], _ :: _ => true
  | x :: r, y :: t => if x = y then ltL r t else ltS x y
theorem ltS_asym {x y : Str} (h : ltS x y = true) : ltS y x = false := by
  rw [ltS_no]
  refine (leS_total _ _).resolve_right fun z => ?_
  rw [← ltS_no, h] at z
  cases z
theorem ltS_neg {x y z : Str} (a : ltS x y = false) (b : ltS y z = false) : ltS x z = false := by
  rw [ltS_no] at *
  exact leS_trans b a
theorem ltS_anti {x y : Str} (a : ltS x y = false) (b : ltS y x = false) : x = y := by
  rw [ltS_no] at *
  exact leS_anti b a
theorem ltL_asym : ∀ x y : List Str, ltL x y = true → ltL y x = false
  | [], [], h => by cases h
  | [], _ :: _, _ => rfl
  | _ :: _, [], h => by cases h
  | x :: r, y :: t, h => by
    unfold ltL at h ⊢
    by_cases e : x = y
    · rw [if_pos e] at h
      rw [if_pos e.symm]
      exact ltL_asym r t h
    · rw [if_neg e] at h
      rw [if_neg fun z => e z.symm]
      exact ltS_asym h
theorem ltL_neg : ∀ x y z : List Str, ltL x y = false → ltL y z = false → ltL x z = false
  | _, _, [], _, _ => by unfold ltL; rfl
  | _, [], _ :: _, _, h => by cases h
  | [], _ :: _, _ :: _, h, _ => by cases h
  | x :: r, y :: t, z :: u, h, g => by
    unfold ltL at h g ⊢
    by_cases e : x = y
    · subst e
      rw [if_pos rfl] at h
      by_cases f : x = z
      · subst f
        rw [if_pos rfl] at g ⊢
        exact ltL_neg r t u h g
      · rw [if_neg f] at g ⊢
        exact g
    · rw [if_neg e] at h
      by_cases f : y = z
      · subst f
        rw [if_neg e]
        exact h
      · rw [if_neg f] at g
        by_cases i : x = z
        · subst i
          exact absurd (ltS_anti h g) e
        · rw [if_neg i]
          exact ltS_neg h g
theorem ltL_anti : ∀ x y : List Str, ltL x y = false → ltL y x = false → x = y
  | [], [], _, _ => rfl
  | [], _ :: _, h, _ => by cases h
  | _ :: _, [], _, h => by cases h
  | x :: r, y :: t, h, g => by
    unfold ltL at h g
    by_cases e : x = y
    · subst e
      rw [if_pos rfl] at h g
      rw [ltL_anti r t h g]
    · rw [if_neg e] at h
      rw [if_neg fun z => e z.symm] at g
      exact absurd (ltS_anti h g) e
theorem swo_txt (k : Value → List Str) : Swo fun v u => ltL (k v) (k u) := ⟨fun x y h => ltL_asym _ _ h, fun x y z h g => ltL_neg _ _ _ g h⟩
/-- a tuple of these texts -/
def TxO (h : Heap) (v : Value) (l : List Str) : Prop := ∃ a o vs n, v = .ref a ∧ h.get? a = some o ∧ o.cls = .type "tuple" ∧ o.data = .seq vs n ∧ StrsAre vs.toList l
theorem TxO.keeps {h h' : Heap} {v : Value} {l : List Str} (p : TxO h v l) (k : ∀ b o, h.get? b = some o → o.cls = .type "tuple" → h'.get? b = some o) : TxO h' v l := by
  obtain ⟨a, o, vs, n, e, ho, hc, hd⟩ := p
  exact ⟨a, o, vs, n, e, k _ _ ho hc, hc, hd⟩
theorem strs_inj : ∀ {us : List Value} {l m : List Str}, StrsAre us l → StrsAre us m → l = m
  | _, _, _, .nil, .nil => rfl
  | _, _, _, .cons _ _ r, .cons _ _ t => by rw [strs_inj r t]
theorem TxO.inj {h : Heap} {v : Value} {l m : List Str} (a : TxO h v l) (b : TxO h v m) : l = m := by
  obtain ⟨p, o, t, n, e, ho, _, hd, hs⟩ := a
  obtain ⟨p', o', t', n', e', ho', _, hd', hs'⟩ := b
  rw [e] at e'
  cases e'
  rw [ho] at ho'
  cases ho'
  rw [hd] at hd'
  have z := (Data.seq.inj hd').1
  subst z
  exact strs_inj hs hs'
section
variable {prog : Program} {w : World} {A : Around} {E : Value → Shared → Prop} {s : Shared}
theorem lex_go {fin : Bool} : ∀ {vs us : List Value} {l m : List Str} {i : Nat}, StrsAre vs l → StrsAre us m → fin = decide (vs.length < us.length) →
    PySem.W.KatLex prog w A true fin (fun r s' => s' = s ∧ r = ltL l m) (vs.zip us) i s
  | _, _, _, _, i, .nil, .nil, h => by
    refine PySem.W.kat_nil ⟨rfl, ?_⟩
    rw [h]
    rfl
  | _, _, _, _, i, .nil, .cons _ _ _, h => by
    refine PySem.W.kat_nil ⟨rfl, ?_⟩
    rw [h]
    exact decide_eq_true (Nat.succ_pos _)
  | _, _, _, _, i, .cons _ _ _, .nil, h => by
    refine PySem.W.kat_nil ⟨rfl, ?_⟩
    rw [h]
    exact decide_eq_false (Nat.not_lt_zero _)
  | _, _, _, _, i, .cons (ys := l) x t a, .cons (ys := m) y u b, h => by
    refine PySem.W.kat_cons (SeqAt.EqAt.str_str x t y u prog w _ _ ?_)
    refine PySem.W.kat_go (fun e1 => ?_) (fun e1 => ?_)
    · have ex : x = y := by simpa using e1
      subst ex
      have g := lex_go (fin := fin) (i := i + 1) a b (by rw [h]; simp)
      have el : ltL (x :: l) (x :: m) = ltL l m := by
        conv => lhs; unfold ltL
        rw [if_pos rfl]
      rw [el]
      exact PySem.W.kat_yes g
    · have ex : ¬ x = y := by simpa using e1
      have el : ltL (x :: l) (y :: m) = ltS x y := by
        conv => lhs; unfold ltL
        rw [if_neg ex]
      rw [el]
      refine PySem.W.kat_no ?_
      cases i with
      | zero => exact oneLt_str ⟨rfl, rfl⟩
      | succ i => exact PySem.W.kat_one _ _ (PySem.P.lt_str ⟨rfl, rfl⟩)
theorem txt_cmp {vs : List Value} {k : Value → List Str} (hp : ∀ v ∈ vs, TxO s.heap v (k v)) : Cmp prog w A s (tuples' true) (fun p => p.1 ∈ vs) (lt2 fun v u => ltL (k v) (k u)) := by
  intro p q hm hm'
  have h1 := hp _ hm
  have h2 := hp _ hm'
  show wpAny (model prog w) A (keyLt' (tuples' true) p.1 q.1) (fun r s' => s' = s ∧ r = ltL (k p.1) (k q.1)) (fun _ _ => False) s
  generalize k p.1 = x at h1 ⊢
  generalize k q.1 = y at h2 ⊢
  obtain ⟨a, o, xs, n, e, ho, hc, hd, hs⟩ := h1
  obtain ⟨a', o', ys, n', e', ho', hc', hd', hs'⟩ := h2
  rw [e, e']
  exact PySem.W.kat_lt ho hd ho' hd' (lex_go hs hs' (by rw [Array.length_toList, Array.length_toList]))
theorem firstsX {h : Heap} : ∀ {vs : List Value}, (∀ v ∈ vs, ∃ x r, TxO h v (x :: r)) → ∃ fs : List Value, PySem.W.KatTups h vs fs ∧ fs.length = vs.length ∧ ∀ f ∈ fs, ∃ x t, f = Value.str x t
  | [], _ => ⟨[], PySem.W.KatTups.nil, rfl, fun _ hm => by cases hm⟩
  | v :: vs, hp => by
    obtain ⟨fs, h1, h2, h3⟩ := firstsX (vs := vs) fun v' hm => hp v' (List.mem_cons_of_mem _ hm)
    obtain ⟨x, r, a, o, xs, n, e, ho, hc, hd, hs⟩ := hp v List.mem_cons_self
    subst e
    obtain ⟨t, us, exs⟩ : ∃ t us, xs.toList = Value.str x t :: us := by
      generalize xs.toList = l at hs
      cases hs with
      | cons _ t _ => exact ⟨t, _, rfl⟩
    refine ⟨.str x t :: fs, PySem.W.KatTups.cons ho hc hd (by rw [← Array.getElem?_toList, exs]; rfl) h1, congrArg Nat.succ h2, fun f hm => ?_⟩
    rcases List.mem_cons.mp hm with rfl | hm
    · exact ⟨x, t, rfl⟩
    · exact h3 f hm
theorem txt_sortable {a : Addr} {vs : List Value} {k : Value → List Str} (h0 : 0 < vs.length) (hp : ∀ v ∈ vs, TxO s.heap v (k v)) (ne : ∀ v ∈ vs, k v ≠ []) (ha : ∀ o, s.heap.get? a = some o → o.cls ≠ .type "tuple") :
    SortableO prog w A s a vs fun v u => ltL (k v) (k u) := by
  intro h' keep
  have hp' : ∀ v ∈ vs, TxO h' v (k v) := fun v hm => (hp v hm).keeps fun b o e c => keep b o (fun z => ha o (z ▸ e) c) e
  obtain ⟨fs, h1, h2, h3⟩ := firstsX (h := h') (vs := vs) fun v hm => by
    have := hp' v hm
    cases e : k v with
    | nil => exact absurd e (ne v hm)
    | cons x r => rw [e] at this; exact ⟨x, r, this⟩
  refine ⟨tuples' true, fun Q E hq => ?_, txt_cmp hp'⟩
  refine PySem.W.kat_kind (T := .type "str") h1 (by omega) (fun f hm => ?_) (by rfl) ?_
  · obtain ⟨x, t, rfl⟩ := h3 f hm
    exact PySem.W.Looks.now
  · have e : (Value.type "str" != Value.type "tuple") = true := by first | decide +kernel | rfl | decide
    rw [e]
    exact hq
end
open Classical in
/-- the texts of a tuple -/
noncomputable def txOf (h : Heap) (v : Value) : List Str := if e : ∃ l, TxO h v l then e.choose else []
theorem txOf_is {h : Heap} {v : Value} {l : List Str} (a : TxO h v l) : txOf h v = l := by
  unfold txOf
  have e : ∃ l, TxO h v l := ⟨l, a⟩
  rw [dif_pos e]
  exact e.choose_spec.inj a
/-- a tuple of texts -/
def TxAt (K : PySem.W.Frag) (H : Hp) (v : V) (l : List Str) : Prop := ∃ t, v = .ref t ∧ SqT K H t (l.map V.str)
theorem TxAt.st {K : PySem.W.Frag} {H H' : Hp} {v : V} {l : List Str} (h : TxAt K H v l) (s : SameT H H') : TxAt K H' v l := by
  obtain ⟨t, rfl, q⟩ := h
  exact ⟨t, rfl, s.sq q⟩
theorem strs_of_vals : ∀ {l : List Str} {us : List Value}, Vals (l.map V.str) us → StrsAre us l
  | [], _, h => by cases h; exact .nil
  | x :: l, _, h => by
    cases h with
    | cons r t =>
      obtain ⟨k, rfl⟩ := r
      exact .cons x k (strs_of_vals t)
theorem tx_obj {X : Cx} {pins : List (Addr × Obj)} {σ : L2.St} {H : Hp} {s : Shared} (I : Inv X pins σ H s) {v : V} {u : Value} {l : List Str} (h : TxAt X.K H v l) (r : RelV v u) : TxO s.heap u l := by
  obtain ⟨t, rfl, ht⟩ := h
  obtain ⟨its, rv, ⟨o, ho, hc, n, hd⟩, _⟩ := I.tuple ht
  cases r
  exact ⟨t, o, _, n, rfl, ho, hc, hd, by simpa using strs_of_vals rv⟩
abbrev leL (x y : List Str) : Prop := ltL y x = false
/-- sorted(rows), rows a list of tuples of texts, none empty: a new list -/
def rSortL (K : PySem.W.Frag) : List V → Hp → VK → Prop := fun vs H Q => ∃ (a : Addr) (ws : List V) (ls : List (List Str)), vs = [.ref a] ∧ SqL K H a ws ∧ Paired (TxAt K H) ws ls ∧ (∀ l ∈ ls, l ≠ []) ∧
  ∀ p ys ms, H p = none → Paired (TxAt K (upd H p (.lst ys))) ys ms → ms.Perm ls → ms.Pairwise leL → Q (.ref p) (upd H p (.lst ys))
theorem call_sortL {X : Cx} {K : PySem.W.Frag} (hK : X.K = K) : CallR X (.builtin "sorted") (rSortL K) := by
  subst hK
  intro pins s σ H xs us Q I r h
  obtain ⟨a, ws, ls, rfl, hS, hR, ne, q⟩ := h
  obtain ⟨u, rfl, ru⟩ := vals1 r
  obtain rfl : u = Value.ref a := ru
  obtain ⟨its, rv, hi, hz⟩ := I.list hS
  have hz2 : its.length ≤ sizeLine := by rw [← rv.length]; exact hz
  have both : Paired (fun (u : Value) (l : List Str) => TxO s.heap u l ∧ TxAt X.K H (backV u) l ∧ ∃ t, u = .ref t) its ls := by
    clear hz hz2 q hS hi ne
    induction rv generalizing ls with
    | nil => cases hR; exact .nil
    | cons r _ ih =>
      cases hR with
      | cons h t =>
        refine .cons ⟨tx_obj I h r, ?_⟩ (ih _ t)
        obtain ⟨t0, rfl, e⟩ := id h
        cases r
        exact ⟨h, t0, rfl⟩
  have hp : ∀ v ∈ its, TxO s.heap v (txOf s.heap v) := fun v hv => by
    obtain ⟨f, _, e, _⟩ := paired_mem both hv
    rw [txOf_is e]
    exact e
  have hne : ∀ v ∈ its, txOf s.heap v ≠ [] := fun v hv => by
    obtain ⟨f, hf, e, _⟩ := paired_mem both hv
    rw [txOf_is e]
    exact ne f hf
  refine sorted_ord (swo_txt (txOf s.heap)) hi.isList hz2 (fun h2 h₁ b hb kk => ?_) fun out h1 h2 => ?_
  · refine txt_sortable (s := { s with heap := h₁ }) (by omega) (fun v hm => (hp v hm).keeps fun c o e _ => (kk c o e).2) hne fun o e => ?_
    have e' : some o = some (seqObj "list" its.toArray 0) := e.symm.trans hb
    cases e'
    intro c
    exact absurd (Value.type.inj c) (by decide)
  · obtain ⟨ms, p1, p2⟩ := perm_paired h2.perm both
    have pw : ms.Pairwise leL := pw_paired (fun v u f g ef eg z => by
      have z : ltL (txOf s.heap u) (txOf s.heap v) = false := z
      rw [txOf_is ef.1, txOf_is eg.1] at z
      exact z) p2 h1
    have refs : ∀ u ∈ out, ∃ t, u = Value.ref t := fun u hu => by
      obtain ⟨f, _, _, _, t, e⟩ := paired_mem p2 hu
      exact ⟨t, e⟩
    obtain ⟨n, hn⟩ := sortedAll_at s.heap its out.toArray
    have nw : H (s.heap.objs.size + 1) = none := I.hok.fresh (Nat.le_succ _)
    have hl2 : (out.map backV).length ≤ sizeLine := by rw [List.length_map, h2.perm.length_eq]; exact hz2
    have J : Inv X pins σ (upd H (s.heap.objs.size + 1) (.lst (out.map backV))) { s with heap := sortedAll s.heap its out.toArray } :=
      I.laid (t' := s.toks) (fun b o e => sortedAll_old e) (Nat.le_succ _) ⟨hl2, out, n, vals_back refs, hn⟩
    refine ⟨.ref (s.heap.objs.size + 1), _, J, rfl, q _ _ _ nw ?_ p1 pw⟩
    have rows : ∀ {l : List Value} {m : List (List Str)}, Paired (fun (u : Value) (l : List Str) => TxO s.heap u l ∧ TxAt X.K H (backV u) l ∧ ∃ t, u = .ref t) l m → Paired (TxAt X.K (upd H (s.heap.objs.size + 1) (.lst (out.map backV)))) (l.map backV) m := by
      intro l m h
      induction h with
      | nil => exact .nil
      | cons a _ ih => exact .cons (a.2.1.st (same_upd nw).t) ih
    exact rows p2
end Ga

set_option maxRecDepth 100000
set_option maxHeartbeats 1000000
/-! Xa: a set of tuples as a thing of its own; a tuple is added. -/
namespace Ga
open PySem PySem.Spec PyProof.Rows L2 TL SeqAt
/-- tuples, each with what it holds -/
abbrev TM := List (Addr × PyData)
def slOf (M : TM) : SL := M.map fun p => (p.1, keyD p.2)
theorem slOf_keys (M : TM) : (slOf M).map (·.2) = M.map fun p => keyD p.2 := by
  unfold slOf
  rw [List.map_map]
  rfl
/-- the set's own object -/
def NSetB (w : World) (h : Heap) (a : Addr) (L : SL) : Prop := ∃ es ep t, (∃ o, h.get? a = some o ∧ o.ExactSet ∧ o.data = .set es ep t) ∧ es.toList = rws w L ∧ TabOk t (hshs w L) ∧ (L.map (·.2)).Nodup ∧
  (w.params.followText "set-order" = true ∨ t.led = true) ∧ L.length * 5 < t.mask * 3 ∧ L.length < 64
theorem NSetB.whole {w : World} {h : Heap} {a : Addr} {L : SL} (b : NSetB w h a L) (k : ∀ p ∈ L, NKy h p.2 p.1) : ∃ es ep t, NSet w h a L es ep t := by
  obtain ⟨es, ep, t, b1, b2, b3, b4, b5, b6, b7⟩ := b
  exact ⟨es, ep, t, { obj := b1, ents := b2, tab := b3, nodup := b4, keys := k, order := b5, room := b6, few := b7 }⟩
theorem NSet.bare {w : World} {h : Heap} {a : Addr} {L : SL} {es ep t} (S : NSet w h a L es ep t) : NSetB w h a L := ⟨es, ep, t, S.obj, S.ents, S.tab, S.nodup, S.order, S.room, S.few⟩
theorem NSetB.kept {w : World} {h h' : Heap} {a : Addr} {L : SL} (b : NSetB w h a L) (k : ∀ o, h.get? a = some o → h'.get? a = some o) : NSetB w h' a L := by
  obtain ⟨es, ep, t, ⟨o, ho, r⟩, b2⟩ := b
  exact ⟨es, ep, t, ⟨o, k o ho, r⟩, b2⟩
def SetTO (w : World) (a : Addr) (M : TM) : HO := .ext fun h => NSetB w h a (slOf M)
theorem setTO_obj {P : Program} {w : World} {H : Hp} {h : Heap} {a : Addr} {M : TM} (R : NSetB w h a (slOf M)) : ObjOk P w H h a (SetTO w a M) := by
  obtain ⟨es, ep, t, ⟨o, ho, r⟩, b2⟩ := id R
  exact ⟨R, ⟨o, ho⟩, fun h1 h2 p k => NSetB.kept p k⟩
theorem setTO_new {w : World} {h : Heap} : NSetB w (h.push { cls := .type "set", dict := none, data := .set #[] 0 (.fresh 0 0 (!w.params.followText "set-order")) }) h.objs.size (slOf []) := (nset_new (Heap.get?_push_size _ rfl)).bare
/-- the tuples hold this data -/
def ItmsAt (K : PySem.W.Frag) (H : Hp) (M : TM) : Prop := ∀ p ∈ M, Dp K H (.ref p.1) p.2 ∧ tupD p.2 = true
theorem perm_map {α β : Type} {f : α → β} {l : List β} {m : List α} (p : l.Perm (m.map f)) : ∃ m' : List α, m'.Perm m ∧ l = m'.map f := by
  have h : Paired (fun b a => b = f a) (m.map f) m := by
    clear p
    induction m with
    | nil => exact .nil
    | cons x r ih => exact .cons rfl ih
  obtain ⟨m', p1, p2⟩ := perm_paired p h
  refine ⟨m', p1, ?_⟩
  clear p p1 h
  induction p2 with
  | nil => rfl
  | cons e _ ih => rw [e, ih]; rfl
section
variable {X : Cx} {pins : List (Addr × Obj)} {σ : L2.St} {H : Hp} {s : Shared}
theorem itm_key (I : Inv X pins σ H s) {a : Addr} {d : PyData} (h : Dp X.K H (.ref a) d) (t : tupD d = true) : NKy s.heap (keyD d) a := by
  have f := flat_tup t
  refine ⟨nested_of I d _ _ h rfl f, ?_⟩
  rw [keyD_depth _ f]
  cases d <;> simp only [tupD, Bool.and_eq_true, Bool.false_eq_true, decide_eq_true_eq] at t
  rw [PyData.depth]
  omega
theorem itms_keys (I : Inv X pins σ H s) {M : TM} (h : ItmsAt X.K H M) : ∀ p ∈ slOf M, NKy s.heap p.2 p.1 := fun p hp => by
  obtain ⟨q, hq, rfl⟩ := List.mem_map.mp hp
  exact itm_key I (h q hq).1 (h q hq).2
theorem addTO {E : Value → Shared → Prop} {D x : Addr} {M : TM} {d : PyData} {Q : Value → Shared → Prop} (I : Inv X pins σ H s) (e : H D = some (SetTO X.w D M)) (few : M.length + 1 < 64) (km : ItmsAt X.K H M) (dx : Dp X.K H (.ref x) d) (td : tupD d = true) (hu : X.A.units + 64 < cLine)
    (q : ∀ s' M', Inv X pins σ (upd H D (SetTO X.w D M')) s' → (keyD d ∈ M.map (fun p => keyD p.2) → M' = M) → (keyD d ∉ M.map (fun p => keyD p.2) → M'.Perm ((x, d) :: M)) → Q .none s') :
    wpAny (model X.prog X.w) X.A (call (.builtin "set.add") [.ref D, .ref x]) Q E s := by
  obtain ⟨es, ep, t, S⟩ := NSetB.whole (I.hok D _ e).1 (itms_keys I km)
  have nk := itm_key I dx td
  have lM : (slOf M).length = M.length := List.length_map _
  obtain ⟨o, ho, hex, hd⟩ := S.obj
  refine wpAny_call_entry F.slot_set_add ⟨o, ho, hex.1⟩ F.entry_set_add ?_ (F.args_set_add_2 _ _)
  unfold Builtin.«set.add» Builtin.Frozenset.oneOther
  simp only [List.isEmpty_nil, bind_assoc]
  unfold Builtin.Frozenset.addrOf setAdd
  refine wpAny_bind (wpAny_pure ?_)
  try dsimp only
  refine wpAny_bind (wpAny_pure ?_)
  try dsimp only
  have hu2 : X.A.in1.units + 8 < cLine := by simp only [Around.in1_units]; omega
  refine wpAny_bind (wpAny_holding (wpAny_bind ((nestedKind X.prog X.w).pyHash hu2 nk ?_)))
  have S1 : NSet X.w ({ s with toks := s.toks + (keyD d).draws } : Shared).heap D (slOf M) es ep t := S
  refine add_key (s := { s with toks := s.toks + (keyD d).draws }) S1 nk hu2 (by omega) fun b h' L' es' ep' t' sb S2 c1 c2 => ?_
  obtain ⟨M', eM, y1, y2⟩ : ∃ M', L' = slOf M' ∧ (keyD d ∈ M.map (fun p => keyD p.2) → M' = M) ∧ (keyD d ∉ M.map (fun p => keyD p.2) → M'.Perm ((x, d) :: M)) := by
    rw [slOf_keys] at c1 c2
    by_cases m : keyD d ∈ M.map fun p => keyD p.2
    · exact ⟨M, c1 m, fun _ => rfl, fun z => absurd m z⟩
    · have p : L'.Perm (List.map (fun p : Addr × PyData => (p.1, keyD p.2)) ((x, d) :: M)) := c2 m
      obtain ⟨M', p1, p2⟩ := perm_map p
      exact ⟨M', p2, fun z => absurd z m, fun _ => p1⟩
  subst eM
  refine wpAny_pure ⟨_, rfl, ?_⟩
  obtain ⟨o2, ho2, _⟩ := S2.obj
  exact q _ M' (I.write (e := D) (t' := s.toks + (keyD d).draws) (by rw [e]; trivial) (.inl rfl) (fun b o hb z => (sb.2 b hb).trans z) ⟨_, ho2⟩ (setTO_obj S2.bare)) y1 y2
/-- sorted of a set of tuples of texts -/
theorem cr_sortT (hc : X.calm = true) : CallR X (.builtin "sorted") (fun vs H Q => ∃ (a : Addr) (M : TM) (ls : List (List Str)), vs = [.ref a] ∧ H a = some (SetTO X.w a M) ∧ Paired (fun p l => TxAt X.K H (.ref p.1) l) M ls ∧ (∀ l ∈ ls, l ≠ []) ∧
    ∀ p ys ms, H p = none → Paired (TxAt X.K (upd H p (.lst ys))) ys ms → ms.Perm ls → ms.Pairwise leL → Q (.ref p) (upd H p (.lst ys))) := by
  intro pins s σ H vs us Q I r h
  obtain ⟨a, M, ls, rfl, ha, hp, ne, q⟩ := h
  obtain ⟨es, ep, t, ⟨o, ho, hex, hd⟩, b2, b3, b4, b5, b6, b7⟩ := (I.hok a _ ha).1
  obtain ⟨u, rfl, ru⟩ := vals1 r
  obtain rfl : u = Value.ref a := ru
  have sz : es.size = M.length := by rw [size_of b2]; exact List.length_map _
  have small : es.size < scanBound := by
    have : (slOf M).length = M.length := List.length_map _
    unfold scanBound
    omega
  have fit : t.fits es.size = true := fits_of (by rw [b3.sz, hshs_len, sz]; exact List.length_map _) b3.dm (by have : (slOf M).length = M.length := List.length_map _; omega)
  refine Calls.call_function_entry kind_sorted plain_sorted entry_sorted (args_sorted1 _) ?_
  unfold Builtin.«sorted»
  refine wpAny_bind (m := checkCount "sorted" 1 1 _) (wpAny_pure ?_)
  refine wpAny_bind (collect_set (A := X.A.in1) (I.ok.hd hc) ⟨_, ho, hex.1, hd⟩ fit small b3.ris b5 fun s1 out k1 z1 g1 o1 pm => ?_)
  obtain ⟨h1, gg, dd, tk, os⟩ := s1
  have I1 : Inv X pins σ H ⟨h1, gg, dd, tk, os⟩ := by
    have e1 : gg = s.gens := g1
    have e2 : os = s.os := o1
    subst e1 e2
    exact I.call (ch := []) (Un.kept k1) (I.hok.kept k1) I.bare (fun _ z => nomatch z)
  -- what comes out are the tuples, in some order
  have eM : es.toList.map (·.2) = M.map fun p => Value.ref p.1 := by
    rw [b2]
    unfold rws slOf
    rw [List.map_map, List.map_map]
    rfl
  rw [eM] at pm
  have both0 : Paired (fun (u : Value) (l : List Str) => TxO h1 u l ∧ TxAt X.K H (backV u) l ∧ ∃ t, u = .ref t) (M.map fun p => Value.ref p.1) ls := by
    clear pm eM q ne ha b2 b3 b4 b5 b6 b7 sz small fit hd hex ho
    induction hp with
    | nil => exact .nil
    | cons e _ ih => exact .cons ⟨tx_obj I1 e rfl, e, _, rfl⟩ ih
  obtain ⟨l2, pl, both⟩ := perm_paired pm both0
  have ol : out.length = M.length := by rw [pm.length_eq, List.length_map]
  have few : M.length < 64 := by have : (slOf M).length = M.length := List.length_map _; omega
  have hz : out.length ≤ sizeLine := by rw [ol, sizeLine_eq]; omega
  refine wpAny_bind (wpAny_newList ?_ hz)
  have hoL : (h1.push (seqObj "list" out.toArray 0)).get? h1.objs.size = some (seqObj "list" out.toArray 0) := Heap.get?_push_size _ rfl
  have tx : ∀ v ∈ out, TxO h1 v (txOf h1 v) := fun v hv => by
    obtain ⟨f, _, e, _⟩ := paired_mem both hv
    rw [txOf_is e]
    exact e
  have tn : ∀ v ∈ out, txOf h1 v ≠ [] := fun v hv => by
    obtain ⟨f, hf, e, _⟩ := paired_mem both hv
    rw [txOf_is e]
    exact ne f (pl.mem_iff.mp hf)
  have old : ∀ b o, h1.get? b = some o → (h1.push (seqObj "list" out.toArray 0)).get? b = some o := fun b o e => Heap.get?_push_of_some _ e
  refine wpAny_bind (wpAny_holding (wpAny_call_entry slot_list_sort ⟨_, hoL, rfl⟩ entry_list_sort (SrtO.list_sort_ord (swo_txt (txOf h1)) hoL hz (fun h2 => ?_) fun ot hs hb => ⟨_, rfl, ?_⟩) (args_list_sort _)))
  · refine txt_sortable (by omega) (fun v hm => (tx v hm).keeps fun c o e _ => old c o e) tn fun o e => ?_
    have e' : some o = some (seqObj "list" out.toArray 0) := e.symm.trans hoL
    cases e'
    intro c
    exact absurd (Value.type.inj c) (by decide)
  · obtain ⟨ms, p1, p2⟩ := perm_paired hb.perm both
    have pw : ms.Pairwise leL := pw_paired (fun v u f g ef eg z => by
      have z : ltL (txOf h1 u) (txOf h1 v) = false := z
      rw [txOf_is ef.1, txOf_is eg.1] at z
      exact z) p2 hs
    have refs : ∀ u ∈ ot, ∃ t, u = Value.ref t := fun u hu => by
      obtain ⟨f, _, _, _, t, e⟩ := paired_mem p2 hu
      exact ⟨t, e⟩
    obtain ⟨c, hcc⟩ := sortedHeap_at (vs := out) (out := ot.toArray) hoL
    have nw : H h1.objs.size = none := I1.hok.fresh (Nat.le_refl h1.objs.size)
    have yl : (ot.map backV).length ≤ sizeLine := by rw [List.length_map, hb.perm.length_eq]; exact hz
    have rows : ∀ {l : List Value} {m : List (List Str)}, Paired (fun (u : Value) (l : List Str) => TxO h1 u l ∧ TxAt X.K H (backV u) l ∧ ∃ t, u = .ref t) l m → Paired (TxAt X.K (upd H h1.objs.size (.lst (ot.map backV)))) (l.map backV) m := by
      intro l m h
      induction h with
      | nil => exact .nil
      | cons a _ ih => exact .cons (a.2.1.st (same_upd nw).t) ih
    refine wpAny_pure ⟨_, rfl, .ref h1.objs.size, upd H h1.objs.size (.lst (ot.map backV)), I1.laid (t' := tk) (fun b o e => ?_) (Nat.le_refl _) ⟨yl, ot, c, vals_back refs, hcc⟩, rfl, q _ _ ms nw (rows p2) (p1.trans pl) pw⟩
    have lt := Heap.lt_size e
    show (sortedHeap _ _ _ _).get? b = some o
    rw [sortedHeap_old (Nat.ne_of_lt lt) (by rw [size_push']; exact Nat.lt_succ_of_lt lt)]
    exact old b o e
end
end Ga

set_option maxRecDepth 100000
set_option maxHeartbeats 4000000
/-! Xc: a set comprehension of two clauses, its items tuples. -/
namespace Ga
open PySem PySem.Spec PyProof.Rows L2 TL PpSet PySem.Froz
section
variable {prog : Program} {w : World} {A : Around} {R : Result → Shared → Prop} {s : Shared} {y tA iA tB iB : Expr} {fA fB : List Expr} {sc : Scope} {ps : Pos} {it D : Value} {v : Env}
abbrev sx2E (y tA iA tB iB : Expr) (fA fB : List Expr) (sc : Scope) (ps : Pos) : Expr := .SetComp y [⟨tA, iA, fA, 0⟩, ⟨tB, iB, fB, 0⟩] sc ps
theorem sx2_turnA : compTurn (sx2E y tA iA tB iB fA fB sc ps) 0 it D v = (do
      standAt iA.pos
      match ← pyNext it with
      | none => pure (.done .next)
      | some u =>
        letOwnedTupleGo tA it u
        assign tA v u
        let mut ok := true
        for c in fA do
          if ok then ok ← isTrue c v (eval c v)
        if ok then
          let x ← eval iB v
          standAt iB.pos
          let x ← foldedSetIterable iB v x
          let _ ← runOwn (.compStart (sx2E y tA iA tB iB fA fB sc ps) 1 (← holding [x] (pyIter x)) D v) v
        again (.compLoop (sx2E y tA iA tB iB fA fB sc ps) 0 it D v)) := by rfl
theorem sx2_turnB : compTurn (sx2E y tA iA tB iB fA fB sc ps) 1 it D v = (do
      standAt iB.pos
      match ← pyNext it with
      | none => pure (.done .next)
      | some u =>
        letOwnedTupleGo tB it u
        assign tB v u
        let mut ok := true
        for c in fB do
          if ok then ok ← isTrue c v (eval c v)
        if ok then
          (do let u ← eval y v; standAt y.pos; let _ ← call (.builtin "set.add") [D, u])
        again (.compLoop (sx2E y tA iA tB iB fA fB sc ps) 1 it D v)) := by rfl
abbrev tstS (fs : List Expr) (v : Env) : Sem Bool := forIn fs true fun c r => if r = true then do let ok ← isTrue c v (eval c v); pure (ForInStep.yield ok) else pure (ForInStep.yield r)
abbrev ntd (prog : Program) (w : World) (A : Around) (v : Env) (R : Result → Shared → Prop) : Value → Shared → Prop := notedBy (model prog w) A v fun e t => R (.error e) t
theorem sx2_outer (hs : ∀ x, foldedSetIterable iB v x = pure x) (I : Nat → Shared → Prop)
    (turn : ∀ n s, I n s → wpAny (model prog w) A (pyNext it) (fun r a => match r with
      | none => R (.ok .next) a
      | some u => wpAny (model prog w) A (letOwnedTupleGo tA it u) (fun _ b => wpAny (model prog w) A (assign tA v u) (fun _ c => wpAny (model prog w) A (tstS fA v) (fun ok d =>
            if ok = true then wpAny (model prog w) A (eval iB v) (fun x e => wpAny (model prog w) A (pyIter x) (fun jt f =>
              codeAny (model prog w) A (.compStart (sx2E y tA iA tB iB fA fB sc ps) 1 jt D v) (fun r t => match r with
                | .ok _ => ∃ m, m < n ∧ I m t
                | .error _ => False) f) (ntd prog w A v R) e) (ntd prog w A v R) d
            else ∃ m, m < n ∧ I m d) (ntd prog w A v R) c) (ntd prog w A v R) b) (ntd prog w A v R) a) (ntd prog w A v R) s)
    (n : Nat) (h : I n s) : codeAny (model prog w) A (.compLoop (sx2E y tA iA tB iB fA fB sc ps) 0 it D v) R s := by
  refine codeAny_loop rfl I (fun n s hI => ?_) n h
  show wpAny _ A ((compTurn (sx2E y tA iA tB iB fA fB sc ps) 0 it D v).onRaise (fun x => do noteFrame x v; theTreesLotGoes x)) _ _ s
  refine wpAny_noted ?_
  rw [sx2_turnA]
  refine wpAny_bind (wpAny_standAt (wpAny_bind (wpAny_mono (turn n s hI) (fun r a ha => ?_) fun _ _ z => z)))
  cases r with
  | none => exact wpAny_pure ha
  | some u =>
    refine wpAny_bind (wpAny_mono ha (fun _ b hb => ?_) fun _ _ z => z)
    refine wpAny_bind (wpAny_mono hb (fun _ c hc => wpAny_bind (wpAny_mono hc (fun ok d hd => ?_) fun _ _ z => z)) fun _ _ z => z)
    cases ok with
    | false => exact wpAny_pure ⟨rfl, hd⟩
    | true =>
      refine wpAny_bind (wpAny_mono hd (fun x e he => ?_) fun _ _ z => z)
      refine wpAny_bind (wpAny_standAt (wpAny_bind (wpAny_of_eq (hs x) (wpAny_bind (wpAny_holding (wpAny_mono he (fun jt f hf => ?_) fun _ _ z => z))))))
      refine wpAny_bind (wpAny_runOwn ?_)
      rw [Around.mark_none]
      refine codeAny_mono hf fun r t hr => ?_
      cases r with
      | ok g =>
        first
          | exact wpAny_pure ⟨rfl, hr⟩
          | exact wpAny_bind (wpAny_pure (wpAny_pure ⟨rfl, hr⟩))
      | error e => exact hr.elim
theorem sx2_inner (I : Nat → Shared → Prop)
    (turn : ∀ n s, I n s → wpAny (model prog w) A (pyNext it) (fun r a => match r with
      | none => R (.ok .next) a
      | some u => wpAny (model prog w) A (letOwnedTupleGo tB it u) (fun _ b => wpAny (model prog w) A (assign tB v u) (fun _ c => wpAny (model prog w) A (tstS fB v) (fun ok d =>
            if ok = true then wpAny (model prog w) A (eval y v) (fun x e => wpAny (model prog w) A (call (.builtin "set.add") [D, x]) (fun _ f => ∃ m, m < n ∧ I m f) (ntd prog w A v R) e) (ntd prog w A v R) d
            else ∃ m, m < n ∧ I m d) (ntd prog w A v R) c) (ntd prog w A v R) b) (ntd prog w A v R) a) (ntd prog w A v R) s)
    (n : Nat) (h : I n s) : codeAny (model prog w) A (.compLoop (sx2E y tA iA tB iB fA fB sc ps) 1 it D v) R s := by
  refine codeAny_loop rfl I (fun n s hI => ?_) n h
  show wpAny _ A ((compTurn (sx2E y tA iA tB iB fA fB sc ps) 1 it D v).onRaise (fun x => do noteFrame x v; theTreesLotGoes x)) _ _ s
  refine wpAny_noted ?_
  rw [sx2_turnB]
  refine wpAny_bind (wpAny_standAt (wpAny_bind (wpAny_mono (turn n s hI) (fun r a ha => ?_) fun _ _ z => z)))
  cases r with
  | none => exact wpAny_pure ha
  | some u =>
    refine wpAny_bind (wpAny_mono ha (fun _ b hb => ?_) fun _ _ z => z)
    refine wpAny_bind (wpAny_mono hb (fun _ c hc => wpAny_bind (wpAny_mono hc (fun ok d hd => ?_) fun _ _ z => z)) fun _ _ z => z)
    cases ok with
    | false => exact wpAny_pure ⟨rfl, hd⟩
    | true =>
      exact wpAny_bind (wpAny_bind (wpAny_mono hd (fun x e he => wpAny_bind (wpAny_standAt (wpAny_bind (wpAny_mono he (fun _ f hf => wpAny_pure (wpAny_pure ⟨rfl, hf⟩)) fun _ _ z => z)))) fun _ _ z => z))
theorem sx2_start (h0 : codeAny (model prog w) A (.compLoop (sx2E y tA iA tB iB fA fB sc ps) 1 it D v) R s)
    (h : wpAny (model prog w) A (pyIter it) (fun jt t => codeAny (model prog w) A (.compLoop (sx2E y tA iA tB iB fA fB sc ps) 1 jt D v) R t) (ntd prog w A v R) s) :
    codeAny (model prog w) A (.compStart (sx2E y tA iA tB iB fA fB sc ps) 1 it D v) R s := by
  refine codeAny_of_tree ?_
  show wpAny _ _ ((compStart (sx2E y tA iA tB iB fA fB sc ps) 1 it D v).onRaise (fun x => do noteFrame x v; standAt theWindowsPlace)) _ _ s
  refine wpAny_notedAt ?_
  unfold compStart
  show wpAny _ _ (ask >>= _) _ _ s
  refine wpAny_bind (wpAny_askSetting (wpAny_ite ?_))
  split
  · first
      | exact wpAny_bind (wpAny_pure (wpAny_pure (And.intro rfl h0)))
      | exact wpAny_pure (And.intro rfl h0)
  · first
      | exact wpAny_bind (wpAny_rule (wpAny_bind (wpAny_standAt (wpAny_bind (wpAny_mono h (fun jt t z => wpAny_pure (And.intro rfl z)) fun _ _ z => z)))))
      | (refine wpAny_bind (wpAny_rule ?_); show wpAny _ _ (standAt iB.pos >>= _) _ _ s; exact wpAny_bind (wpAny_standAt (wpAny_bind (wpAny_mono h (fun jt t z => wpAny_pure (And.intro rfl z)) fun _ _ z => z))))
end
section
variable {X : Cx}
/-- {e for target in walk if .. for target in walk if ..}, e a tuple: D is the new set -/
def tSx2 (K : PySem.W.Frag) (w : World) (wi : TI) (g : TG) (tt : TT) (wj : TI) (gj : TG) (tj : TT) (te : TE) (vs vj : List Nat) : TE := fun σ H Q => wi σ H fun J H1 => ∀ D, H1 D = none → ∃ W : Nat → Nat → Hp → Prop, (∃ m, W 0 m (upd H1 D (SetTO w D []))) ∧ ∀ i m H', W i m H' →
  (J.stop i H' ∧ Q (.ref D) H') ∨ (J.go i H' ∧ ∃ Nx : Hp → Prop, (∀ H2, Nx H2 → ∃ m', m' < m ∧ W (i + 1) m' H2) ∧ ∀ x H2, J.yld i H' x H2 → g x (wipe σ vs) H2 fun σ2 H3 => wipe σ2 vs = wipe σ vs ∧ tt σ2 H3 fun b H4 =>
    if b = true then wj σ2 H4 fun J1 H5 => ∃ V : Nat → Nat → Hp → Prop, (∃ m, V 0 m H5) ∧ ∀ j k H6, V j k H6 →
      (J1.stop j H6 ∧ Nx H6) ∨ (J1.go j H6 ∧ ∃ Ny : Hp → Prop, (∀ H7, Ny H7 → ∃ k', k' < k ∧ V (j + 1) k' H7) ∧ ∀ x H7, J1.yld j H6 x H7 → gj x (wipe σ2 vj) H7 fun σ3 H8 => wipe σ3 vj = wipe σ2 vj ∧ tj σ3 H8 fun c H9 =>
        if c = true then te σ3 H9 fun y Ha => ∃ (x : Addr) (d : PyData) (M : TM), y = .ref x ∧ Ha D = some (SetTO w D M) ∧ M.length + 1 < 64 ∧ ItmsAt K Ha M ∧ Dp K Ha (.ref x) d ∧ tupD d = true ∧
          ∀ M', (keyD d ∈ M.map (fun p => keyD p.2) → M' = M) → (keyD d ∉ M.map (fun p => keyD p.2) → M'.Perm ((x, d) :: M)) → Ny (upd Ha D (SetTO w D M'))
        else Ny H9)
    else Nx H4)
theorem pe_sx2 {y tA iA tB iB : Expr} {fA fB : List Expr} {scope : Scope} {own : List (PySem.Str × Nat)} {vj : List Nat} {pos : Pos} {wi wj : TI} {g gj : TG} {tt tj : TT} {te : TE} (hu : X.A.units + 64 < cLine) (hc : X.calm = true) (nd : X.N.Nodup) (hi : PI X tA iA wi) (ok : BlkOk X.N X.env.scope scope own) (hv : ∀ i ∈ vj, i ∈ own.map (·.2))
    (hg : Blk X scope fun Y => PG Y tA g) (ht : Blk X scope fun Y => PTs Y fA tt) (hj : Blk X scope fun Y => PI Y tB iB wj) (hgj : Blk X scope fun Y => PG Y tB gj) (htj : Blk X scope fun Y => PTs Y fB tj) (he : Blk X scope fun Y => PE Y y te)
    (hs : ∀ x, foldedSetIterable iA X.env x = pure x := by intro _; rfl) (hs1 : ∀ env x, foldedSetIterable iB env x = pure x := by intro _ _; rfl) :
    PE X (sx2E y tA iA tB iB fA fB scope pos) (tSx2 X.K X.w wi g tt wj gj tj te (own.map (·.2)) vj) := by
  refine ⟨fun pins s σ H Q I h => ?_⟩
  show wpAny _ _ (eval (.SetComp y [⟨tA, iA, fA, 0⟩, ⟨tB, iB, fB, 0⟩] scope pos) X.env) _ _ _
  rw [eval_SetComp]
  have caught : ∀ y ∈ scope.names, y.2 = .free → ∃ c, X.env.cells.lookup y.1 = some c := fun y hy e => by
    rcases ok.free y hy e with q | q
    · exact I.ok.has _ (.inl q)
    · exact I.ok.has _ (.inr q)
  refine wpAny_comprehension_free (use := none) rfl hs (closure_ok caught) ok.kind (fun y hy e => by rw [ok.uniq y hy, e]) (thn (hi.run pins s σ H _ I h) fun _ s1 h1 => thn h1 fun _ s2 h2 => ?_)
  obtain ⟨it, fp, tn, J, H2, rfl, I2, T, t2, f2, q⟩ := h2
  refine newSet_ok (newEnv_comp ?_)
  generalize eD : s2.heap.objs.size = D
  obtain ⟨W, ⟨m0, w0⟩, turn⟩ := q D (I2.hok.fresh (Nat.le_of_eq eD))
  generalize e3 : ({ s2 with heap := s2.heap.push { cls := .type "set", dict := none, data := .set #[] 0 (.fresh 0 0 (!X.w.params.followText "set-order")) } } : Shared) = s3
  have p3 : s3.heap = s2.heap.push { cls := .type "set", dict := none, data := .set #[] 0 (.fresh 0 0 (!X.w.params.followText "set-order")) } := by rw [← e3]
  have I3 : Inv X pins σ (upd H2 D (SetTO X.w D [])) s3 := by
    rw [← e3]
    refine I2.laid (t' := s2.toks) (fun b o e => Heap.get?_push_of_some _ e) (Nat.le_of_eq eD) ?_
    rw [← eD]
    exact setTO_obj setTO_new
  have f3 : ∀ b ∈ fp, FpOk X pins (upd H2 D (SetTO X.w D [])) b ∧ b < s3.heap.objs.size := fun b hb => by
    obtain ⟨o, eo, _⟩ := T.obj _ _ t2 b hb
    have lt : b < s2.heap.objs.size := Heap.lt_size eo
    refine ⟨⟨?_, (f2 b hb).2⟩, by rw [p3, Heap.size_push]; exact Nat.lt_succ_of_lt lt⟩
    rw [upd_ne (by rw [← eD]; exact Nat.ne_of_lt lt)]
    exact (f2 b hb).1
  have t3 : tn 0 s3.heap := T.keep _ _ _ t2 fun b _ o e => by rw [p3]; exact Heap.get?_push_of_some _ e
  generalize eH : upd H2 D (SetTO X.w D []) = H3 at I3 f3 w0
  have I4 := block_start I3 ok nd f3
  generalize ecl : cellsFrom (s3.heap.objs.size + 1) scope.names (cloFrom X.env.cells scope.names []) = cl at I4 ⊢
  have jg := hg s3 H3 s3.heap.objs.size cl fp
  have jt := ht s3 H3 s3.heap.objs.size cl fp
  have ji := hj s3 H3 s3.heap.objs.size cl fp
  have jgj := hgj s3 H3 s3.heap.objs.size cl fp
  have jtj := htj s3 H3 s3.heap.objs.size cl fp
  have je := he s3 H3 s3.heap.objs.size cl fp
  show codeAny _ _ (.compStart (sx2E y tA iA tB iB fA fB scope pos) 0 (.ref it) (.ref D) (compEnvC scope cl s3.heap.objs.size X.env)) (compPost (model X.prog X.w) X.A X.xe none _ (.ref D) s3.heap.objs.size) { s3 with heap := pushCells (s3.heap.push { cls := .type "dict", data := .dict #[] }) scope.names }
  generalize ec : compEnvC scope cl s3.heap.objs.size X.env = ce at I4 jg jt ji jgj jtj je ⊢
  have cL : ce.locals = s3.heap.objs.size := by subst ec; rfl
  generalize e4 : ({ s3 with heap := pushCells (s3.heap.push { cls := .type "dict", data := .dict #[] }) scope.names } : Shared) = s4 at I4 ⊢
  have t4 : tn 0 s4.heap := T.keep _ _ _ t3 fun b _ o e => by rw [← e4]; exact pushCells_keeps _ _ _ _ (Heap.get?_push_of_some _ e)
  have fpo : ∀ {σ' : L2.St} {H' : Hp} {s' : Shared}, Inv (X.blk s3 H3 scope ce fp) [] σ' H' s' → (∀ b ∈ fp, H' b = none) → ∀ b ∈ fp, FpOk (X.blk s3 H3 scope ce fp) [] H' b := fun {σ' H' s'} I' n b hb =>
    ⟨n b hb, (I'.ok.exf b hb).1, I'.ok.exfs b hb, .inl hb, fun x c e => (I'.ok.exf b hb).2 x c e, fun p hp => absurd (show p ∈ ([] : List (Addr × Obj)) ++ [] from hp) (by simp)⟩
  refine codeAny_compStart_set ?loop (T.self X.A 0 _ _ _ t4 ?loop)
  refine sx2_outer (hs1 ce) (fun n s' => ∃ i H', Inv (X.blk s3 H3 scope ce fp) [] (wipe σ (own.map (·.2))) H' s' ∧ tn i s'.heap ∧ (∀ b ∈ fp, H' b = none) ∧ W i n H') ?_ m0 ⟨0, H3, I4, t4, fun b hb => (f3 b hb).1.1, w0⟩
  rintro n s5 ⟨i, H5, I5, t5, n5, w5⟩
  rcases turn i n H5 w5 with ⟨stop, qq⟩ | ⟨go, Nx, hNx, step⟩
  · refine thnF (T.done (X.blk s3 H3 scope ce fp) rfl rfl rfl hc i [] s5 _ H5 (fun _ _ => False) I5 (fpo I5 n5) t5 stop) fun r s6 ⟨er, I6⟩ => ?_
    subst er
    have I7 : Inv X pins σ H5 s6 := I3.call' (ch := fp) I6.os I6.base I6.hok I6.bare fun b hb => ⟨(f3 b hb).1.2.2.2.1, (f3 b hb).1.2.1, (f3 b hb).1.2.2.2.2.1, (f3 b hb).1.2.2.2.2.2⟩
    have nC : H5 s3.heap.objs.size = none := cL ▸ I6.free
    obtain ⟨m, hn, _⟩ := I6.loc
    have hn : s6.heap.Ns ce.locals m := hn
    rw [cL] at hn
    obtain ⟨g0, g1, g2, g3, g4, g5⟩ := I3.fpOk (Nat.le_refl _) nC
    exact ⟨m, hn, fun h'' sb => ⟨.ref D, H5, I7.turned (t' := s6.toks) (fun b o hb e => (sb.2 b hb).trans e) g0 g1 g3 g4 g5, rfl, qq⟩⟩
  · refine thnF (T.item (X.blk s3 H3 scope ce fp) rfl rfl rfl hc i [] s5 _ H5 (fun _ _ => False) I5 (fpo I5 n5) t5 go) fun r s6 ⟨u, er, h6⟩ => ?_
    subst er
    refine thnF h6 fun _ s7 ⟨x, H7, I7, r7, y7, t7, n7⟩ => ?_
    have J7 := I7.pinned (fpo I7 n7) (T.obj _ _ t7)
    refine thnF (jg.run _ s7 _ H7 x u _ J7 r7 (step x H7 y7)) fun _ s8 ⟨σ8, H8, I8, w8, q8⟩ => ?_
    refine thnF (jt.run _ s8 σ8 H8 _ I8 q8) fun b s9 ⟨H9, I9, q9⟩ => ?_
    -- back at the first clause's loop, from any slots that keep what the block began with
    have back : ∀ {τ : L2.St} {s' : Shared} {H' : Hp}, Inv (X.blk s3 H3 scope ce fp) ([] ++ pinsAt fp s7.heap) τ H' s' → (wipe σ (own.map (·.2))).length = τ.length → (∀ (j : Nat) v, (wipe σ (own.map (·.2)))[j]? = some (some v) → τ[j]? = some (some v)) → Nx H' →
        ∃ m, m < n ∧ ∃ i H', Inv (X.blk s3 H3 scope ce fp) [] (wipe σ (own.map (·.2))) H' s' ∧ tn i s'.heap ∧ (∀ b ∈ fp, H' b = none) ∧ W i m H' := fun {τ s' H'} I' l1 l2 nx => by
      obtain ⟨m', hm, w'⟩ := hNx H' nx
      have stays : ∀ b ∈ fp, ∀ o, s7.heap.get? b = some o → s'.heap.get? b = some o ∧ H' b = none := fun b hb o e => by
        have z := I'.pin (b, o) (List.mem_append_right _ (List.mem_append_right _ (mem_pinsAt hb e)))
        exact ⟨z.1, z.2.1⟩
      refine ⟨m', hm, i + 1, H', (I'.unpinned (pins := [])).weak l1 l2, T.keep _ _ _ t7 fun b hb o e => (stays b hb o e).1, fun b hb => ?_, w'⟩
      obtain ⟨o, e, _⟩ := T.obj _ _ t7 b hb
      exact (stays b hb o e).2
    have a1 : (wipe σ (own.map (·.2))).length = σ8.length := by rw [← w8, wipe_length]
    have a2 : ∀ (j : Nat) v, (wipe σ (own.map (·.2)))[j]? = some (some v) → σ8[j]? = some (some v) := fun j v e => by
      rw [← w8] at e
      exact (wipe_some e).1
    have a3 : ∀ (j : Nat) v, (wipe σ (own.map (·.2)))[j]? = some (some v) → (wipe σ8 vj)[j]? = some (some v) := fun j v e => by
      rw [← w8] at e
      obtain ⟨e1, e2⟩ := wipe_some e
      rw [wipe_out fun z => e2 (hv j z)]
      exact e1
    cases b with
    | false =>
      rw [if_neg Bool.false_ne_true] at q9 ⊢
      exact back I9 a1 a2 q9
    | true =>
      rw [if_pos rfl] at q9 ⊢
      refine thnF (ji.run _ s9 σ8 H9 _ I9 q9) fun _ s10 hx => thnF hx fun _ s11 h11 => ?_
      obtain ⟨jt1, fq, tq, J1, Hb, rfl, I11, T1, t11, f11, V, ⟨k0, v0⟩, turn1⟩ := h11
      have fpq : ∀ {H' : Hp}, (∀ b ∈ fq, H' b = none) → ∀ b ∈ fq, FpOk (X.blk s3 H3 scope ce fp) ([] ++ pinsAt fp s7.heap) H' b := fun n b hb => ⟨n b hb, (f11 b hb).2⟩
      have loop1 : codeAny (model X.prog X.w) X.A (.compLoop (sx2E y tA iA tB iB fA fB scope pos) 1 (.ref jt1) (.ref D) ce)
          (fun r s' => match r with
            | .ok _ => ∃ m, m < n ∧ ∃ i H', Inv (X.blk s3 H3 scope ce fp) [] (wipe σ (own.map (·.2))) H' s' ∧ tn i s'.heap ∧ (∀ b ∈ fp, H' b = none) ∧ W i m H'
            | .error _ => False) s11 := by
        refine sx2_inner (fun k s' => ∃ j H', Inv (X.blk s3 H3 scope ce fp) ([] ++ pinsAt fp s7.heap) (wipe σ8 vj) H' s' ∧ tq j s'.heap ∧ (∀ b ∈ fq, H' b = none) ∧ V j k H') ?_ k0 ⟨0, Hb, I11.weak (wipe_length _ _) (fun j v e => (wipe_some e).1), t11, fun b hb => (f11 b hb).1, v0⟩
        rintro k s12 ⟨j, Hc, I12, t12, n12, v12⟩
        rcases turn1 j k Hc v12 with ⟨stop1, nx1⟩ | ⟨go1, Ny, hNy, step1⟩
        · refine thnF (T1.done (X.blk s3 H3 scope ce fp) rfl rfl rfl hc j _ s12 (wipe σ8 vj) Hc (fun _ _ => False) I12 (fpq n12) t12 stop1) fun r s13 ⟨er, I13⟩ => ?_
          subst er
          exact back I13 (a1.trans (wipe_length σ8 vj).symm) a3 nx1
        · refine thnF (T1.item (X.blk s3 H3 scope ce fp) rfl rfl rfl hc j _ s12 (wipe σ8 vj) Hc (fun _ _ => False) I12 (fpq n12) t12 go1) fun r s13 ⟨u1, er, h13⟩ => ?_
          subst er
          refine thnF h13 fun _ s14 ⟨x1, Hd, I14, r14, y14, t14, n14⟩ => ?_
          have J14 := I14.pinned (fpq n14) (T1.obj _ _ t14)
          refine thnF (jgj.run _ s14 (wipe σ8 vj) Hd x1 u1 _ J14 r14 (step1 x1 Hd y14)) fun _ s15 ⟨σ15, He, I15, w15, q15⟩ => ?_
          refine thnF (jtj.run _ s15 σ15 He _ I15 q15) fun b1 s16 ⟨Hf, I16, q16⟩ => ?_
          have back1 : ∀ {s' : Shared} {H' : Hp}, Inv (X.blk s3 H3 scope ce fp) (([] ++ pinsAt fp s7.heap) ++ pinsAt fq s14.heap) σ15 H' s' → Ny H' → ∃ m, m < k ∧ ∃ j H', Inv (X.blk s3 H3 scope ce fp) ([] ++ pinsAt fp s7.heap) (wipe σ8 vj) H' s' ∧ tq j s'.heap ∧ (∀ b ∈ fq, H' b = none) ∧ V j m H' := fun {s' H'} I' nx => by
            obtain ⟨m', hm, w'⟩ := hNy H' nx
            have stays : ∀ b ∈ fq, ∀ o, s14.heap.get? b = some o → s'.heap.get? b = some o ∧ H' b = none := fun b hb o e => by
              have z := I'.pin (b, o) (List.mem_append_right _ (List.mem_append_right _ (mem_pinsAt hb e)))
              exact ⟨z.1, z.2.1⟩
            refine ⟨m', hm, j + 1, H', I'.unpinned.weak (by rw [← w15, wipe_length]) (fun j v e => by rw [← w15] at e; exact (wipe_some e).1), T1.keep _ _ _ t14 fun b hb o e => (stays b hb o e).1, fun b hb => ?_, w'⟩
            obtain ⟨o, e, _⟩ := T1.obj _ _ t14 b hb
            exact (stays b hb o e).2
          cases b1 with
          | false =>
            rw [if_neg Bool.false_ne_true] at q16 ⊢
            exact back1 I16 q16
          | true =>
            rw [if_pos rfl] at q16 ⊢
            refine thnF (je.run _ s16 σ15 Hf _ I16 q16) fun v s17 ⟨yv, Hg, I17, r17, x, d, M, ey, eM, few, km, dx, td, nx⟩ => ?_
            subst ey
            cases r17
            exact addTO (X := X.blk s3 H3 scope ce fp) I17 eM few km dx td hu fun s18 M' I18 c1 c2 => back1 I18 (nx M' c1 c2)
      exact sx2_start loop1 (T1.self X.A 0 _ _ _ t11 loop1)
end
end Ga

set_option maxRecDepth 100000
set_option maxHeartbeats 1000000
/-! Xd: the set of all tuples of texts that stand in lists, one list for each item. -/
namespace Ga
open PySem PySem.Spec PyProof.Rows L2 TL
def fT (l : List Str) : PyData := .tuple (l.map PyData.str)
theorem eqv_strs : ∀ l m : List Str, PyData.eqvAll (l.map PyData.str) (m.map PyData.str) = decide (l = m)
  | [], [] => rfl
  | [], _ :: _ => by rw [decide_eq_false (by simp)]; rfl
  | _ :: _, [] => by rw [decide_eq_false (by simp)]; rfl
  | x :: l, y :: m => by
    show (PyData.eqv (.str x) (.str y) && PyData.eqvAll (l.map PyData.str) (m.map PyData.str)) = _
    rw [eqv_strs l m]
    show ((x == y) && decide (l = m)) = _
    by_cases h : x = y
    · subst h
      rw [beq_self_eq_true, Bool.true_and]
      by_cases g : l = m
      · subst g
        rw [decide_eq_true rfl, decide_eq_true rfl]
      · rw [decide_eq_false g, decide_eq_false]
        exact fun z => g (List.cons.inj z).2
    · rw [beq_eq_false_iff_ne.mpr h, Bool.false_and, decide_eq_false]
      exact fun z => h (List.cons.inj z).1
theorem eqv_fT (l m : List Str) : PyData.eqv (fT l) (fT m) = decide (l = m) := eqv_strs l m
theorem flats_strs : ∀ l : List Str, flatsD (l.map PyData.str) = true ∧ PyData.depthAll (l.map PyData.str) ≤ 1
  | [] => ⟨rfl, by show 0 ≤ 1; decide⟩
  | x :: l => by
    obtain ⟨a, b⟩ := flats_strs l
    refine ⟨?_, ?_⟩
    · show (flatD (.str x) && flatsD (l.map PyData.str)) = true
      rw [a]
      rfl
    · show max (PyData.depth (.str x)) (PyData.depthAll (l.map PyData.str)) ≤ 1
      have : PyData.depth (.str x) ≤ 1 := by simp [PyData.depth]
      omega
theorem tup_fT (l : List Str) : tupD (fT l) = true := by
  obtain ⟨a, b⟩ := flats_strs l
  show (flatsD (l.map PyData.str) && decide (PyData.depthAll (l.map PyData.str) ≤ 7)) = true
  rw [a, decide_eq_true (by omega)]
  rfl
theorem key_fT {l m : List Str} : keyD (fT l) = keyD (fT m) ↔ l = m := by
  rw [keyD_iff (flat_tup (tup_fT l)) (flat_tup (tup_fT m)), eqv_fT, decide_eq_true_iff]
theorem dps_strs {K : PySem.W.Frag} {H : Hp} : ∀ l : List Str, DpAll K H (l.map V.str) (l.map PyData.str)
  | [] => .nil
  | x :: l => .cons (.str x) (dps_strs l)
theorem TxAt.dp {K : PySem.W.Frag} {H : Hp} {v : V} {l : List Str} (h : TxAt K H v l) : Dp K H v (fT l) := by
  obtain ⟨t, rfl, q⟩ := h
  exact .tup q (dps_strs l)
/-- at D a set of these tuples -/
def InSet (K : PySem.W.Frag) (w : World) (H : Hp) (D : Addr) (ls : List (List Str)) : Prop := ∃ M : TM, H D = some (SetTO w D M) ∧ Paired (fun p l => TxAt K H (.ref p.1) l ∧ p.2 = fT l) M ls ∧ ls.Nodup
theorem kp_t {D : Addr} {H H' : Hp} {φ : Heap → Prop} (k : Kp D H H') (e : H D = some (.ext φ)) : SameT H H' := fun b xs => by
  by_cases h : b = D
  · subst h
    rw [e]
    exact ⟨(fun z => nomatch z), (fun _ z => nomatch z)⟩
  · exact ⟨k b _ h, fun o => k b _ h⟩
theorem kp_put {B : Addr} {H H1 : Hp} {o : HO} (k : Kp B H H1) : Kp B H (upd H1 B o) := fun b u n e => by rw [upd_ne n]; exact k b u n e
theorem InSet.kept {K : PySem.W.Frag} {w : World} {H H' : Hp} {D : Addr} {ls : List (List Str)} (h : InSet K w H D ls) (s : Same H H') : InSet K w H' D ls := by
  obtain ⟨M, e, p, n⟩ := h
  exact ⟨M, s _ _ e, p.mono fun _ _ q => ⟨q.1.st s.t, q.2⟩, n⟩
theorem walk_kp {K : PySem.W.Frag} {H : Hp} {a D : Addr} {xs : List V} (h : SqL K H a xs) (n : a ≠ D) : Walk (Itl K a) xs.length (fun H' => Kp D H H') (YAt xs) :=
  walk_list.mono (fun _ k => k.seqL n h) fun _ _ _ _ _ _ y => y
/-- the inner clause: its walk over a list of tuples of texts, and what becomes of each -/
def InnS (K : PySem.W.Frag) (D : Addr) (bs : List (List Str)) (gj : TG) (te : TE) (vj : List Nat) (σ2 : L2.St) (J1 : It) (H4 : Hp) : Prop :=
  Walk J1 bs.length (fun H' => Kp D H4 H') (fun _ _ _ _ => True) ∧ ∀ (j : Nat) (b : List Str), bs[j]? = some b → ∀ (H5 : Hp) (x : V) (H6 : Hp), SameT H4 H5 → Kp D H4 H5 → J1.yld j H5 x H6 → ∀ (Rk : VK) (Rn : Hp → Prop),
    (∀ y H7, Same H5 H7 → TxAt K H7 y b → Rk y H7) → gj x (wipe σ2 vj) H6 fun σ3 H7 => wipe σ3 vj = wipe σ2 vj ∧ tYes σ3 H7 fun b H8 => if b = true then te σ3 H8 Rk else Rn H8
theorem flat_snoc {α β : Type} {bs : α → List β} {as : List α} {i : Nat} {a : α} (h : as[i]? = some a) : (as.take (i + 1)).flatMap bs = (as.take i).flatMap bs ++ bs a := by
  rw [List.take_add_one, h, List.flatMap_append]
  simp
theorem sx2_rel {α : Type} {K : PySem.W.Frag} {w : World} {H : Hp} {σ : L2.St} {J : It} {xs : List V} {as : List α} {bs : α → List (List Str)} {g gj : TG} {wj : TI} {te : TE} {vs vj : List Nat} {Qd : Hp → Prop} {D : Addr} (nD : H D = none)
    (wk : Walk J xs.length (fun H' => Same H H') (YAt xs)) (hal : xs.length = as.length) (hz : as.length ≤ 20) (hb : ∀ a ∈ as, (bs a).length ≤ 3)
    (hi : ∀ (i : Nat) (c : V) (a : α), xs[i]? = some c → as[i]? = some a → ∀ (H2 : Hp) (B : L2.St → It → Hp → Prop), Same H H2 → (∀ σ2 J1 H4, Same H2 H4 → (H2 D ≠ none → InnS K D (bs a) gj te vj σ2 J1 H4) → B σ2 J1 H4) →
      g c (wipe σ vs) H2 fun σ2 H3 => wipe σ2 vs = wipe σ vs ∧ wj σ2 H3 fun J1 H4 => B σ2 J1 H4)
    (hq : ∀ H' ls, Same H H' → InSet K w H' D ls → (∀ l, l ∈ ls ↔ l ∈ as.flatMap bs) → Qd H') :
    ∃ W : Nat → Nat → Hp → Prop, (∃ m, W 0 m (upd H D (SetTO w D []))) ∧ ∀ i m H', W i m H' →
      (J.stop i H' ∧ Qd H') ∨ (J.go i H' ∧ ∃ Nx : Hp → Prop, (∀ H2, Nx H2 → ∃ m', m' < m ∧ W (i + 1) m' H2) ∧ ∀ x H2, J.yld i H' x H2 → g x (wipe σ vs) H2 fun σ2 H3 => wipe σ2 vs = wipe σ vs ∧ tYes σ2 H3 fun b H4 =>
        if b = true then wj σ2 H4 fun J1 H5 => ∃ V : Nat → Nat → Hp → Prop, (∃ m, V 0 m H5) ∧ ∀ j k H6, V j k H6 →
          (J1.stop j H6 ∧ Nx H6) ∨ (J1.go j H6 ∧ ∃ Ny : Hp → Prop, (∀ H7, Ny H7 → ∃ k', k' < k ∧ V (j + 1) k' H7) ∧ ∀ x H7, J1.yld j H6 x H7 → gj x (wipe σ2 vj) H7 fun σ3 H8 => wipe σ3 vj = wipe σ2 vj ∧ tYes σ3 H8 fun c H9 =>
            if c = true then te σ3 H9 fun y Ha => ∃ (x : Addr) (d : PyData) (M : TM), y = .ref x ∧ Ha D = some (SetTO w D M) ∧ M.length + 1 < 64 ∧ ItmsAt K Ha M ∧ Dp K Ha (.ref x) d ∧ tupD d = true ∧
              ∀ M', (keyD d ∈ M.map (fun p => keyD p.2) → M' = M) → (keyD d ∉ M.map (fun p => keyD p.2) → M'.Perm ((x, d) :: M)) → Ny (upd Ha D (SetTO w D M'))
            else Ny H9)
        else Nx H4) := by
  let St : Nat → Hp → Prop := fun i H' => i ≤ xs.length ∧ Same H H' ∧ ∃ ls, InSet K w H' D ls ∧ ls.length ≤ 3 * i ∧ ∀ l, l ∈ ls ↔ l ∈ (as.take i).flatMap bs
  refine ⟨fun i m H' => m = xs.length - i ∧ St i H', ⟨xs.length, by simp, Nat.zero_le _, same_upd nD, [], ⟨[], upd_same, .nil, List.nodup_nil⟩, by simp, fun l => by simp⟩, ?_⟩
  rintro i m H2 ⟨rfl, hle, s, ls, is, few, mem⟩
  by_cases hlt : i < xs.length
  · refine .inr ⟨wk.goes i H2 hlt s, St (i + 1), fun H' q => ⟨xs.length - (i + 1), by omega, rfl, q⟩, fun x H3 y => ?_⟩
    obtain ⟨rfl, hg⟩ := wk.yields i H2 x H3 hlt s y
    obtain ⟨a, ha⟩ : ∃ a, as[i]? = some a := ⟨_, List.getElem?_eq_getElem (by omega)⟩
    have ham := List.mem_of_getElem? ha
    have h3 := hb a ham
    refine hi i x a hg ha H3 _ s fun σ2 J1 H4 s4 inn0 => ?_
    have inn := inn0 (by obtain ⟨M, e, _⟩ := is; rw [e]; exact fun z => nomatch z)
    obtain ⟨w1, el⟩ := inn
    have is4 := is.kept s4
    let Mid : Nat → Hp → Prop := fun j H' => j ≤ (bs a).length ∧ Same H H' ∧ Kp D H4 H' ∧ SameT H4 H' ∧ ∃ zs, InSet K w H' D zs ∧ zs.length ≤ 3 * i + j ∧ ∀ l, l ∈ zs ↔ l ∈ (as.take i).flatMap bs ++ (bs a).take j
    refine ⟨fun j k H' => k = (bs a).length - j ∧ Mid j H', ⟨(bs a).length, by simp, Nat.zero_le _, s.trans s4, .refl _ _, .refl _, ls, is4, by omega, fun l => by simp [mem]⟩, ?_⟩
    rintro j k H5 ⟨rfl, hj, s5, k5, t5, zs, is5, few5, mem5⟩
    by_cases hlj : j < (bs a).length
    · refine .inr ⟨w1.goes j H5 hlj k5, Mid (j + 1), fun H' q => ⟨(bs a).length - (j + 1), by omega, rfl, q⟩, fun z H6 y6 => ?_⟩
      have hbj : (bs a)[j]? = some (bs a)[j] := List.getElem?_eq_getElem hlj
      generalize hbe : (bs a)[j] = b at hbj
      refine el j _ hbj H5 z H6 t5 k5 y6 _ _ fun v H7 s7 r7 => ?_
      obtain ⟨M, e7, p7, n7⟩ := is5.kept s7
      obtain ⟨t, rfl, q7⟩ := id r7
      have lM : M.length = zs.length := p7.length
      refine ⟨t, fT b, M, rfl, e7, by rw [hal] at hlt; omega, fun p hp => ?_, r7.dp, tup_fT _, fun M' c1 c2 => ?_⟩
      · obtain ⟨l, hl, q, e⟩ := paired_mem p7 hp
        rw [e]
        exact ⟨q.dp, tup_fT _⟩
      · have km : keyD (fT b) ∈ M.map (fun p => keyD p.2) ↔ b ∈ zs := by
          constructor
          · intro h
            obtain ⟨p, hp, e⟩ := List.mem_map.mp h
            obtain ⟨l, hl, q, e2⟩ := paired_mem p7 hp
            rw [e2] at e
            rw [← key_fT.mp e]
            exact hl
          · intro h
            obtain ⟨n, hn⟩ := List.getElem?_of_mem h
            obtain ⟨p, hp, q, e⟩ := paired_get2 p7 n b hn
            exact List.mem_map.mpr ⟨p, List.mem_of_getElem? hp, by rw [e]⟩
        have tk : (bs a).take (j + 1) = (bs a).take j ++ [b] := by rw [List.take_add_one, hbj]; rfl
        have su : SameT H7 (upd H7 D (SetTO w D M')) := .put e7 rfl
        refine ⟨hlj, (s5.trans s7).mut nD, kp_put (k5.trans (.same s7)), (t5.trans s7.t).trans su, ?_⟩
        by_cases hm : b ∈ zs
        · rw [c1 (km.mpr hm)] at su ⊢
          refine ⟨zs, ⟨M, upd_same, p7.mono fun _ _ q => ⟨q.1.st su, q.2⟩, n7⟩, by omega, fun l => ?_⟩
          rw [tk, ← List.append_assoc, List.mem_append, List.mem_singleton, mem5]
          exact ⟨.inl, fun h => h.elim id fun e => by rw [e]; exact (mem5 b).mp hm⟩
        · have pm := c2 fun h => hm (km.mp h)
          have p8 : Paired (fun p l => TxAt K H7 (.ref p.1) l ∧ p.2 = fT l) ((t, fT b) :: M) (b :: zs) := .cons ⟨r7, rfl⟩ p7
          obtain ⟨z2, p9, p10⟩ := perm_paired pm p8
          refine ⟨z2, ⟨M', upd_same, p10.mono fun _ _ q => ⟨q.1.st su, q.2⟩, p9.nodup_iff.mpr (List.nodup_cons.mpr ⟨hm, n7⟩)⟩, by rw [p9.length_eq, List.length_cons]; omega, fun l => ?_⟩
          rw [p9.mem_iff, tk, ← List.append_assoc, List.mem_append, List.mem_singleton, List.mem_cons, mem5]
          exact ⟨fun h => h.elim .inr .inl, fun h => h.elim .inr .inl⟩
    · have e : j = (bs a).length := by omega
      subst e
      refine .inl ⟨w1.stops H5 k5, hlt, s5, zs, is5, by omega, fun l => ?_⟩
      rw [flat_snoc ha, mem5, List.take_length]
  · have e : i = xs.length := by omega
    subst e
    refine .inl ⟨wk.stops H2 s, hq H2 ls s is fun l => ?_⟩
    rw [mem, hal, List.take_length]
section
variable {X : Cx}
theorem pe_sx2K {K : PySem.W.Frag} {w : World} (hK : X.K = K) (hw : X.w = w) {y tA iA tB iB : Expr} {fA fB : List Expr} {scope : Scope} {own : List (PySem.Str × Nat)} {vj : List Nat} {pos : Pos} {wi wj : TI} {g gj : TG} {tt tj : TT} {te : TE} (hu : X.A.units + 65 < cLine) (hc : X.calm = true) (nd : X.N.Nodup) (hi : PI X tA iA wi) (ok : BlkOk X.N X.env.scope scope own) (hv : ∀ i ∈ vj, i ∈ own.map (·.2))
    (hg : Blk X scope fun Y => PG Y tA g) (ht : Blk X scope fun Y => PTs Y fA tt) (hj : Blk X scope fun Y => PI Y tB iB wj) (hgj : Blk X scope fun Y => PG Y tB gj) (htj : Blk X scope fun Y => PTs Y fB tj) (he : Blk X scope fun Y => PE Y y te)
    (hs : ∀ x, foldedSetIterable iA X.env x = pure x := by intro _; rfl) (hs1 : ∀ env x, foldedSetIterable iB env x = pure x := by intro _ _; rfl) :
    PE X (.SetComp y [⟨tA, iA, fA, 0⟩, ⟨tB, iB, fB, 0⟩] scope pos) (tSx2 K w wi g tt wj gj tj te (own.map (·.2)) vj) := by
  subst hK hw
  exact pe_sx2 (by omega) hc nd hi ok hv hg ht hj hgj htj he hs hs1
theorem cr_sortTK {K : PySem.W.Frag} {w : World} (hK : X.K = K) (hw : X.w = w) (hc : X.calm = true) : CallR X (.builtin "sorted") (fun vs H Q => ∃ (a : Addr) (M : TM) (ls : List (List Str)), vs = [.ref a] ∧ H a = some (SetTO w a M) ∧ Paired (fun p l => TxAt K H (.ref p.1) l) M ls ∧ (∀ l ∈ ls, l ≠ []) ∧
    ∀ p ys ms, H p = none → Paired (TxAt K (upd H p (.lst ys))) ys ms → ms.Perm ls → ms.Pairwise leL → Q (.ref p) (upd H p (.lst ys))) := by
  subst hK hw
  exact cr_sortT hc
end
end Ga

set_option maxRecDepth 100000
set_option maxHeartbeats 1000000
/-! Fa: the feet of actions; those of a journal. -/
namespace KX
open PySem PySem.Spec PyProof.Rows L2 TL Ga NdefX StX
inductive Foot
  | read (p : Str)
  | find (p z : Str)
  | under (p : Str)
  | above (p : Str)
  | total
def Foot.txt : Foot → List Str
  | .read p => ["read", p]
  | .find p z => ["find", p, z]
  | .under p => ["under", p]
  | .above p => ["above", p]
  | .total => ["total"]
def feetA : Act → List Foot
  | .read p => [.read p]
  | .kind p => [.under p]
  | .list p => [.under p]
  | .count p => [.under p]
  | .find p z => [.under p, .find p z]
  | .write p _ => [.under p, .above p, .total]
  | .remove p => [.read p]
  | .move p t => [.read p, .under t, .above t]
  | .splice p _ _ => [.read p]
theorem foot_ne (f : Foot) : f.txt ≠ [] := by cases f <;> exact fun z => nomatch z
theorem foot_inj {f g : Foot} (h : f.txt = g.txt) : f = g := by
  cases f <;> cases g <;> simp only [Foot.txt, List.cons.injEq, List.nil_eq, List.cons_ne_nil, reduceCtorEq, and_true, and_false] at h
  all_goals first | rfl | (obtain ⟨_, rfl, rfl⟩ := h; rfl) | (obtain ⟨_, rfl⟩ := h; rfl) | (exact absurd h.1 (by decide +kernel)) | (exact absurd h (by decide +kernel)) | skip
theorem same_none {H H' : Hp} {l : Addr} (s : Same H H') (n : H' l = none) : H l = none := by
  cases e : H l with
  | none => rfl
  | some o => rw [s _ _ e] at n; cases n
theorem feetA_len (a : Act) : (feetA a).length ≤ 3 := by cases a <;> simp [feetA]
/-- rising, each once -/
def SrtOf (js : List Ent) (ms : List (List Str)) : Prop := ms.Pairwise leL ∧ ms.Nodup ∧ ∀ l, l ∈ ms ↔ l ∈ js.flatMap fun e => (feetA e.1).map Foot.txt
def spFeet (K : PySem.W.Frag) : Sp := fun vs H Q _ => ∃ (jv : V) (js : List Ent), vs = [jv] ∧ JrnAt K H jv js ∧ js.length ≤ 20 ∧ ∀ H' r ys ms, Same H H' → SqT K H' r ys → Paired (TxAt K H') ys ms → SrtOf js ms → Q (.ref r) H'
def spFeetOf (K : PySem.W.Frag) : Sp := fun vs H Q _ => ∃ (v : V) (a : Act), vs = [v] ∧ Dt K H v (dA a) ∧ ∀ H' l ys, Same H H' → H l = none → H' l = some (.lst ys) → Paired (fun y (f : Foot) => TxAt K H' y f.txt) ys (feetA a) → Q (.ref l) H'
section
variable {P : Program} {w : World} {K : PySem.W.Frag} {mg : Str → Option Value} {base : Heap} {C : Addr}
theorem ok_feetof {f : Addr} {fd : FuncData} (F : Fun K "feet_of" "feet_of" s_feet_of f fd) : FnOk P w K mg base CX0 1 f fd ["action"] (spFeetOf K) := by
  refine F.ok sc_feet_of (fun vs H Q E h => ?_) (fun cdv A outer s H vs Q E hr h => ?_)
  · obtain ⟨v, a, rfl, _⟩ := h
    rfl
  · obtain ⟨v, a, rfl, hd, q⟩ := h
    refine ⟨_, pss_cons (ps_par (i := 1) (j := 2) rfl sc_feet_of.nd rfl rfl (by decide) rfl rfl (pa_cons (pe_ix (ixT (K := K) rfl) (pv 0) pe_int (fun _ _ => rfl)) (pa_cons (pe_ix (ixT (K := K) rfl) (pv 0) pe_int (fun _ _ => rfl)) pa_nil)) (by rfl))
      (pss_cons (ps_if (pt_cmpR op_in_seq (pv 1) (pe_tup (pa_consts (vs := [V.str "read", .str "remove", .str "splice"]) rfl)) (by rfl)) (pss_one (ps_ret (pe_lst (pa_cons (pe_tup (pa_cons pe_str (pa_cons (pv 2) pa_nil))) pa_nil)))) pss_nil)
      (pss_cons (ps_if (pt_cmpR op_eq (pv 1) pe_str (nomark _)) (pss_one (ps_ret (pe_lst (pa_cons (pe_tup (pa_cons pe_str (pa_cons (pv 2) pa_nil))) (pa_cons (pe_tup (pa_cons pe_str (pa_cons (pv 2) pa_nil))) (pa_cons (pe_tup (pa_cons pe_str pa_nil)) pa_nil)))))) pss_nil)
      (pss_cons (ps_if (pt_cmpR op_eq (pv 1) pe_str (nomark _)) (pss_one (ps_ret (pe_lst (pa_cons (pe_tup (pa_cons pe_str (pa_cons (pv 2) pa_nil))) (pa_cons (pe_tup (pa_cons pe_str (pa_cons (pe_ix (ixT (K := K) rfl) (pv 0) pe_int (fun _ _ => rfl)) pa_nil))) (pa_cons (pe_tup (pa_cons pe_str (pa_cons (pe_ix (ixT (K := K) rfl) (pv 0) pe_int (fun _ _ => rfl)) pa_nil))) pa_nil)))))) pss_nil)
      (pss_cons (ps_if (pt_cmpR op_eq (pv 1) pe_str (nomark _)) (pss_one (ps_ret (pe_lst (pa_cons (pe_tup (pa_cons pe_str (pa_cons (pv 2) pa_nil))) (pa_cons (pe_tup (pa_cons pe_str (pa_cons (pv 2) (pa_cons (pe_ix (ixT (K := K) rfl) (pv 0) pe_int (fun _ _ => rfl)) pa_nil)))) pa_nil))))) pss_nil)
      (pss_one (ps_ret (pe_lst (pa_cons (pe_tup (pa_cons pe_str (pa_cons (pv 2) pa_nil))) pa_nil)))))))), ?_⟩
    obtain ⟨t, vs, rfl, st, dl⟩ := act_parts hd
    obtain ⟨p, r, er⟩ : ∃ p r, a.parts.map (fun q => dI q.2) = .str p :: r := by cases a <;> exact ⟨_, _, rfl⟩
    obtain ⟨v2, rfl, dl2⟩ : ∃ v2, vs = .str p :: v2 ∧ DtL K H v2 r := by
      rw [er] at dl
      cases dl with
      | cons a b => exact ⟨_, by rw [a.strE], b⟩
    refine ⟨_, rfl, t, _, 0, .str a.word, rfl, rfl, st, at_of (j := 0) rfl rfl, _, rfl, t, _, 1, .str p, rfl, rfl, st, at_of (j := 1) rfl rfl, _, _, rfl, ?_⟩
    refine ⟨_, rfl, by show 3 ≤ sizeLine; decide, fun m nm => ?_⟩
    have s1 := same_upd (o := HO.tup [V.str "read", .str "remove", .str "splice"]) nm
    refine ⟨m, _, rfl, .inr (sqT upd_same), rfl, by decide, _, rfl, ?_⟩
    have st1 := s1.seqT st
    generalize upd H m (.tup [V.str "read", .str "remove", .str "splice"]) = H1 at s1 st1 ⊢
    have dl1 := dl2.st s1.t
    rw [if_neg Bool.false_ne_true]
    cases a with
    | read x =>
      cases er
      refine ite2 (fun _ => ?_) (fun e => absurd (show inV (V.str "read") [V.str "read", .str "remove", .str "splice"] = true by decide +kernel) e)
      refine ⟨_, rfl, by show 2 ≤ sizeLine; decide, fun t0 n0 => ?_⟩
      have g0 := same_upd (o := HO.tup [.str "read", .str p]) n0
      have k0 : SqT K (upd H1 t0 (.tup [.str "read", .str p])) t0 [.str "read", .str p] := sqT upd_same
      generalize upd H1 t0 (.tup [.str "read", .str p]) = G0 at g0 k0 ⊢
      refine ⟨by show 1 ≤ sizeLine; decide, fun l nl => ?_⟩
      have gl := same_upd (o := HO.lst [.ref t0]) nl
      refine q _ l [.ref t0] (s1.trans (g0.trans gl)) (same_none (s1.trans g0) nl) upd_same ?_
      exact .cons ⟨t0, rfl, gl.seqT k0⟩ .nil
    | kind x =>
      cases er
      refine ite2 (fun e => absurd (show inV (V.str "kind") [V.str "read", .str "remove", .str "splice"] = true from e) (by decide +kernel)) (fun _ => ?_)
      refine ⟨_, rfl, rfl, _, rfl, ite2 (fun e => absurd (show decide (V.str "kind" = V.str "write") = true from e) (by decide +kernel)) (fun _ => ?_)⟩
      refine ⟨_, rfl, rfl, _, rfl, ite2 (fun e => absurd (show decide (V.str "kind" = V.str "move") = true from e) (by decide +kernel)) (fun _ => ?_)⟩
      refine ⟨_, rfl, rfl, _, rfl, ite2 (fun e => absurd (show decide (V.str "kind" = V.str "find") = true from e) (by decide +kernel)) (fun _ => ?_)⟩
      refine ⟨_, rfl, by show 2 ≤ sizeLine; decide, fun t0 n0 => ?_⟩
      have g0 := same_upd (o := HO.tup [.str "under", .str p]) n0
      have k0 : SqT K (upd H1 t0 (.tup [.str "under", .str p])) t0 [.str "under", .str p] := sqT upd_same
      generalize upd H1 t0 (.tup [.str "under", .str p]) = G0 at g0 k0 ⊢
      refine ⟨by show 1 ≤ sizeLine; decide, fun l nl => ?_⟩
      have gl := same_upd (o := HO.lst [.ref t0]) nl
      refine q _ l [.ref t0] (s1.trans (g0.trans gl)) (same_none (s1.trans g0) nl) upd_same ?_
      exact .cons ⟨t0, rfl, gl.seqT k0⟩ .nil
    | list x =>
      cases er
      refine ite2 (fun e => absurd (show inV (V.str "list") [V.str "read", .str "remove", .str "splice"] = true from e) (by decide +kernel)) (fun _ => ?_)
      refine ⟨_, rfl, rfl, _, rfl, ite2 (fun e => absurd (show decide (V.str "list" = V.str "write") = true from e) (by decide +kernel)) (fun _ => ?_)⟩
      refine ⟨_, rfl, rfl, _, rfl, ite2 (fun e => absurd (show decide (V.str "list" = V.str "move") = true from e) (by decide +kernel)) (fun _ => ?_)⟩
      refine ⟨_, rfl, rfl, _, rfl, ite2 (fun e => absurd (show decide (V.str "list" = V.str "find") = true from e) (by decide +kernel)) (fun _ => ?_)⟩
      refine ⟨_, rfl, by show 2 ≤ sizeLine; decide, fun t0 n0 => ?_⟩
      have g0 := same_upd (o := HO.tup [.str "under", .str p]) n0
      have k0 : SqT K (upd H1 t0 (.tup [.str "under", .str p])) t0 [.str "under", .str p] := sqT upd_same
      generalize upd H1 t0 (.tup [.str "under", .str p]) = G0 at g0 k0 ⊢
      refine ⟨by show 1 ≤ sizeLine; decide, fun l nl => ?_⟩
      have gl := same_upd (o := HO.lst [.ref t0]) nl
      refine q _ l [.ref t0] (s1.trans (g0.trans gl)) (same_none (s1.trans g0) nl) upd_same ?_
      exact .cons ⟨t0, rfl, gl.seqT k0⟩ .nil
    | find x y =>
      cases er
      refine ite2 (fun e => absurd (show inV (V.str "find") [V.str "read", .str "remove", .str "splice"] = true from e) (by decide +kernel)) (fun _ => ?_)
      refine ⟨_, rfl, rfl, _, rfl, ite2 (fun e => absurd (show decide (V.str "find" = V.str "write") = true from e) (by decide +kernel)) (fun _ => ?_)⟩
      refine ⟨_, rfl, rfl, _, rfl, ite2 (fun e => absurd (show decide (V.str "find" = V.str "move") = true from e) (by decide +kernel)) (fun _ => ?_)⟩
      refine ⟨_, rfl, rfl, _, rfl, ite2 (fun _ => ?_) (fun e => absurd (decide_eq_true rfl) e)⟩
      obtain ⟨y2, v3, rfl, dy, dr⟩ : ∃ y2 v3, v2 = y2 :: v3 ∧ Dt K H1 y2 (.str y) ∧ DtL K H1 v3 [] := by
        cases dl1 with
        | cons a b => exact ⟨_, _, rfl, a, b⟩
      obtain rfl := dy.strE
      refine ⟨_, rfl, by show 2 ≤ sizeLine; decide, fun t0 n0 => ?_⟩
      have g0 := same_upd (o := HO.tup [.str "under", .str p]) n0
      have k0 : SqT K (upd H1 t0 (.tup [.str "under", .str p])) t0 [.str "under", .str p] := sqT upd_same
      generalize upd H1 t0 (.tup [.str "under", .str p]) = G0 at g0 k0 ⊢
      refine ⟨_, rfl, _, rfl, t, _, 2, .str y, rfl, rfl, (g0.seqT st1), at_of (j := 2) rfl rfl, by show 3 ≤ sizeLine; decide, fun t1 n1 => ?_⟩
      have g1 := same_upd (o := HO.tup [.str "find", .str p, .str y]) n1
      have k1 : SqT K (upd G0 t1 (.tup [.str "find", .str p, .str y])) t1 [.str "find", .str p, .str y] := sqT upd_same
      generalize upd G0 t1 (.tup [.str "find", .str p, .str y]) = G1 at g1 k1 ⊢
      refine ⟨by show 2 ≤ sizeLine; decide, fun l nl => ?_⟩
      have gl := same_upd (o := HO.lst [.ref t0, .ref t1]) nl
      refine q _ l [.ref t0, .ref t1] (s1.trans (g0.trans (g1.trans gl))) (same_none (s1.trans (g0.trans g1)) nl) upd_same ?_
      exact .cons ⟨t0, rfl, (g1.trans gl).seqT k0⟩ (.cons ⟨t1, rfl, gl.seqT k1⟩ .nil)
    | count x =>
      cases er
      refine ite2 (fun e => absurd (show inV (V.str "count") [V.str "read", .str "remove", .str "splice"] = true from e) (by decide +kernel)) (fun _ => ?_)
      refine ⟨_, rfl, rfl, _, rfl, ite2 (fun e => absurd (show decide (V.str "count" = V.str "write") = true from e) (by decide +kernel)) (fun _ => ?_)⟩
      refine ⟨_, rfl, rfl, _, rfl, ite2 (fun e => absurd (show decide (V.str "count" = V.str "move") = true from e) (by decide +kernel)) (fun _ => ?_)⟩
      refine ⟨_, rfl, rfl, _, rfl, ite2 (fun e => absurd (show decide (V.str "count" = V.str "find") = true from e) (by decide +kernel)) (fun _ => ?_)⟩
      refine ⟨_, rfl, by show 2 ≤ sizeLine; decide, fun t0 n0 => ?_⟩
      have g0 := same_upd (o := HO.tup [.str "under", .str p]) n0
      have k0 : SqT K (upd H1 t0 (.tup [.str "under", .str p])) t0 [.str "under", .str p] := sqT upd_same
      generalize upd H1 t0 (.tup [.str "under", .str p]) = G0 at g0 k0 ⊢
      refine ⟨by show 1 ≤ sizeLine; decide, fun l nl => ?_⟩
      have gl := same_upd (o := HO.lst [.ref t0]) nl
      refine q _ l [.ref t0] (s1.trans (g0.trans gl)) (same_none (s1.trans g0) nl) upd_same ?_
      exact .cons ⟨t0, rfl, gl.seqT k0⟩ .nil
    | write x l =>
      cases er
      refine ite2 (fun e => absurd (show inV (V.str "write") [V.str "read", .str "remove", .str "splice"] = true from e) (by decide +kernel)) (fun _ => ?_)
      refine ⟨_, rfl, rfl, _, rfl, ite2 (fun _ => ?_) (fun e => absurd (decide_eq_true rfl) e)⟩
      refine ⟨_, rfl, by show 2 ≤ sizeLine; decide, fun t0 n0 => ?_⟩
      have g0 := same_upd (o := HO.tup [.str "under", .str p]) n0
      have k0 : SqT K (upd H1 t0 (.tup [.str "under", .str p])) t0 [.str "under", .str p] := sqT upd_same
      generalize upd H1 t0 (.tup [.str "under", .str p]) = G0 at g0 k0 ⊢
      refine ⟨_, rfl, by show 2 ≤ sizeLine; decide, fun t1 n1 => ?_⟩
      have g1 := same_upd (o := HO.tup [.str "above", .str p]) n1
      have k1 : SqT K (upd G0 t1 (.tup [.str "above", .str p])) t1 [.str "above", .str p] := sqT upd_same
      generalize upd G0 t1 (.tup [.str "above", .str p]) = G1 at g1 k1 ⊢
      refine ⟨by show 1 ≤ sizeLine; decide, fun t2 n2 => ?_⟩
      have g2 := same_upd (o := HO.tup [.str "total"]) n2
      have k2 : SqT K (upd G1 t2 (.tup [.str "total"])) t2 [.str "total"] := sqT upd_same
      generalize upd G1 t2 (.tup [.str "total"]) = G2 at g2 k2 ⊢
      refine ⟨by show 3 ≤ sizeLine; decide, fun l nl => ?_⟩
      have gl := same_upd (o := HO.lst [.ref t0, .ref t1, .ref t2]) nl
      refine q _ l [.ref t0, .ref t1, .ref t2] (s1.trans (g0.trans (g1.trans (g2.trans gl)))) (same_none (s1.trans (g0.trans (g1.trans g2))) nl) upd_same ?_
      exact .cons ⟨t0, rfl, (g1.trans (g2.trans gl)).seqT k0⟩ (.cons ⟨t1, rfl, (g2.trans gl).seqT k1⟩ (.cons ⟨t2, rfl, gl.seqT k2⟩ .nil))
    | remove x =>
      cases er
      refine ite2 (fun _ => ?_) (fun e => absurd (show inV (V.str "remove") [V.str "read", .str "remove", .str "splice"] = true by decide +kernel) e)
      refine ⟨_, rfl, by show 2 ≤ sizeLine; decide, fun t0 n0 => ?_⟩
      have g0 := same_upd (o := HO.tup [.str "read", .str p]) n0
      have k0 : SqT K (upd H1 t0 (.tup [.str "read", .str p])) t0 [.str "read", .str p] := sqT upd_same
      generalize upd H1 t0 (.tup [.str "read", .str p]) = G0 at g0 k0 ⊢
      refine ⟨by show 1 ≤ sizeLine; decide, fun l nl => ?_⟩
      have gl := same_upd (o := HO.lst [.ref t0]) nl
      refine q _ l [.ref t0] (s1.trans (g0.trans gl)) (same_none (s1.trans g0) nl) upd_same ?_
      exact .cons ⟨t0, rfl, gl.seqT k0⟩ .nil
    | move x y =>
      cases er
      refine ite2 (fun e => absurd (show inV (V.str "move") [V.str "read", .str "remove", .str "splice"] = true from e) (by decide +kernel)) (fun _ => ?_)
      refine ⟨_, rfl, rfl, _, rfl, ite2 (fun e => absurd (show decide (V.str "move" = V.str "write") = true from e) (by decide +kernel)) (fun _ => ?_)⟩
      refine ⟨_, rfl, rfl, _, rfl, ite2 (fun _ => ?_) (fun e => absurd (decide_eq_true rfl) e)⟩
      obtain ⟨y2, v3, rfl, dy, dr⟩ : ∃ y2 v3, v2 = y2 :: v3 ∧ Dt K H1 y2 (.str y) ∧ DtL K H1 v3 [] := by
        cases dl1 with
        | cons a b => exact ⟨_, _, rfl, a, b⟩
      obtain rfl := dy.strE
      refine ⟨_, rfl, by show 2 ≤ sizeLine; decide, fun t0 n0 => ?_⟩
      have g0 := same_upd (o := HO.tup [.str "read", .str p]) n0
      have k0 : SqT K (upd H1 t0 (.tup [.str "read", .str p])) t0 [.str "read", .str p] := sqT upd_same
      generalize upd H1 t0 (.tup [.str "read", .str p]) = G0 at g0 k0 ⊢
      refine ⟨_, rfl, t, _, 2, .str y, rfl, rfl, (g0.seqT st1), at_of (j := 2) rfl rfl, by show 2 ≤ sizeLine; decide, fun t1 n1 => ?_⟩
      have g1 := same_upd (o := HO.tup [.str "under", .str y]) n1
      have k1 : SqT K (upd G0 t1 (.tup [.str "under", .str y])) t1 [.str "under", .str y] := sqT upd_same
      generalize upd G0 t1 (.tup [.str "under", .str y]) = G1 at g1 k1 ⊢
      refine ⟨_, rfl, t, _, 2, .str y, rfl, rfl, (g0.trans (g1)).seqT st1, at_of (j := 2) rfl rfl, by show 2 ≤ sizeLine; decide, fun t2 n2 => ?_⟩
      have g2 := same_upd (o := HO.tup [.str "above", .str y]) n2
      have k2 : SqT K (upd G1 t2 (.tup [.str "above", .str y])) t2 [.str "above", .str y] := sqT upd_same
      generalize upd G1 t2 (.tup [.str "above", .str y]) = G2 at g2 k2 ⊢
      refine ⟨by show 3 ≤ sizeLine; decide, fun l nl => ?_⟩
      have gl := same_upd (o := HO.lst [.ref t0, .ref t1, .ref t2]) nl
      refine q _ l [.ref t0, .ref t1, .ref t2] (s1.trans (g0.trans (g1.trans (g2.trans gl)))) (same_none (s1.trans (g0.trans (g1.trans g2))) nl) upd_same ?_
      exact .cons ⟨t0, rfl, (g1.trans (g2.trans gl)).seqT k0⟩ (.cons ⟨t1, rfl, (g2.trans gl).seqT k1⟩ (.cons ⟨t2, rfl, gl.seqT k2⟩ .nil))
    | splice x o n =>
      cases er
      refine ite2 (fun _ => ?_) (fun e => absurd (show inV (V.str "splice") [V.str "read", .str "remove", .str "splice"] = true by decide +kernel) e)
      refine ⟨_, rfl, by show 2 ≤ sizeLine; decide, fun t0 n0 => ?_⟩
      have g0 := same_upd (o := HO.tup [.str "read", .str p]) n0
      have k0 : SqT K (upd H1 t0 (.tup [.str "read", .str p])) t0 [.str "read", .str p] := sqT upd_same
      generalize upd H1 t0 (.tup [.str "read", .str p]) = G0 at g0 k0 ⊢
      refine ⟨by show 1 ≤ sizeLine; decide, fun l nl => ?_⟩
      have gl := same_upd (o := HO.lst [.ref t0]) nl
      refine q _ l [.ref t0] (s1.trans (g0.trans gl)) (same_none (s1.trans g0) nl) upd_same ?_
      exact .cons ⟨t0, rfl, gl.seqT k0⟩ .nil
theorem ok_feet {f : Addr} {fd : FuncData} (F : Fun K "feet" "feet" s_feet f fd) (T : Tx mg) (H_feet_of : Cal P w K mg base 1 "feet_of" ["action"] (spFeetOf K)) : FnOk P w K mg base CX0 2 f fd ["journal"] (spFeet K) := by
  refine F.ok sc_feet (fun vs H Q E h => ?_) (fun cdv A outer s H vs Q E hr h => ?_)
  · obtain ⟨jv, js, rfl, _⟩ := h
    rfl
  · obtain ⟨jv, js, rfl, hj, hz, q⟩ := h
    refine ⟨_, pss_one (ps_ret (pe_callTy (callTup (K := K) rfl) (by rfl) T.tuple (by decide +kernel) (pa_cons (pe_callB (cr_sortTK (K := K) (w := w) rfl rfl rfl) (by rfl) T.sorted (by decide +kernel) (pa_cons
      (pe_sx2K (K := K) (w := w) rfl rfl (own := [("action", 1), ("_", 2), ("foot", 3)]) (vj := [3]) (room65 hr) rfl sc_feet.nd (piT (K := K) rfl (pv 0)) (blkOk_by (N := n_feet) (sc := defScope s_feet) (by decide +kernel)) (by decide)
        (fun _ _ _ _ _ => pgT (K := K) (n := 2) rfl rfl (pgs_cons (pg_name (i := 1) sc_feet.nd rfl (Or.inl rfl)) (pgs_cons (pg_name (i := 2) sc_feet.nd rfl (Or.inl rfl)) pgs_nil))) (fun _ _ _ _ _ => pts_nil)
        (fun _ _ _ _ _ => piL (K := K) rfl (pe_cal H_feet_of hr pass0 (pa_cons (pv 1) pa_nil))) (fun _ _ _ _ _ => pg_name (i := 3) sc_feet.nd rfl (Or.inl rfl)) (fun _ _ _ _ _ => pts_nil) (fun _ _ _ _ _ => pv 3)) pa_nil)) pa_nil))), ?_⟩
    obtain ⟨tj, us, rfl, qj, pj⟩ := id hj
    have lu : us.length = js.length := paired_len pj
    refine ⟨_, rfl, tj, rfl, ⟨us, qj⟩, fun D nD => ?_⟩
    refine sx2_rel (bs := fun e : Ent => (feetA e.1).map Foot.txt) (as := js) nD (same_walkT qj) lu hz (fun e _ => ?_) (fun i c e hc he H2 B s2 k => ?_) fun H2 ls s2 is mem => ?_
    · rw [List.length_map]
      exact feetA_len e.1
    · obtain ⟨e', he', t', x', u', rfl, ht', hd1, hd2⟩ := paired_get pj i c hc
      rw [he] at he'
      cases he'
      refine ⟨t', _, rfl, s2.seqT ht', rfl, _, _, rfl, _, _, rfl, rfl, by rfl, ?_⟩
      refine ⟨_, rfl, x', e.1, rfl, hd1.st s2.t, fun H3 l ys s3 nl hl pr => ?_⟩
      refine ⟨l, rfl, ⟨ys, sqL hl⟩, k _ _ _ s3 fun hD => ?_⟩
      have lD : l ≠ D := fun z => hD (by rw [← z]; exact nl)
      have ly : ys.length = ((feetA e.1).map Foot.txt).length := by rw [List.length_map]; exact paired_len pr
      refine ⟨?_, fun j b hb H5 x H6 t5 k5 y Rk Rn kk => ?_⟩
      · have := walk_kp (K := K) (D := D) (sqL hl) lD
        rw [ly] at this
        exact this.mono (fun _ h => h) fun _ _ _ _ _ _ _ => trivial
      · obtain ⟨rfl, yy⟩ := y
        have hx := yy ys (k5.seqL lD (sqL hl))
        obtain ⟨ft, hft, tx⟩ := paired_get pr j x hx
        rw [List.getElem?_map, hft] at hb
        cases hb
        refine ⟨by rfl, ?_⟩
        dsimp only [tYes]
        rw [if_pos rfl]
        exact ⟨_, rfl, kk _ _ (.refl _) (tx.st t5)⟩
    · obtain ⟨M, eM, pM, nd⟩ := is
      refine ⟨D, M, ls, rfl, eM, pM.mono fun _ _ q => q.1, fun l hl => ?_, fun p ys ms np pr pm pw => ?_⟩
      · obtain ⟨e, _, h⟩ := List.mem_flatMap.mp ((mem l).mp hl)
        obtain ⟨ft, _, rfl⟩ := List.mem_map.mp h
        exact foot_ne ft
      · refine ⟨p, ys, rfl, .inl ⟨sqL upd_same, fun r nr => ?_⟩⟩
        have sp := same_upd (o := HO.lst ys) np
        have sr := same_upd (o := HO.tup ys) nr
        exact q _ r ys ms (s2.trans (sp.trans sr)) (sqT upd_same) (pr.mono fun _ _ q => q.st sr.t) ⟨pw, pm.nodup_iff.mpr nd, fun l => by rw [pm.mem_iff]; exact mem l⟩
end
end KX

set_option maxRecDepth 100000
set_option maxHeartbeats 1000000
/-! Fb: the answer to a foot; where a tree stands. -/
namespace KX
open PySem PySem.Spec PyProof.Rows L2 TL Ga NdefX StX
def LawFt : Foot → Prop
  | .read p => LawQ (.read p)
  | .find p z => LawQ (.find p z)
  | .under p => okText 20 p
  | .above p => okText 20 p
  | .total => True
def footV (fs : List File) : Foot → PyData
  | .read p => askM fs (.read p)
  | .find p z => askM fs (.find p z)
  | .under p => dL (underF fs p)
  | .above p => dL (aboveF fs p)
  | .total => .int ((pathsIn fs "").length : Nat)
theorem dtl_strs {K : PySem.W.Frag} {H : Hp} : ∀ l : List Str, DtL K H (l.map V.str) (l.map PyData.str)
  | [] => .nil
  | x :: l => .cons (.str x) (dtl_strs l)
theorem tx_dt {K : PySem.W.Frag} {H : Hp} {v : V} {l : List Str} (h : TxAt K H v l) : Dt K H v (fT l) := by
  obtain ⟨t, rfl, q⟩ := h
  exact .tup q (dtl_strs l)
def spFootAns (K : PySem.W.Frag) (C : Addr) : Sp := fun vs H Q _ => ∃ (v : V) (f : Foot) (p : Addr) (fs : List File), vs = [v, .ref p] ∧ TxAt K H v f.txt ∧ LawFt f ∧ TreeAt K C H p fs ∧ FsOk fs ∧ ∀ H' u, Same H H' → Dt K H' u (footV fs f) → Q u H'
def spStand (K : PySem.W.Frag) (C : Addr) : Sp := fun vs H Q _ => ∃ (t p : Addr) (ys : List V) (ft : List Foot) (fs : List File), vs = [.ref t, .ref p] ∧ SqT K H t ys ∧ Paired (fun y (f : Foot) => TxAt K H y f.txt) ys ft ∧ ft.length ≤ 1000 ∧ (∀ f ∈ ft, LawFt f) ∧ TreeAt K C H p fs ∧ FsOk fs ∧
  ∀ H' r us, Same H H' → SqT K H' r us → Paired (fun u (f : Foot) => Dt K H' u (footV fs f)) us ft → Q (.ref r) H'
section
variable {P : Program} {w : World} {K : PySem.W.Frag} {mg : Str → Option Value} {base : Heap} {C Co : Addr}
theorem ok_footans {f : Addr} {fd : FuncData} (F : Fun K "foot_answer" "foot_answer" s_foot_answer f fd) (T : Tx mg) (M : TreeM P w K mg base C) (CU : Cal P w K mg base 4 "paths_under" ["tree", "place"] (spUnder K C)) (CA : Cal P w K mg base 4 "paths_above" ["tree", "path"] (spAbove K C))
    (H_act : CalX P w K mg base 10 "act" ["tree", "action"] (spAct K C Co fun _ => true)) : FnOk P w K mg base (L2.CX P w) 11 f fd ["foot", "tree"] (spFootAns K C) := by
  refine F.okX sc_foot_answer (fun vs H Q E h => ?_) (fun cdv A outer s H vs Q E hr h => ?_)
  · obtain ⟨v, ft, p, fs, rfl, _⟩ := h
    rfl
  · obtain ⟨v, ft, p, fs, rfl, tx, lf, tr, ok, q⟩ := h
    refine ⟨_, pss_cons (ps_if (pt_cmpR op_eq (pe_ix (ixT (K := K) rfl) (pv 0) pe_int (fun _ _ => rfl)) pe_str (nomark _)) (pss_one (ps_ret (pe_callB (kLen (K := K) rfl) (by rfl) T.len PySem.boot_len (pa_cons (pe_mcal M.tc.cl M.paths hr pass0 (pv 1) (pa_cons pe_str pa_nil)) pa_nil)))) pss_nil)
      (pss_cons (ps_if (pt_cmpR op_eq (pe_ix (ixT (K := K) rfl) (pv 0) pe_int (fun _ _ => rfl)) pe_str (nomark _)) (pss_one (ps_ret (pe_cal CU hr pass0 (pa_cons (pv 1) (pa_cons (pe_ix (ixT (K := K) rfl) (pv 0) pe_int (fun _ _ => rfl)) pa_nil))))) pss_nil)
      (pss_cons (ps_if (pt_cmpR op_eq (pe_ix (ixT (K := K) rfl) (pv 0) pe_int (fun _ _ => rfl)) pe_str (nomark _)) (pss_one (ps_ret (pe_cal CA hr pass0 (pa_cons (pv 1) (pa_cons (pe_ix (ixT (K := K) rfl) (pv 0) pe_int (fun _ _ => rfl)) pa_nil))))) pss_nil)
      (pss_cons (ps_asg (pe_calX H_act hr (passes_call (takes_of rfl rfl rfl rfl) fun _ _ _ _ h => h) (pa_cons (pv 1) (pa_cons (pv 0) pa_nil))) (pgT (K := K) (n := 2) rfl rfl (pgs_cons (pg_name (i := 2) sc_foot_answer.nd rfl (Or.inl rfl)) (pgs_cons (pg_name (i := 3) sc_foot_answer.nd rfl (Or.inl rfl)) pgs_nil))))
      (pss_one (ps_ret (pv 2)))))), ?_⟩
    obtain ⟨t, rfl, qt⟩ := id tx
    cases ft with
    | read x =>
      have qt : SqT K H t [.str "read", .str x] := qt
      refine ⟨_, rfl, t, _, 0, .str "read", rfl, rfl, qt, at_of (j := 0) rfl rfl, rfl, _, rfl, ite2 (fun e => absurd (show decide (V.str "read" = V.str "total") = true from e) (by decide +kernel)) (fun _ => ?_)⟩
      refine ⟨_, rfl, t, _, 0, .str "read", rfl, rfl, qt, at_of (j := 0) rfl rfl, rfl, _, rfl, ite2 (fun e => absurd (show decide (V.str "read" = V.str "under") = true from e) (by decide +kernel)) (fun _ => ?_)⟩
      refine ⟨_, rfl, t, _, 0, .str "read", rfl, rfl, qt, at_of (j := 0) rfl rfl, rfl, _, rfl, ite2 (fun e => absurd (show decide (V.str "read" = V.str "above") = true from e) (by decide +kernel)) (fun _ => ?_)⟩
      have lq : LawQ (.read x) := lf
      refine ⟨_, rfl, _, rfl, p, .ref t, fs, .read x, rfl, tr, ok.1, ok.2.1, ok.2.2, tx_dt tx, lq.small, rfl, fun _ H1 v s1 ar => ?_, fun n e => by rw [lq.ok] at e; cases e⟩
      obtain ⟨t2, u, p2, rfl, q2, du, _⟩ := ar
      refine ⟨t2, _, rfl, q2, rfl, _, _, rfl, _, _, rfl, rfl, ?_⟩
      refine ⟨_, rfl, q _ _ s1 ?_⟩
      have e : (actM fs (.read x)).1 = askM fs (.read x) := rfl
      rw [e] at du
      exact du
    | find x z =>
      have qt : SqT K H t [.str "find", .str x, .str z] := qt
      refine ⟨_, rfl, t, _, 0, .str "find", rfl, rfl, qt, at_of (j := 0) rfl rfl, rfl, _, rfl, ite2 (fun e => absurd (show decide (V.str "find" = V.str "total") = true from e) (by decide +kernel)) (fun _ => ?_)⟩
      refine ⟨_, rfl, t, _, 0, .str "find", rfl, rfl, qt, at_of (j := 0) rfl rfl, rfl, _, rfl, ite2 (fun e => absurd (show decide (V.str "find" = V.str "under") = true from e) (by decide +kernel)) (fun _ => ?_)⟩
      refine ⟨_, rfl, t, _, 0, .str "find", rfl, rfl, qt, at_of (j := 0) rfl rfl, rfl, _, rfl, ite2 (fun e => absurd (show decide (V.str "find" = V.str "above") = true from e) (by decide +kernel)) (fun _ => ?_)⟩
      have lq : LawQ (.find x z) := lf
      refine ⟨_, rfl, _, rfl, p, .ref t, fs, .find x z, rfl, tr, ok.1, ok.2.1, ok.2.2, tx_dt tx, lq.small, rfl, fun _ H1 v s1 ar => ?_, fun n e => by rw [lq.ok] at e; cases e⟩
      obtain ⟨t2, u, p2, rfl, q2, du, _⟩ := ar
      refine ⟨t2, _, rfl, q2, rfl, _, _, rfl, _, _, rfl, rfl, ?_⟩
      refine ⟨_, rfl, q _ _ s1 ?_⟩
      have e : (actM fs (.find x z)).1 = askM fs (.find x z) := rfl
      rw [e] at du
      exact du
    | under x =>
      have qt : SqT K H t [.str "under", .str x] := qt
      refine ⟨_, rfl, t, _, 0, .str "under", rfl, rfl, qt, at_of (j := 0) rfl rfl, rfl, _, rfl, ite2 (fun e => absurd (show decide (V.str "under" = V.str "total") = true from e) (by decide +kernel)) (fun _ => ?_)⟩
      refine ⟨_, rfl, t, _, 0, .str "under", rfl, rfl, qt, at_of (j := 0) rfl rfl, rfl, _, rfl, ite2 (fun _ => ?_) (fun e => absurd (decide_eq_true rfl) e)⟩
      refine ⟨_, rfl, _, rfl, t, _, 1, .str x, rfl, rfl, qt, at_of (j := 1) rfl rfl, ?_⟩
      exact ⟨p, x, fs, rfl, tr, ok.1, Nat.le_trans (show okText 20 x from lf).1 (by decide), fun H' v s lv => q H' v s (dt_lines.mpr lv)⟩
    | above x =>
      have qt : SqT K H t [.str "above", .str x] := qt
      refine ⟨_, rfl, t, _, 0, .str "above", rfl, rfl, qt, at_of (j := 0) rfl rfl, rfl, _, rfl, ite2 (fun e => absurd (show decide (V.str "above" = V.str "total") = true from e) (by decide +kernel)) (fun _ => ?_)⟩
      refine ⟨_, rfl, t, _, 0, .str "above", rfl, rfl, qt, at_of (j := 0) rfl rfl, rfl, _, rfl, ite2 (fun e => absurd (show decide (V.str "above" = V.str "under") = true from e) (by decide +kernel)) (fun _ => ?_)⟩
      refine ⟨_, rfl, t, _, 0, .str "above", rfl, rfl, qt, at_of (j := 0) rfl rfl, rfl, _, rfl, ite2 (fun _ => ?_) (fun e => absurd (decide_eq_true rfl) e)⟩
      refine ⟨_, rfl, _, rfl, t, _, 1, .str x, rfl, rfl, qt, at_of (j := 1) rfl rfl, ?_⟩
      exact ⟨p, x, fs, rfl, tr, ok.1, Nat.le_trans (show okText 20 x from lf).1 (by decide), fun H' v s lv => q H' v s (dt_lines.mpr lv)⟩
    | total =>
      have qt : SqT K H t [.str "total"] := qt
      refine ⟨_, rfl, t, _, 0, .str "total", rfl, rfl, qt, at_of (j := 0) rfl rfl, rfl, _, rfl, ite2 (fun _ => ?_) (fun e => absurd (decide_eq_true rfl) e)⟩
      refine tm_paths0 tr ok.1 rfl fun H1 a s1 q1 => ?_
      refine ⟨a, _, rfl, .inr q1, ?_⟩
      rw [List.length_map]
      exact q _ _ s1 (.int _)
theorem ok_stand {f : Addr} {fd : FuncData} (F : Fun K "stand" "stand" s_stand f fd) (T : Tx mg) (H_foot_answer : CalX P w K mg base 11 "foot_answer" ["foot", "tree"] (spFootAns K C)) : FnOk P w K mg base (L2.CX P w) 12 f fd ["feet", "tree"] (spStand K C) := by
  refine F.okX sc_stand (fun vs H Q E h => ?_) (fun cdv A outer s H vs Q E hr h => ?_)
  · obtain ⟨t, p, ys, ft, fs, rfl, _⟩ := h
    rfl
  · obtain ⟨t, p, ys, ft, fs, rfl, qt, pr, hz, lf, tr, ok, q⟩ := h
    refine ⟨_, pss_one (ps_ret (pe_callTy (callTup (K := K) rfl) (by rfl) T.tuple (by decide +kernel) (pa_cons (pe_lc (own := [("foot", 2)]) rfl sc_stand.nd (piT (K := K) rfl (pv 0)) (blkOk_by (N := n_stand) (sc := defScope s_stand) (by decide +kernel)) (fun _ _ _ _ _ => pg_name (i := 2) sc_stand.nd rfl (Or.inl rfl)) (fun _ _ _ _ _ => pts_nil) (fun _ _ _ _ _ => (pe_calX H_foot_answer hr (E := fun _ _ _ => False) passF (pa_cons (pv 2) (pa_cons (pv 1) pa_nil))))) pa_nil))), ?_⟩
    refine ⟨_, rfl, t, rfl, ⟨ys, qt⟩, fun D nD => ?_⟩
    refine lc_rel (R := fun H (f : Foot) y => Dt K H y (footV fs f)) (as := ft) (p := fun _ => true) nD (same_walkT qt) (paired_len pr) (by rw [paired_len pr]; omega) (fun st h => h.st st) (fun i c x hc hx H2 Rk Rn s2 kk _ => ?_) fun H2 us s2 e2 pr2 => ?_
    · obtain ⟨x', hx', tx⟩ := paired_get pr i c hc
      rw [hx] at hx'
      cases hx'
      refine ⟨by rfl, ?_⟩
      dsimp only [tYes]
      rw [if_pos rfl]
      exact ⟨_, rfl, _, rfl, c, x, p, fs, rfl, tx.st s2.t, lf x (List.mem_of_getElem? hx), tr.same s2, ok, fun H3 u s3 du => kk _ _ rfl s3 du⟩
    · rw [filterY] at pr2
      refine ⟨D, us, rfl, .inl ⟨sqL e2, fun r nr => ?_⟩⟩
      have sr := same_upd (o := HO.tup us) nr
      exact q _ r us (s2.trans sr) (sqT upd_same) (paired_swap (pr2.mono fun _ _ q => q.st sr.t))
end
end KX

set_option maxRecDepth 100000
set_option maxHeartbeats 1000000
/-! Oa: rows of agents and checks. -/
namespace KX
open PySem PySem.Spec PyProof.Rows L2 TL Ga NdefX StX
abbrev Cse := PyData × Nat
inductive Rw
  | fin (z : Str)
  | step (w : Str) (a : Act) (cs : List Cse) (o : Nat)
def dCs (c : Cse) : PyData := .tuple [c.1, .int (c.2 : Nat)]
def dRw : Rw → PyData
  | .fin z => .tuple [.str z]
  | .step w a cs o => .tuple [.str w, dA a, .tuple (cs.map dCs), .int (o : Nat)]
def dAg (rows : List Rw) : PyData := .tuple (rows.map dRw)
def CseAt (K : PySem.W.Frag) (H : Hp) (v : V) (c : Cse) : Prop := ∃ t y, v = .ref t ∧ SqT K H t [y, .int (c.2 : Nat)] ∧ Dt K H y c.1
def StepAt (K : PySem.W.Frag) (H : Hp) (t : Addr) (w : Str) (a : Act) (cs : List Cse) (o : Nat) : Prop := ∃ x c us, SqT K H t [.str w, x, .ref c, .int (o : Nat)] ∧ Dt K H x (dA a) ∧ SqT K H c us ∧ Paired (CseAt K H) us cs
def RwAt (K : PySem.W.Frag) (H : Hp) (v : V) : Rw → Prop
  | .fin z => ∃ t, v = .ref t ∧ SqT K H t [.str z]
  | .step w a cs o => ∃ t, v = .ref t ∧ StepAt K H t w a cs o
def AgtAt (K : PySem.W.Frag) (H : Hp) (v : V) (rows : List Rw) : Prop := ∃ t us, v = .ref t ∧ SqT K H t us ∧ Paired (RwAt K H) us rows
section
variable {K : PySem.W.Frag} {H H' : Hp} {v : V}
theorem CseAt.st {c : Cse} (h : CseAt K H v c) (s : SameT H H') : CseAt K H' v c := by
  obtain ⟨t, y, rfl, h1, h2⟩ := h
  exact ⟨t, y, rfl, s.sq h1, h2.st s⟩
theorem StepAt.st {t : Addr} {w : Str} {a : Act} {cs : List Cse} {o : Nat} (h : StepAt K H t w a cs o) (s : SameT H H') : StepAt K H' t w a cs o := by
  obtain ⟨x, c, us, h1, h2, h3, h4⟩ := h
  exact ⟨x, c, us, s.sq h1, h2.st s, s.sq h3, h4.mono fun _ _ q => q.st s⟩
theorem RwAt.st {r : Rw} (h : RwAt K H v r) (s : SameT H H') : RwAt K H' v r := by
  cases r with
  | fin z =>
    obtain ⟨t, rfl, h1⟩ := h
    exact ⟨t, rfl, s.sq h1⟩
  | step w a cs o =>
    obtain ⟨t, rfl, h1⟩ := h
    exact ⟨t, rfl, h1.st s⟩
theorem AgtAt.st {rows : List Rw} (h : AgtAt K H v rows) (s : SameT H H') : AgtAt K H' v rows := by
  obtain ⟨t, us, rfl, h1, h2⟩ := h
  exact ⟨t, us, rfl, s.sq h1, h2.mono fun _ _ q => q.st s⟩
theorem CseAt.dp {c : Cse} (h : CseAt K H v c) : Dp K H v (dCs c) := by
  obtain ⟨t, y, rfl, h1, h2⟩ := h
  exact .tup h1 (.cons h2.dp (.cons (.int _) .nil))
theorem dpAll_of {α : Type} {F : V → α → Prop} {g : α → PyData} (k : ∀ v a, F v a → Dp K H v (g a)) : ∀ {us : List V} {as : List α}, Paired F us as → DpAll K H us (as.map g)
  | _, _, .nil => .nil
  | _, _, .cons a t => .cons (k _ _ a) (dpAll_of k t)
theorem RwAt.dp {r : Rw} (h : RwAt K H v r) : Dp K H v (dRw r) := by
  cases r with
  | fin z =>
    obtain ⟨t, rfl, h1⟩ := h
    exact .tup h1 (.cons (.str _) .nil)
  | step w a cs o =>
    obtain ⟨t, rfl, x, c, us, h1, h2, h3, h4⟩ := h
    exact .tup h1 (.cons (.str _) (.cons h2.dp (.cons (.tup h3 (dpAll_of (fun _ _ q => q.dp) h4)) (.cons (.int _) .nil))))
theorem AgtAt.dp {rows : List Rw} (h : AgtAt K H v rows) : Dp K H v (dAg rows) := by
  obtain ⟨t, us, rfl, h1, h2⟩ := h
  exact .tup h1 (dpAll_of (fun _ _ q => q.dp) h2)
end
/-- where a step goes on -/
def nextOf : List Cse → Nat → PyData → Nat
  | [], o, _ => o
  | c :: r, o, d => if PyData.eqv c.1 d = true then c.2 else nextOf r o d
theorem next_mem : ∀ (cs : List Cse) (o : Nat) (d : PyData), nextOf cs o d = o ∨ ∃ c ∈ cs, nextOf cs o d = c.2
  | [], o, d => .inl rfl
  | c :: r, o, d => by
    unfold nextOf
    by_cases h : PyData.eqv c.1 d = true
    · rw [if_pos h]
      exact .inr ⟨c, List.mem_cons_self, rfl⟩
    · rw [if_neg h]
      rcases next_mem r o d with e | ⟨c2, hc, e⟩
      · exact .inl e
      · exact .inr ⟨c2, List.mem_cons_of_mem _ hc, e⟩
abbrev GSt := Nat × List Ent × List File
def goS (f : List File → Act → PyData × List File) (rows : List Rw) (s : GSt) : GSt :=
  match rows[s.1]? with
  | some (Rw.step _ a cs o) => (nextOf cs o (f s.2.2 a).1, s.2.1 ++ [(a, (f s.2.2 a).1)], (f s.2.2 a).2)
  | _ => s
/-- so many turns of an agent, done by f -/
def goM (f : List File → Act → PyData × List File) (rows : List Rw) (s : GSt) : Nat → GSt
  | 0 => s
  | n + 1 => goS f rows (goM f rows s n)
section
variable {f : List File → Act → PyData × List File} {rows : List Rw} {s : GSt}
theorem goS_step {w : Str} {a : Act} {cs : List Cse} {o : Nat} (h : rows[s.1]? = some (Rw.step w a cs o)) : goS f rows s = (nextOf cs o (f s.2.2 a).1, s.2.1 ++ [(a, (f s.2.2 a).1)], (f s.2.2 a).2) := by
  unfold goS
  rw [h]
theorem goS_fin {z : Str} (h : rows[s.1]? = some (Rw.fin z)) : goS f rows s = s := by
  unfold goS
  rw [h]
end
/-- a row of an agent of these many rows -/
structure StepOk (w : Str) (n k : Nat) (w' : Str) (a : Act) (cs : List Cse) (o : Nat) : Prop where
  word : w' = w
  law : LawQ a ∨ LawD a
  oth : k < o ∧ o < n
  few : cs.length ≤ 6
  cas : ∀ c ∈ cs, (k < c.2 ∧ c.2 < n) ∧ Pl 9000 4 c.1
structure AgOk (w : Str) (rows : List Rw) : Prop where
  pos : 0 < rows.length
  few : rows.length ≤ 25
  step : ∀ (k : Nat) w' a cs o, rows[k]? = some (Rw.step w' a cs o) → StepOk w rows.length k w' a cs o
  fin : ∀ (k : Nat) z, rows[k]? = some (Rw.fin z) → z ≠ w ∧ okText 20 z
theorem StepOk.next {w w' : Str} {n k o : Nat} {a : Act} {cs : List Cse} (h : StepOk w n k w' a cs o) (d : PyData) : k < nextOf cs o d ∧ nextOf cs o d < n := by
  rcases next_mem cs o d with e | ⟨c, hc, e⟩
  · rw [e]; exact h.oth
  · rw [e]; exact (h.cas c hc).1
theorem pl_rw {w : Str} {rows : List Rw} (ok : AgOk w rows) (hw : okText 20 w) {k : Nat} {r : Rw} (h : rows[k]? = some r) : Pl 310000 7 (dRw r) := by
  cases r with
  | fin z => exact (pl_w (ok.fin k z h).2).mono (by decide) (by decide)
  | step w' a cs o =>
    have s := ok.step k w' a cs o h
    have h25 := ok.few
    have hcs := s.few
    have c1 := (PlL.all (n := 50100) (k := 5) (ds := cs.map dCs) fun d hd => by
      obtain ⟨c, hc, rfl⟩ := List.mem_map.mp hd
      have q := s.cas c hc
      exact (PlL.cons q.2 (PlL.cons (pl_nat (by omega)) (PlL.nil (n := 0)))).tup.mono (by decide) (by decide)).tup.mono (n' := 300606) (k' := 6) (by rw [List.length_map]; omega) (by decide)
    have hw' : okText 20 w' := by rw [s.word]; exact hw
    exact (PlL.cons (n := 20) (k := 6) ((pl_str hw').mono (by decide) (by decide)) (PlL.cons ((pl_dA s.law).mono (n' := 1000) (by decide) (by decide)) (PlL.cons c1 (PlL.cons (n := 13) (pl_nat (by have := s.oth; omega)) (PlL.nil (n := 0)))))).tup.mono (by decide) (by decide)
section
variable {f : List File → Act → PyData × List File} {w : Str} {rows : List Rw} {fs : List File}
theorem rw_at (h : k < rows.length) : ∃ r, rows[k]? = some r := ⟨_, List.getElem?_eq_getElem h⟩
theorem go_lt (ok : AgOk w rows) : ∀ j, (goM f rows (0, [], fs) j).1 < rows.length
  | 0 => ok.pos
  | j + 1 => by
    have ih := go_lt ok j
    obtain ⟨r, hr⟩ := rw_at ih
    show (goS f rows (goM f rows (0, [], fs) j)).1 < _
    cases r with
    | fin z => rw [goS_fin hr]; exact ih
    | step w' a cs o =>
      rw [goS_step hr]
      exact ((ok.step _ _ _ _ _ hr).next _).2
/-- where it stands, and that it is a step -/
def isStep (rows : List Rw) (k : Nat) : Prop := ∃ w' a cs o, rows[k]? = some (Rw.step w' a cs o)
theorem go_up (ok : AgOk w rows) : ∀ n, (∀ j, j < n → isStep rows (goM f rows (0, [], fs) j).1) → n ≤ (goM f rows (0, [], fs) n).1
  | 0, _ => Nat.zero_le _
  | n + 1, h => by
    have ih := go_up ok n fun j hj => h j (Nat.lt_succ_of_lt hj)
    obtain ⟨w', a, cs, o, hr⟩ := h n (Nat.lt_succ_self n)
    show n + 1 ≤ (goS f rows (goM f rows (0, [], fs) n)).1
    rw [goS_step hr]
    have := ((ok.step _ _ _ _ _ hr).next (f (goM f rows (0, [], fs) n).2.2 a).1).1
    show n + 1 ≤ nextOf _ _ _
    omega
/-- it ends after M turns -/
structure Halts (f : List File → Act → PyData × List File) (rows : List Rw) (fs : List File) (M : Nat) : Prop where
  few : M < rows.length
  go : ∀ j, j < M → isStep rows (goM f rows (0, [], fs) j).1
  fin : ∃ z, rows[(goM f rows (0, [], fs) M).1]? = some (Rw.fin z)
theorem go_halts (ok : AgOk w rows) : ∃ M, Halts f rows fs M := by
  have key : ∀ n, (∀ j, j < n → isStep rows (goM f rows (0, [], fs) j).1) ∨ ∃ M, M < n ∧ (∀ j, j < M → isStep rows (goM f rows (0, [], fs) j).1) ∧ ∃ z, rows[(goM f rows (0, [], fs) M).1]? = some (Rw.fin z) := by
    intro n
    induction n with
    | zero => exact .inl fun j h => absurd h (Nat.not_lt_zero j)
    | succ n ih =>
      rcases ih with ih | ⟨M, h1, h2⟩
      · obtain ⟨r, hr⟩ := rw_at (go_lt (f := f) (fs := fs) ok n)
        cases r with
        | fin z => exact .inr ⟨n, Nat.lt_succ_self n, ih, z, hr⟩
        | step w' a cs o =>
          refine .inl fun j hj => ?_
          rcases Nat.lt_or_ge j n with h | h
          · exact ih j h
          · rw [show j = n by omega]
            exact ⟨w', a, cs, o, hr⟩
      · exact .inr ⟨M, by omega, h2⟩
  rcases key rows.length with h | ⟨M, h1, h2, h3⟩
  · have a := go_up ok rows.length h
    have b := go_lt (f := f) (fs := fs) ok rows.length
    omega
  · exact ⟨M, h1, h2, h3⟩
theorem go_stable {M : Nat} (h : Halts f rows fs M) : ∀ n, goM f rows (0, [], fs) (M + n) = goM f rows (0, [], fs) M
  | 0 => rfl
  | n + 1 => by
    obtain ⟨z, hz⟩ := h.fin
    show goS f rows (goM f rows (0, [], fs) (M + n)) = _
    rw [go_stable h n, goS_fin hz]
theorem go_stay {M n : Nat} (h : Halts f rows fs M) (hn : M ≤ n) : goM f rows (0, [], fs) n = goM f rows (0, [], fs) M := by
  have := go_stable h (n - M)
  rwa [show M + (n - M) = n by omega] at this
theorem go_len {M : Nat} (h : Halts f rows fs M) : ∀ j, j ≤ M → (goM f rows (0, [], fs) j).2.1.length = j
  | 0, _ => rfl
  | j + 1, hj => by
    have ih := go_len h j (by omega)
    obtain ⟨w', a, cs, o, hr⟩ := h.go j (by omega)
    show (goS f rows (goM f rows (0, [], fs) j)).2.1.length = _
    rw [goS_step hr]
    show ((goM f rows (0, [], fs) j).2.1 ++ [_]).length = _
    rw [List.length_append, ih]
    rfl
theorem go_jlen : ∀ j, (goM f rows (0, [], fs) j).2.1.length ≤ j
  | 0 => Nat.le_refl _
  | j + 1 => by
    have ih := go_jlen j
    show (goS f rows (goM f rows (0, [], fs) j)).2.1.length ≤ _
    unfold goS
    split
    · rw [List.length_append, List.length_singleton]; omega
    · omega
theorem go_take {M : Nat} (h : Halts f rows fs M) : ∀ j i, i ≤ j → j ≤ M → (goM f rows (0, [], fs) j).2.1.take i = (goM f rows (0, [], fs) i).2.1
  | 0, i, h1, h2 => by rw [show i = 0 by omega]; rfl
  | j + 1, i, h1, h2 => by
    rcases Nat.lt_or_ge i (j + 1) with hi | hi
    · have ih := go_take h j i (by omega) (by omega)
      obtain ⟨w', a, cs, o, hr⟩ := h.go j (by omega)
      show (goS f rows (goM f rows (0, [], fs) j)).2.1.take i = _
      rw [goS_step hr]
      show ((goM f rows (0, [], fs) j).2.1 ++ [_]).take i = _
      rw [List.take_append_of_le_length (by rw [go_len h j (by omega)]; omega), ih]
    · rw [show i = j + 1 by omega]
      exact List.take_of_length_le (by rw [go_len h (j + 1) h2]; exact Nat.le_refl _)
end
/-- the program's agent and the law's, side by side -/
theorem go_sim {w : Str} {rows : List Rw} {fs gs : List File} (ok : AgOk w rows) (lf : LawF fs) (nd : (fs.map (·.1)).Nodup) (p : gs.Perm fs) :
    ∀ j, (goM actM rows (0, [], gs) j).1 = (goM lawAct rows (0, [], fs) j).1 ∧ SimS (goM actM rows (0, [], gs) j).2 (goM lawAct rows (0, [], fs) j).2
  | 0 => ⟨rfl, rfl, p, lf, nd, fun _ h => nomatch h⟩
  | j + 1 => by
    obtain ⟨e, s⟩ := go_sim ok lf nd p j
    obtain ⟨r, hr⟩ := rw_at (go_lt (f := lawAct) (fs := fs) ok j)
    show (goS actM rows (goM actM rows (0, [], gs) j)).1 = (goS lawAct rows (goM lawAct rows (0, [], fs) j)).1 ∧ SimS (goS actM rows (goM actM rows (0, [], gs) j)).2 (goS lawAct rows (goM lawAct rows (0, [], fs) j)).2
    cases r with
    | fin z =>
      rw [goS_fin hr, goS_fin (by rw [e]; exact hr)]
      exact ⟨e, s⟩
    | step w' a cs o =>
      have l := (ok.step _ _ _ _ _ hr).law
      rw [goS_step hr, goS_step (s := goM actM rows (0, [], gs) j) (by rw [e]; exact hr)]
      refine ⟨?_, s.step l⟩
      show nextOf _ _ _ = nextOf _ _ _
      rw [(act_is s.law s.nd s.left l).ans]
theorem halts_uniq {f : List File → Act → PyData × List File} {rows : List Rw} {fs : List File} {M N : Nat} (h : Halts f rows fs M) (g : Halts f rows fs N) : M = N := by
  have key : ∀ {M N : Nat}, Halts f rows fs M → Halts f rows fs N → ¬ M < N := fun {M N} h g lt => by
    obtain ⟨w, a, cs, o, e⟩ := g.go M lt
    obtain ⟨z, e2⟩ := h.fin
    rw [e] at e2
    cases e2
  have := key h g
  have := key g h
  omega
theorem halts_sim {w : Str} {rows : List Rw} {fs gs : List File} {M : Nat} (ok : AgOk w rows) (lf : LawF fs) (nd : (fs.map (·.1)).Nodup) (p : gs.Perm fs) (h : Halts actM rows gs M) : Halts lawAct rows fs M := by
  refine ⟨h.few, fun j hj => ?_, ?_⟩
  · rw [← (go_sim ok lf nd p j).1]
    exact h.go j hj
  · rw [← (go_sim ok lf nd p M).1]
    exact h.fin
/-- the entry at an index of its journal -/
theorem go_entry {f : List File → Act → PyData × List File} {rows : List Rw} {fs : List File} {M j : Nat} (h : Halts f rows fs M) (hj : j < M) {w : Str} {a : Act} {cs : List Cse} {o : Nat} (hr : rows[(goM f rows (0, [], fs) j).1]? = some (Rw.step w a cs o)) :
    (goM f rows (0, [], fs) M).2.1[j]? = some (a, (f (goM f rows (0, [], fs) j).2.2 a).1) ∧ (goM f rows (0, [], fs) (j + 1)).1 = nextOf cs o (f (goM f rows (0, [], fs) j).2.2 a).1 := by
  have e1 : goM f rows (0, [], fs) (j + 1) = goS f rows (goM f rows (0, [], fs) j) := rfl
  have t := go_take h M (j + 1) hj (Nat.le_refl _)
  have l := go_len h j (by omega)
  rw [e1, goS_step hr] at t
  rw [e1, goS_step hr]
  refine ⟨?_, rfl⟩
  have : ((goM f rows (0, [], fs) M).2.1.take (j + 1))[j]? = some (a, (f (goM f rows (0, [], fs) j).2.2 a).1) := by
    rw [t]
    show ((goM f rows (0, [], fs) j).2.1 ++ [_])[j]? = _
    rw [List.getElem?_append_right (by omega), l, Nat.sub_self]
    rfl
  rwa [List.getElem?_take_of_lt (Nat.lt_succ_self j)] at this
/-- where the agent stands after this journal, from the row at -/
def afterM (rows : List Rw) : Nat → List Ent → Option Nat
  | at_, [] => some at_
  | at_, e :: r => match rows[at_]? with
    | some (Rw.step _ b cs o) => if PyData.eqv (dA b) (dA e.1) = true then afterM rows (nextOf cs o e.2) r else none
    | _ => none
theorem after_step {rows : List Rw} {k : Nat} {e : Ent} {r : List Ent} {w : Str} {b : Act} {cs : List Cse} {o : Nat} (h : rows[k]? = some (Rw.step w b cs o)) : afterM rows k (e :: r) = if PyData.eqv (dA b) (dA e.1) = true then afterM rows (nextOf cs o e.2) r else none := by
  rw [afterM, h]
theorem after_fin {rows : List Rw} {k : Nat} {e : Ent} {r : List Ent} {z : Str} (h : rows[k]? = some (Rw.fin z)) : afterM rows k (e :: r) = none := by
  rw [afterM, h]
theorem after_snoc {rows : List Rw} {e : Ent} : ∀ {l : List Ent} {k j : Nat}, afterM rows k l = some j → afterM rows k (l ++ [e]) = afterM rows j [e]
  | [], k, j, h => by cases h; rfl
  | f :: l, k, j, h => by
    show afterM rows k (f :: (l ++ [e])) = _
    cases hr : rows[k]? with
    | none => rw [afterM, hr] at h; cases h
    | some r =>
      cases r with
      | fin z => rw [after_fin hr] at h; cases h
      | step w b cs o =>
        rw [after_step hr] at h ⊢
        by_cases c : PyData.eqv (dA b) (dA f.1) = true
        · rw [if_pos c] at h ⊢
          exact after_snoc h
        · rw [if_neg c] at h
          cases h
/-- the beginnings of a journal that is its own -/
theorem after_own {f : List File → Act → PyData × List File} {w : Str} {rows : List Rw} {fs : List File} {M : Nat} (ok : AgOk w rows) (h : Halts f rows fs M) : ∀ j, j ≤ M → afterM rows 0 (goM f rows (0, [], fs) j).2.1 = some (goM f rows (0, [], fs) j).1
  | 0, _ => rfl
  | j + 1, hj => by
    have ih := after_own ok h j (by omega)
    obtain ⟨w', a, cs, o, hr⟩ := h.go j (by omega)
    show afterM rows 0 (goS f rows (goM f rows (0, [], fs) j)).2.1 = some (goS f rows (goM f rows (0, [], fs) j)).1
    rw [goS_step hr]
    show afterM rows 0 ((goM f rows (0, [], fs) j).2.1 ++ [_]) = _
    rw [after_snoc ih, after_step hr, if_pos (SeqAt.eqv_refl _ (pl_dA (ok.step _ _ _ _ _ hr).law).can)]
    rfl
end KX

set_option maxRecDepth 100000
set_option maxHeartbeats 1000000
/-! Ob: sameanswers.agents: going through rows. -/
namespace KX
open PySem PySem.Spec PyProof.Rows L2 TL Ga NdefX StX
/-- row_behind(row, answer), _law_step(row, answer) -/
def spBehind (K : PySem.W.Frag) : Sp := fun vs H Q _ => ∃ (t : Addr) (u : V) (w : Str) (a : Act) (cs : List Cse) (o : Nat) (d : PyData), vs = [.ref t, u] ∧ StepAt K H t w a cs o ∧ Dp K H u d ∧ SeqAt.shaped d = true ∧ (∀ c ∈ cs, SeqAt.shaped c.1 = true) ∧ ∀ H', Same H H' → Q (.int (nextOf cs o d : Nat)) H'
theorem next_drop {cs : List Cse} {o : Nat} {d : PyData} {j : Nat} {c : Cse} (h : cs[j]? = some c) : nextOf (cs.drop j) o d = if PyData.eqv c.1 d = true then c.2 else nextOf (cs.drop (j + 1)) o d := by
  obtain ⟨h1, h2⟩ := List.getElem?_eq_some_iff.mp h
  rw [List.drop_eq_getElem_cons h1, h2]
  rfl
/-- what a journal of the agent asks of a tree -/
def GoFs (rows : List Rw) (fs : List File) : Prop := ∀ j w a cs o, rows[(goM actM rows (0, [], fs) j).1]? = some (Rw.step w a cs o) → FsOk (goM actM rows (0, [], fs) j).2.2 ∧ SeqAt.shaped (actM (goM actM rows (0, [], fs) j).2.2 a).1 = true
theorem go_fs {w : Str} {rows : List Rw} {fs gs : List File} (ok : AgOk w rows) (lf : LawF fs) (nd : (fs.map (·.1)).Nodup) (p : gs.Perm fs) : GoFs rows gs := fun j w' a cs o hr => by
  obtain ⟨e, s⟩ := go_sim ok lf nd p j
  have l := (ok.step _ _ _ _ _ hr).law
  refine ⟨s.fsok, ?_⟩
  rw [(act_is s.law s.nd s.left l).ans]
  exact (pl_ans s.law s.nd l).shaped (by decide)
/-- go_through(rows, word, tree) -/
def spGo (K : PySem.W.Frag) (C : Addr) : Sp := fun vs H Q _ => ∃ (ra : V) (w : Str) (p : Addr) (fs : List File) (rows : List Rw), vs = [ra, .str w, .ref p] ∧ TreeAt K C H p fs ∧ AgtAt K H ra rows ∧ AgOk w rows ∧ GoFs rows fs ∧
  ∀ M, Halts actM rows fs M → ∀ r e jv p' H', Same H H' → SqT K H' r [e, jv, .ref p'] → (∃ z, rows[(goM actM rows (0, [], fs) M).1]? = some (Rw.fin z) ∧ RwAt K H' e (.fin z)) → JrnAt K H' jv (goM actM rows (0, [], fs) M).2.1 → TreeAt K C H' p' (goM actM rows (0, [], fs) M).2.2 → Q (.ref r) H'
/-- live(agent, tree) -/
def spLive (K : PySem.W.Frag) (C : Addr) : Sp := fun vs H Q _ => ∃ (ra : V) (p : Addr) (fs : List File) (rows : List Rw), vs = [ra, .ref p] ∧ TreeAt K C H p fs ∧ AgtAt K H ra rows ∧ AgOk "act" rows ∧ GoFs rows fs ∧
  ∀ M, Halts actM rows fs M → ∀ r jv p' H', Same H H' → SqT K H' r [jv, .ref p'] → JrnAt K H' jv (goM actM rows (0, [], fs) M).2.1 → TreeAt K C H' p' (goM actM rows (0, [], fs) M).2.2 → Q (.ref r) H'
section
variable {P : Program} {w : World} {K : PySem.W.Frag} {mg : Str → Option Value} {base : Heap} {C Co : Addr}
end
end KX

set_option maxRecDepth 100000
set_option maxHeartbeats 1000000
/-! Oc: row_after; the law's agents, lived. -/
namespace KX
open PySem PySem.Spec PyProof.Rows L2 TL Ga NdefX StX
/-- a tuple of texts that the module holds -/
def WdIn (K : PySem.W.Frag) (mg : Str → Option Value) (x : Str) (l : List Str) : Prop := ∃ d, mg x = some (.ref d) ∧ ∀ H : Hp, SqT K H d (l.map V.str)
def oV : Option Nat → V
  | none => .non
  | some k => .int (k : Nat)
def dO : Option Nat → PyData
  | none => .none
  | some k => .int (k : Nat)
theorem oV_dp {K : PySem.W.Frag} {H : Hp} (o : Option Nat) : Dp K H (oV o) (dO o) := by
  cases o with
  | none => exact .non
  | some k => exact .int _
/-- the ends are these -/
def Ends1 (rows : List Rw) (z0 : Str) : Prop := ∀ (k : Nat) z, rows[k]? = some (Rw.fin z) → z = z0
theorem eqv_fin (z : Str) : PyData.eqv (dRw (.fin z)) (.tuple [.str z]) = true := by
  show (PyData.eqv (.str z) (.str z) && true) = true
  rw [Bool.and_true]
  show (z == z) = true
  exact beq_self_eq_true z
theorem eqv_step {w z : Str} {a : Act} {cs : List Cse} {o : Nat} : PyData.eqv (dRw (.step w a cs o)) (.tuple [.str z]) = false := by
  show (PyData.eqv (.str w) (.str z) && false) = false
  exact Bool.and_false _
def spAfter (K : PySem.W.Frag) : Sp := fun vs H Q _ => ∃ (ra jv : V) (rows : List Rw) (js : List Ent), vs = [ra, jv] ∧ AgtAt K H ra rows ∧ AgOk "act" rows ∧ Ends1 rows "stop" ∧ JrnAt K H jv js ∧ (∀ e ∈ js, SeqAt.shaped (dA e.1) = true ∧ SeqAt.shaped e.2 = true) ∧
  ∀ H', Same H H' → Q (oV (afterM rows 0 js)) H'
def spLLive (K : PySem.W.Frag) : Sp := fun vs H Q _ => ∃ (ra : V) (d : Addr) (fs : List File) (rows : List Rw), vs = [ra, .ref d] ∧ Tab K H d fs ∧ LawF fs ∧ AgtAt K H ra rows ∧ AgOk "act" rows ∧
  ∀ M, Halts lawAct rows fs M → ∀ r jv d2 H', Same H H' → SqL K H' r [jv, .ref d2] → JrnAt K H' jv (goM lawAct rows (0, [], fs) M).2.1 → Tab K H' d2 (goM lawAct rows (0, [], fs) M).2.2 → Q (.ref r) H'
section
variable {P : Program} {w : World} {K : PySem.W.Frag} {mg : Str → Option Value} {base : Heap} {C Co : Addr}
end
end KX

set_option maxRecDepth 100000
set_option maxHeartbeats 2000000
/-! Od: the law's agents, drawn. -/
namespace Ga
open PySem PySem.Spec PyProof.Rows L2 TL
theorem kNotInD {X : Cx} {K : PySem.W.Frag} (h : X.K = K) (hu : X.A.units + 65 < cLine) : OpR X (compareOp .NotIn) (rNotInD K) := by
  subst h
  exact op_notInD hu
end Ga
namespace KX
open PySem PySem.Spec PyProof.Rows L2 TL Ga NdefX StX
/-- the answers of the law are tuples without lists -/
theorem flats_str : ∀ l : List Str, flatsD (l.map PyData.str) = true
  | [] => rfl
  | z :: r => by
    rw [List.map_cons, flatsD, flats_str r]
    rfl
theorem flats_row : ∀ l : List (Str × Str × Nat), flatsD (l.map dRow) = true
  | [] => rfl
  | c :: r => by
    rw [List.map_cons, flatsD, flats_row r]
    rfl
def TupF (d : PyData) : Prop := ∃ ds, d = .tuple ds ∧ flatsD ds = true
theorem tupF_none : TupF dNone := ⟨_, rfl, rfl⟩
theorem tupF_act (fs : List File) (a : Act) : TupF (lawAct fs a).1 := by
  have ask : TupF (askM fs a) := by
    have one : ∀ z : Str, TupF (.tuple [.str z]) := fun z => ⟨_, rfl, rfl⟩
    cases a with
    | read p =>
      show TupF (aRead fs p)
      unfold aRead
      split
      · exact tupF_none
      · refine ⟨_, rfl, ?_⟩
        show (true && (flatsD ((_ : List Str).map PyData.str) && true)) = true
        rw [flats_str]
        rfl
    | kind p =>
      show TupF (aKind fs p)
      unfold aKind
      (repeat' split) <;> exact ⟨_, rfl, rfl⟩
    | list p =>
      show TupF (aList fs p)
      unfold aList
      split
      · refine ⟨_, rfl, ?_⟩
        show (true && (flatsD ((_ : List Str).map PyData.str) && true)) = true
        rw [flats_str]
        rfl
      · exact tupF_none
    | find p z =>
      show TupF (aFind fs p z)
      unfold aFind
      split
      · exact tupF_none
      · refine ⟨_, rfl, ?_⟩
        show (true && (flatsD ((_ : List _).map dRow) && true)) = true
        rw [flats_row]
        rfl
    | count p =>
      show TupF (aCount fs p)
      unfold aCount
      split <;> exact ⟨_, rfl, rfl⟩
    | _ => exact tupF_none
  unfold lawAct
  split
  · exact ask
  · unfold lawDo
    split <;> exact ⟨_, rfl, rfl⟩
theorem tupD_of {d : PyData} {n : Nat} (h : TupF d) (p : Pl n 4 d) : tupD d = true := by
  obtain ⟨ds, rfl, f⟩ := h
  have e : PyData.depthAll ds + 1 ≤ 4 := p.dep
  show (flatsD ds && decide (PyData.depthAll ds ≤ 7)) = true
  rw [f, decide_eq_true (by omega)]
  rfl
/-- no two cases are equal -/
def Dist (cs : List Cse) : Prop := (cs.Pairwise fun a b => PyData.eqv a.1 b.1 = false) ∧ ∀ c ∈ cs, tupD c.1 = true
/-- a row of the law's own agents -/
def ROk (w : Str) (z0 : Str → Prop) (n k : Nat) : Rw → Prop
  | .fin z => z0 z
  | .step w' a cs o => StepOk w n k w' a cs o ∧ Dist cs
/-- what the law's agents keep -/
structure LAg (w : Str) (z0 : Str → Prop) (rows : List Rw) : Prop where
  ok : AgOk w rows
  dist : ∀ (k : Nat) w' a cs o, rows[k]? = some (Rw.step w' a cs o) → Dist cs
  last : ∀ r, rows[rows.length - 1]? = some r → ∃ z, r = .fin z
def isStop (z : Str) : Prop := z = "stop"
theorem LAg.mk' {w : Str} {z0 : Str → Prop} {rows : List Rw} (hz : ∀ z, z0 z → z ≠ w ∧ okText 20 z) (few : rows.length ≤ 25) (pos : 0 < rows.length) (h : ∀ (k : Nat) r, rows[k]? = some r → ROk w z0 rows.length k r) (last : ∀ r, rows[rows.length - 1]? = some r → ∃ z, r = .fin z) : LAg w z0 rows :=
  ⟨⟨pos, few, fun k w' a cs o e => (h k _ e).1, fun k z e => hz z (h k _ e)⟩, fun k w' a cs o e => (h k _ e).2, last⟩
def spAgent (K : PySem.W.Frag) : Sp := fun vs H Q _ => ∃ (B D d : Addr) (fs : List File) (m : Int), vs = [.ref B, .ref d, .int m] ∧ Box H B D ∧ Tab K H d fs ∧ LawF fs ∧ 1 ≤ m ∧ m ≤ 23 ∧
  ∀ v rows H', AgtAt K H' v rows → LAg "act" isStop rows → Ends1 rows "stop" → (rows.length : Int) ≤ m + 1 → Kp B H H' → Box H' B D → Q v H'
def ansL (x : PyData) : List PyData := [x, .tuple [.str "none"], .tuple [.str "done"], .tuple [.str "missing"], .tuple [.str "many", .int 2]]
theorem ansL_pl {x : PyData} (h : Pl 9000 4 x) : ∀ d ∈ ansL x, Pl 9000 4 d := by
  have one : ∀ z, okText 20 z → Pl 9000 4 (.tuple [.str z]) := fun z hz => (pl_w hz).mono (by decide) (by decide)
  intro d hd
  simp only [ansL, List.mem_cons, List.not_mem_nil, or_false] at hd
  rcases hd with rfl | rfl | rfl | rfl | rfl
  · exact h
  · exact one _ (by decide +kernel)
  · exact one _ (by decide +kernel)
  · exact one _ (by decide +kernel)
  · exact ((PlL.cons (pl_str (n := 20) (by decide +kernel)) (PlL.cons (pl_nat (k := 0) (i := 2) (by decide)) (PlL.nil (n := 0)))).tup).mono (by decide) (by decide)
theorem ansL_tup {x : PyData} (h : TupF x) : ∀ d ∈ ansL x, TupF d := by
  intro d hd
  simp only [ansL, List.mem_cons, List.not_mem_nil, or_false] at hd
  rcases hd with rfl | rfl | rfl | rfl | rfl
  · exact h
  all_goals exact ⟨_, rfl, rfl⟩
theorem dist_snoc {cs : List Cse} {c : Cse} (h : Dist cs) (tc : tupD c.1 = true) (n : (cs.map (·.1)).any (fun z => PyData.eqv z c.1) = false) : Dist (cs ++ [c]) := by
  refine ⟨List.pairwise_append.mpr ⟨h.1, List.pairwise_singleton _ _, fun a ha b hb => ?_⟩, fun d hd => ?_⟩
  case refine_2 =>
    rcases List.mem_append.mp hd with hd | hd
    · exact h.2 d hd
    · rw [List.mem_singleton.mp hd]; exact tc
  rw [List.mem_singleton.mp hb]
  have := List.any_eq_false.mp n a.1 (List.mem_map.mpr ⟨a, ha, rfl⟩)
  exact Bool.eq_false_iff.mpr this
section
variable {P : Program} {w : World} {K : PySem.W.Frag} {mg : Str → Option Value} {base : Heap} {C Co : Addr}
end
end KX

set_option maxRecDepth 100000
set_option maxHeartbeats 2000000
/-! Fc: the law's feet. -/
namespace KX
open PySem PySem.Spec PyProof.Rows L2 TL Ga NdefX StX
theorem dps_of {K : PySem.W.Frag} {H : Hp} {ys : List V} {ms : List (List Str)} (h : Paired (TxAt K H) ys ms) : DpAll K H ys (ms.map fT) := by
  induction h with
  | nil => exact .nil
  | cons a _ ih => exact .cons a.dp ih
theorem any_fT (ds : List (List Str)) (m : List Str) : ((ds.map fT).any fun z => PyData.eqv z (fT m)) = decide (m ∈ ds) := by
  induction ds with
  | nil => rfl
  | cons d r ih =>
    rw [List.map_cons, List.any_cons, ih, eqv_fT]
    by_cases h : d = m
    · subst h
      rw [decide_eq_true rfl, decide_eq_true List.mem_cons_self]
      rfl
    · rw [decide_eq_false h, Bool.false_or]
      exact decide_eq_decide.mpr ⟨List.mem_cons_of_mem _, fun z => (List.mem_cons.mp z).resolve_left fun e => h e.symm⟩
/-- texts of the law -/
def okTx (l : List Str) : Prop := Pl 100 1 (fT l)
theorem pl_fT {l : List Str} (h : okTx l) : Pl 100 1 (fT l) := h
theorem shp_rows {ds : List (List Str)} (h : ∀ d ∈ ds, okTx d) (hz : ds.length ≤ 100) : SeqAt.shaped (.list (ds.map fT)) = true := by
  have pL : PlL (101 * (ds.map fT).length) 1 (ds.map fT) := PlL.all fun d hd => by
    obtain ⟨l, hl, rfl⟩ := List.mem_map.mp hd
    exact pl_fT (h l hl)
  have pLL : Pl (101 * (ds.map fT).length) 2 (.list (ds.map fT)) := ⟨pL.can, by show PyData.depthAll _ + 1 ≤ 2; have := pL.dep; omega, pL.wt, pL.ish, pL.sh⟩
  exact pLL.shaped (by decide)
theorem srt_uniq : ∀ {l m : List (List Str)}, l.Pairwise leL → m.Pairwise leL → l.Nodup → m.Nodup → (∀ x, x ∈ l ↔ x ∈ m) → l = m
  | [], [], _, _, _, _, _ => rfl
  | [], y :: m, _, _, _, _, h => absurd ((h y).mpr List.mem_cons_self) (fun z => nomatch z)
  | x :: l, [], _, _, _, _, h => absurd ((h x).mp List.mem_cons_self) (fun z => nomatch z)
  | x :: l, y :: m, a, b, c, d, h => by
    obtain ⟨a1, a2⟩ := List.pairwise_cons.mp a
    obtain ⟨b1, b2⟩ := List.pairwise_cons.mp b
    obtain ⟨c1, c2⟩ := List.nodup_cons.mp c
    obtain ⟨d1, d2⟩ := List.nodup_cons.mp d
    have e : x = y := by
      rcases List.mem_cons.mp ((h x).mp List.mem_cons_self) with e | hx
      · exact e
      · rcases List.mem_cons.mp ((h y).mpr List.mem_cons_self) with e | hy
        · exact e.symm
        · exact ltL_anti _ _ (b1 x hx) (a1 y hy)
    subst e
    rw [srt_uniq a2 b2 c2 d2 fun z => ?_]
    have hz := h z
    rw [List.mem_cons, List.mem_cons] at hz
    constructor
    · intro q
      exact (hz.mp (.inr q)).resolve_left fun e => c1 (e ▸ q)
    · intro q
      exact (hz.mpr (.inr q)).resolve_left fun e => d1 (e ▸ q)
def spLFeet (K : PySem.W.Frag) : Sp := fun vs H Q _ => ∃ (jv : V) (js : List Ent), vs = [jv] ∧ JrnAt K H jv js ∧ js.length ≤ 20 ∧ (∀ e ∈ js, ∀ f ∈ feetA e.1, okTx f.txt) ∧ ∀ H' r ys ms, Same H H' → SqT K H' r ys → Paired (TxAt K H') ys ms → SrtOf js ms → Q (.ref r) H'
section
variable {P : Program} {w : World} {K : PySem.W.Frag} {mg : Str → Option Value} {base : Heap} {C : Addr}
theorem ok_lfeet {f : Addr} {fd : FuncData} (F : Fun K "_law_feet" "_law_feet" s_L_feet f fd) (T : Tx mg) : FnOk P w K mg base CX0 2 f fd ["journal"] (spLFeet K) := by
  refine F.ok sc_L_feet (fun vs H Q E h => ?_) (fun cdv A outer s H vs Q E hr h => ?_)
  · obtain ⟨jv, js, rfl, _⟩ := h
    rfl
  · obtain ⟨jv, js, rfl, hj, hz, oks, q⟩ := h
    refine ⟨_, pss_cons (ps_set (i := 1) sc_L_feet.nd rfl (.inl rfl) (pe_lst pa_nil))
      (pss_cons (ps_for PassesOwn.never rfl (piT (K := K) rfl (pv 0)) (pgT (K := K) (n := 2) rfl rfl (pgs_cons (pg_name (i := 2) sc_L_feet.nd rfl (Or.inl rfl)) (pgs_cons (pg_name (i := 3) sc_L_feet.nd rfl (Or.inl rfl)) pgs_nil)))
      (pss_cons (ps_set (i := 4) sc_L_feet.nd rfl (.inl rfl) (pe_ix (ixT (K := K) rfl) (pv 2) pe_int (fun _ _ => rfl)))
      (pss_cons (ps_set (i := 5) sc_L_feet.nd rfl (.inl rfl) (pe_ix (ixT (K := K) rfl) (pv 2) pe_int (fun _ _ => rfl)))
      (pss_cons (ps_if (pt_cmpR op_in_seq (pv 5) (pe_tup (pa_consts (vs := [V.str "read", .str "remove", .str "splice", .str "move"]) rfl)) (by rfl)) (pss_one (ps_expr (pe_bm PySem.F.plainAttrs_list PySem.F.slot_list_append PySem.F.type_list_append mt_append (pv 1) (pa_cons (pe_tup (pa_cons pe_str (pa_cons (pv 4) pa_nil))) pa_nil)))) pss_nil)
      (pss_cons (ps_if (pt_cmpR op_in_seq (pv 5) (pe_tup (pa_consts (vs := [V.str "kind", .str "list", .str "count", .str "find"]) rfl)) (by rfl)) (pss_one (ps_expr (pe_bm PySem.F.plainAttrs_list PySem.F.slot_list_append PySem.F.type_list_append mt_append (pv 1) (pa_cons (pe_tup (pa_cons pe_str (pa_cons (pv 4) pa_nil))) pa_nil)))) pss_nil)
      (pss_cons (ps_if (pt_cmpR op_eq (pv 5) pe_str (nomark _)) (pss_one (ps_expr (pe_bm PySem.F.plainAttrs_list PySem.F.slot_list_append PySem.F.type_list_append mt_append (pv 1) (pa_cons (pe_tup (pa_cons pe_str (pa_cons (pv 4) (pa_cons (pe_ix (ixT (K := K) rfl) (pv 2) pe_int (fun _ _ => rfl)) pa_nil)))) pa_nil)))) pss_nil)
      (pss_cons (ps_if (pt_cmpR op_eq (pv 5) pe_str (nomark _)) (pss_one (ps_set (i := 1) sc_L_feet.nd rfl (.inl rfl) (pe_op op_cat (pv 1) (pe_lst (pa_cons (pe_tup (pa_cons pe_str (pa_cons (pv 4) pa_nil))) (pa_cons (pe_tup (pa_cons pe_str (pa_cons (pv 4) pa_nil))) (pa_cons (pe_tup (pa_cons pe_str pa_nil)) pa_nil))))))) pss_nil)
      (pss_one (ps_if (pt_cmpR op_eq (pv 5) pe_str (nomark _)) (pss_one (ps_set (i := 1) sc_L_feet.nd rfl (.inl rfl) (pe_op op_cat (pv 1) (pe_lst (pa_cons (pe_tup (pa_cons pe_str (pa_cons (pe_ix (ixT (K := K) rfl) (pv 2) pe_int (fun _ _ => rfl)) pa_nil))) (pa_cons (pe_tup (pa_cons pe_str (pa_cons (pe_ix (ixT (K := K) rfl) (pv 2) pe_int (fun _ _ => rfl)) pa_nil))) pa_nil)))))) pss_nil)))))))))
      (pss_cons (ps_set (i := 6) sc_L_feet.nd rfl (.inl rfl) (pe_lst pa_nil))
      (pss_cons (ps_for PassesOwn.never rfl (piL (K := K) rfl (pe_callB (call_sortL (K := K) rfl) (by rfl) T.sorted (by decide +kernel) (pa_cons (pv 1) pa_nil))) (pg_name (i := 7) sc_L_feet.nd rfl (Or.inl rfl))
      (pss_one (ps_if (pt_cmpR (kNotInD (K := K) rfl (room65 hr)) (pv 7) (pv 6) (by rfl)) (pss_one (ps_expr (pe_bm PySem.F.plainAttrs_list PySem.F.slot_list_append PySem.F.type_list_append mt_append (pv 6) (pa_cons (pv 7) pa_nil)))) pss_nil)))
      (pss_one (ps_ret (pe_callTy (callTup (K := K) rfl) (by rfl) T.tuple (by decide +kernel) (pa_cons (pv 6) pa_nil))))))), ?_⟩
    obtain ⟨tj, us, rfl, qj, pj⟩ := id hj
    have lu : us.length = js.length := paired_len pj
    refine ⟨by show 0 ≤ sizeLine; decide, fun R0 nR0 => ?_⟩
    have s0 := same_upd (o := HO.lst []) nR0
    have h0 : upd H R0 (.lst []) R0 = some (.lst []) := upd_same
    generalize upd H R0 (.lst []) = H0 at s0 h0 ⊢
    refine ⟨_, rfl, tj, rfl, ⟨_, s0.seqT qj⟩, ?_⟩
    refine for_tup (K := K) (xs := us) (fun i σ H' => ∃ (R : Addr) (ws : List V) (o2 o3 o4 o5 : Option V), σ = [some (.ref tj), some (.ref R), o2, o3, o4, o5, none, none] ∧ Same H H' ∧ H R = none ∧ H' R = some (.lst ws) ∧ Paired (TxAt K H') ws ((js.take i).flatMap fun e => (feetA e.1).map Foot.txt) ∧ ws.length ≤ 3 * i)
      ⟨R0, [], none, none, none, none, rfl, s0, nR0, h0, .nil, by simp⟩ (fun i σ H' _ ⟨_, _, _, _, _, _, _, h, _⟩ => h.seqT qj) ?_ ?_
    · rintro i c σ H3 hc ⟨R, ws, o2, o3, o4, o5, rfl, s3, nR, hR, pw, few⟩
      obtain ⟨e, he, t', x', u', rfl, ht', hd1, hd2⟩ := paired_get pj i c hc
      have hi : i < us.length := (List.getElem?_eq_some_iff.mp hc).1
      refine ⟨t', _, rfl, s3.seqT ht', rfl, _, _, rfl, _, _, rfl, rfl, ?_⟩
      obtain ⟨t, vs, rfl, st0, dl0⟩ := act_parts hd1
      have st := s3.seqT st0
      have dl := dl0.st s3.t
      have fl := flat_snoc (bs := fun e : Ent => (feetA e.1).map Foot.txt) he
      have tR : SameT H3 H3 := .refl _
      have lt0 : ws.length + 3 < sizeLine := Nat.lt_of_le_of_lt (show _ ≤ 100 by omega) (by decide)
      obtain ⟨a, ans⟩ := e
      dsimp only at *
      obtain ⟨p, r, er⟩ : ∃ p r, a.parts.map (fun q => dI q.2) = .str p :: r := by cases a <;> exact ⟨_, _, rfl⟩
      obtain ⟨v2, rfl, dl2⟩ : ∃ v2, vs = .str p :: v2 ∧ DtL K H3 v2 r := by
        rw [er] at dl
        cases dl with
        | cons a b => exact ⟨_, by rw [a.strE], b⟩
      refine ⟨_, rfl, t, _, 1, .str p, rfl, rfl, st, at_of (j := 1) rfl rfl, ?_⟩
      refine ⟨_, rfl, t, _, 0, .str a.word, rfl, rfl, st, at_of (j := 0) rfl rfl, ?_⟩
      cases a with
      | read x =>
        cases er
        refine ⟨_, rfl, by show 4 ≤ sizeLine; decide, fun m1 nm1 => ?_⟩
        have e1 := same_upd (o := HO.tup [V.str "read", .str "remove", .str "splice", .str "move"]) nm1
        refine ⟨m1, _, rfl, .inr (sqT upd_same), rfl, by decide, _, rfl, ?_⟩
        generalize upd H3 m1 (.tup [V.str "read", .str "remove", .str "splice", .str "move"]) = E1 at e1 ⊢
        have sH2 := s3.trans e1
        have tH2 := tR.trans e1.t
        have hR2 := e1 _ _ hR
        have st2 := e1.seqT st
        rw [if_neg Bool.false_ne_true]
        refine ite2 (fun _ => ?_) (fun e => absurd (show inV (V.str "read") [V.str "read", .str "remove", .str "splice", .str "move"] = true by decide +kernel) e)
        refine ⟨_, rfl, .inl ⟨rfl, _, sqL hR2⟩, _, rfl, by show 2 ≤ sizeLine; decide, fun t3 n3 => ?_⟩
        have e3 := same_upd (o := HO.tup [.str "read", .str p]) n3
        have k3 : SqT K (upd E1 t3 (.tup [.str "read", .str p])) t3 [.str "read", .str p] := sqT upd_same
        generalize upd E1 t3 (.tup [.str "read", .str p]) = E3 at e3 k3 ⊢
        have sH4 := sH2.trans e3
        have tH4 := tH2.trans e3.t
        have hR4 := e3 _ _ hR2
        have st4 := e3.seqT st2
        refine ⟨R, ws, _, rfl, rfl, hR4, by first | (simp only [List.length_append, List.length_singleton]; omega) | omega, ?_⟩
        have hR5 : upd E3 R (.lst (ws ++ [V.ref t3])) R = some (.lst (ws ++ [V.ref t3])) := upd_same
        have sH5 : Same H (upd E3 R (.lst (ws ++ [V.ref t3]))) := sH4.mut nR
        have pt5 : SameT E3 (upd E3 R (.lst (ws ++ [V.ref t3]))) := .put hR4 rfl
        generalize upd E3 R (.lst (ws ++ [V.ref t3])) = E5 at hR5 sH5 pt5 ⊢
        replace k3 := pt5.sq k3
        have tH5 := tH4.trans pt5
        have st5 := pt5.sq st4
        refine ⟨_, rfl, by show 4 ≤ sizeLine; decide, fun m6 nm6 => ?_⟩
        have e6 := same_upd (o := HO.tup [V.str "kind", .str "list", .str "count", .str "find"]) nm6
        refine ⟨m6, _, rfl, .inr (sqT upd_same), rfl, by decide, _, rfl, ?_⟩
        generalize upd E5 m6 (.tup [V.str "kind", .str "list", .str "count", .str "find"]) = E6 at e6 ⊢
        have sH7 := sH5.trans e6
        have tH7 := tH5.trans e6.t
        have hR7 := e6 _ _ hR5
        have st7 := e6.seqT st5
        replace k3 := e6.t.sq k3
        rw [if_neg Bool.false_ne_true]
        refine ite2 (fun e => absurd (show inV (V.str "read") [V.str "kind", .str "list", .str "count", .str "find"] = true from e) (by decide +kernel)) (fun _ => ?_)
        refine ⟨_, rfl, rfl, _, rfl, ite2 (fun e => absurd (show decide (V.str "read" = V.str "find") = true from e) (by decide +kernel)) (fun _ => ?_)⟩
        refine ⟨_, rfl, rfl, _, rfl, ite2 (fun e => absurd (show decide (V.str "read" = V.str "write") = true from e) (by decide +kernel)) (fun _ => ?_)⟩
        refine ⟨_, rfl, rfl, _, rfl, ite2 (fun e => absurd (show decide (V.str "read" = V.str "move") = true from e) (by decide +kernel)) (fun _ => ?_)⟩
        refine ⟨R, _, _, _, _, _, rfl, sH7, nR, hR7, ?_, by simp only [List.length_append, List.length_singleton, List.length_cons, List.length_nil]; omega⟩
        rw [fl]
        have p0 := pw.mono fun _ _ q => TxAt.st q tH7
        exact paired_app (p0) (.cons ⟨t3, rfl, k3⟩ .nil)
      | kind x =>
        cases er
        refine ⟨_, rfl, by show 4 ≤ sizeLine; decide, fun m1 nm1 => ?_⟩
        have e1 := same_upd (o := HO.tup [V.str "read", .str "remove", .str "splice", .str "move"]) nm1
        refine ⟨m1, _, rfl, .inr (sqT upd_same), rfl, by decide, _, rfl, ?_⟩
        generalize upd H3 m1 (.tup [V.str "read", .str "remove", .str "splice", .str "move"]) = E1 at e1 ⊢
        have sH2 := s3.trans e1
        have tH2 := tR.trans e1.t
        have hR2 := e1 _ _ hR
        have st2 := e1.seqT st
        rw [if_neg Bool.false_ne_true]
        refine ite2 (fun e => absurd (show inV (V.str "kind") [V.str "read", .str "remove", .str "splice", .str "move"] = true from e) (by decide +kernel)) (fun _ => ?_)
        refine ⟨_, rfl, by show 4 ≤ sizeLine; decide, fun m3 nm3 => ?_⟩
        have e3 := same_upd (o := HO.tup [V.str "kind", .str "list", .str "count", .str "find"]) nm3
        refine ⟨m3, _, rfl, .inr (sqT upd_same), rfl, by decide, _, rfl, ?_⟩
        generalize upd E1 m3 (.tup [V.str "kind", .str "list", .str "count", .str "find"]) = E3 at e3 ⊢
        have sH4 := sH2.trans e3
        have tH4 := tH2.trans e3.t
        have hR4 := e3 _ _ hR2
        have st4 := e3.seqT st2
        rw [if_neg Bool.false_ne_true]
        refine ite2 (fun _ => ?_) (fun e => absurd (show inV (V.str "kind") [V.str "kind", .str "list", .str "count", .str "find"] = true by decide +kernel) e)
        refine ⟨_, rfl, .inl ⟨rfl, _, sqL hR4⟩, _, rfl, by show 2 ≤ sizeLine; decide, fun t5 n5 => ?_⟩
        have e5 := same_upd (o := HO.tup [.str "under", .str p]) n5
        have k5 : SqT K (upd E3 t5 (.tup [.str "under", .str p])) t5 [.str "under", .str p] := sqT upd_same
        generalize upd E3 t5 (.tup [.str "under", .str p]) = E5 at e5 k5 ⊢
        have sH6 := sH4.trans e5
        have tH6 := tH4.trans e5.t
        have hR6 := e5 _ _ hR4
        have st6 := e5.seqT st4
        refine ⟨R, ws, _, rfl, rfl, hR6, by first | (simp only [List.length_append, List.length_singleton]; omega) | omega, ?_⟩
        have hR7 : upd E5 R (.lst (ws ++ [V.ref t5])) R = some (.lst (ws ++ [V.ref t5])) := upd_same
        have sH7 : Same H (upd E5 R (.lst (ws ++ [V.ref t5]))) := sH6.mut nR
        have pt7 : SameT E5 (upd E5 R (.lst (ws ++ [V.ref t5]))) := .put hR6 rfl
        generalize upd E5 R (.lst (ws ++ [V.ref t5])) = E7 at hR7 sH7 pt7 ⊢
        replace k5 := pt7.sq k5
        have tH7 := tH6.trans pt7
        have st7 := pt7.sq st6
        refine ⟨_, rfl, rfl, _, rfl, ite2 (fun e => absurd (show decide (V.str "kind" = V.str "find") = true from e) (by decide +kernel)) (fun _ => ?_)⟩
        refine ⟨_, rfl, rfl, _, rfl, ite2 (fun e => absurd (show decide (V.str "kind" = V.str "write") = true from e) (by decide +kernel)) (fun _ => ?_)⟩
        refine ⟨_, rfl, rfl, _, rfl, ite2 (fun e => absurd (show decide (V.str "kind" = V.str "move") = true from e) (by decide +kernel)) (fun _ => ?_)⟩
        refine ⟨R, _, _, _, _, _, rfl, sH7, nR, hR7, ?_, by simp only [List.length_append, List.length_singleton, List.length_cons, List.length_nil]; omega⟩
        rw [fl]
        have p0 := pw.mono fun _ _ q => TxAt.st q tH7
        exact paired_app (p0) (.cons ⟨t5, rfl, k5⟩ .nil)
      | list x =>
        cases er
        refine ⟨_, rfl, by show 4 ≤ sizeLine; decide, fun m1 nm1 => ?_⟩
        have e1 := same_upd (o := HO.tup [V.str "read", .str "remove", .str "splice", .str "move"]) nm1
        refine ⟨m1, _, rfl, .inr (sqT upd_same), rfl, by decide, _, rfl, ?_⟩
        generalize upd H3 m1 (.tup [V.str "read", .str "remove", .str "splice", .str "move"]) = E1 at e1 ⊢
        have sH2 := s3.trans e1
        have tH2 := tR.trans e1.t
        have hR2 := e1 _ _ hR
        have st2 := e1.seqT st
        rw [if_neg Bool.false_ne_true]
        refine ite2 (fun e => absurd (show inV (V.str "list") [V.str "read", .str "remove", .str "splice", .str "move"] = true from e) (by decide +kernel)) (fun _ => ?_)
        refine ⟨_, rfl, by show 4 ≤ sizeLine; decide, fun m3 nm3 => ?_⟩
        have e3 := same_upd (o := HO.tup [V.str "kind", .str "list", .str "count", .str "find"]) nm3
        refine ⟨m3, _, rfl, .inr (sqT upd_same), rfl, by decide, _, rfl, ?_⟩
        generalize upd E1 m3 (.tup [V.str "kind", .str "list", .str "count", .str "find"]) = E3 at e3 ⊢
        have sH4 := sH2.trans e3
        have tH4 := tH2.trans e3.t
        have hR4 := e3 _ _ hR2
        have st4 := e3.seqT st2
        rw [if_neg Bool.false_ne_true]
        refine ite2 (fun _ => ?_) (fun e => absurd (show inV (V.str "list") [V.str "kind", .str "list", .str "count", .str "find"] = true by decide +kernel) e)
        refine ⟨_, rfl, .inl ⟨rfl, _, sqL hR4⟩, _, rfl, by show 2 ≤ sizeLine; decide, fun t5 n5 => ?_⟩
        have e5 := same_upd (o := HO.tup [.str "under", .str p]) n5
        have k5 : SqT K (upd E3 t5 (.tup [.str "under", .str p])) t5 [.str "under", .str p] := sqT upd_same
        generalize upd E3 t5 (.tup [.str "under", .str p]) = E5 at e5 k5 ⊢
        have sH6 := sH4.trans e5
        have tH6 := tH4.trans e5.t
        have hR6 := e5 _ _ hR4
        have st6 := e5.seqT st4
        refine ⟨R, ws, _, rfl, rfl, hR6, by first | (simp only [List.length_append, List.length_singleton]; omega) | omega, ?_⟩
        have hR7 : upd E5 R (.lst (ws ++ [V.ref t5])) R = some (.lst (ws ++ [V.ref t5])) := upd_same
        have sH7 : Same H (upd E5 R (.lst (ws ++ [V.ref t5]))) := sH6.mut nR
        have pt7 : SameT E5 (upd E5 R (.lst (ws ++ [V.ref t5]))) := .put hR6 rfl
        generalize upd E5 R (.lst (ws ++ [V.ref t5])) = E7 at hR7 sH7 pt7 ⊢
        replace k5 := pt7.sq k5
        have tH7 := tH6.trans pt7
        have st7 := pt7.sq st6
        refine ⟨_, rfl, rfl, _, rfl, ite2 (fun e => absurd (show decide (V.str "list" = V.str "find") = true from e) (by decide +kernel)) (fun _ => ?_)⟩
        refine ⟨_, rfl, rfl, _, rfl, ite2 (fun e => absurd (show decide (V.str "list" = V.str "write") = true from e) (by decide +kernel)) (fun _ => ?_)⟩
        refine ⟨_, rfl, rfl, _, rfl, ite2 (fun e => absurd (show decide (V.str "list" = V.str "move") = true from e) (by decide +kernel)) (fun _ => ?_)⟩
        refine ⟨R, _, _, _, _, _, rfl, sH7, nR, hR7, ?_, by simp only [List.length_append, List.length_singleton, List.length_cons, List.length_nil]; omega⟩
        rw [fl]
        have p0 := pw.mono fun _ _ q => TxAt.st q tH7
        exact paired_app (p0) (.cons ⟨t5, rfl, k5⟩ .nil)
      | find x y =>
        cases er
        obtain ⟨y2, v3, rfl, dy, dr⟩ : ∃ y2 v3, v2 = y2 :: v3 ∧ Dt K H3 y2 (.str y) ∧ DtL K H3 v3 [] := by
          cases dl2 with
          | cons a b => exact ⟨_, _, rfl, a, b⟩
        obtain rfl := dy.strE
        refine ⟨_, rfl, by show 4 ≤ sizeLine; decide, fun m1 nm1 => ?_⟩
        have e1 := same_upd (o := HO.tup [V.str "read", .str "remove", .str "splice", .str "move"]) nm1
        refine ⟨m1, _, rfl, .inr (sqT upd_same), rfl, by decide, _, rfl, ?_⟩
        generalize upd H3 m1 (.tup [V.str "read", .str "remove", .str "splice", .str "move"]) = E1 at e1 ⊢
        have sH2 := s3.trans e1
        have tH2 := tR.trans e1.t
        have hR2 := e1 _ _ hR
        have st2 := e1.seqT st
        rw [if_neg Bool.false_ne_true]
        refine ite2 (fun e => absurd (show inV (V.str "find") [V.str "read", .str "remove", .str "splice", .str "move"] = true from e) (by decide +kernel)) (fun _ => ?_)
        refine ⟨_, rfl, by show 4 ≤ sizeLine; decide, fun m3 nm3 => ?_⟩
        have e3 := same_upd (o := HO.tup [V.str "kind", .str "list", .str "count", .str "find"]) nm3
        refine ⟨m3, _, rfl, .inr (sqT upd_same), rfl, by decide, _, rfl, ?_⟩
        generalize upd E1 m3 (.tup [V.str "kind", .str "list", .str "count", .str "find"]) = E3 at e3 ⊢
        have sH4 := sH2.trans e3
        have tH4 := tH2.trans e3.t
        have hR4 := e3 _ _ hR2
        have st4 := e3.seqT st2
        rw [if_neg Bool.false_ne_true]
        refine ite2 (fun _ => ?_) (fun e => absurd (show inV (V.str "find") [V.str "kind", .str "list", .str "count", .str "find"] = true by decide +kernel) e)
        refine ⟨_, rfl, .inl ⟨rfl, _, sqL hR4⟩, _, rfl, by show 2 ≤ sizeLine; decide, fun t5 n5 => ?_⟩
        have e5 := same_upd (o := HO.tup [.str "under", .str p]) n5
        have k5 : SqT K (upd E3 t5 (.tup [.str "under", .str p])) t5 [.str "under", .str p] := sqT upd_same
        generalize upd E3 t5 (.tup [.str "under", .str p]) = E5 at e5 k5 ⊢
        have sH6 := sH4.trans e5
        have tH6 := tH4.trans e5.t
        have hR6 := e5 _ _ hR4
        have st6 := e5.seqT st4
        refine ⟨R, ws, _, rfl, rfl, hR6, by first | (simp only [List.length_append, List.length_singleton]; omega) | omega, ?_⟩
        have hR7 : upd E5 R (.lst (ws ++ [V.ref t5])) R = some (.lst (ws ++ [V.ref t5])) := upd_same
        have sH7 : Same H (upd E5 R (.lst (ws ++ [V.ref t5]))) := sH6.mut nR
        have pt7 : SameT E5 (upd E5 R (.lst (ws ++ [V.ref t5]))) := .put hR6 rfl
        generalize upd E5 R (.lst (ws ++ [V.ref t5])) = E7 at hR7 sH7 pt7 ⊢
        replace k5 := pt7.sq k5
        have tH7 := tH6.trans pt7
        have st7 := pt7.sq st6
        refine ⟨_, rfl, rfl, _, rfl, ite2 (fun _ => ?_) (fun e => absurd (decide_eq_true rfl) e)⟩
        refine ⟨_, rfl, .inl ⟨rfl, _, sqL hR7⟩, _, rfl, _, rfl, t, _, 2, .str y, rfl, rfl, st7, at_of (j := 2) rfl rfl, by show 3 ≤ sizeLine; decide, fun t8 n8 => ?_⟩
        have e8 := same_upd (o := HO.tup [.str "find", .str p, .str y]) n8
        have k8 : SqT K (upd E7 t8 (.tup [.str "find", .str p, .str y])) t8 [.str "find", .str p, .str y] := sqT upd_same
        generalize upd E7 t8 (.tup [.str "find", .str p, .str y]) = E8 at e8 k8 ⊢
        replace k5 := e8.t.sq k5
        have sH9 := sH7.trans e8
        have tH9 := tH7.trans e8.t
        have hR9 := e8 _ _ hR7
        have st9 := e8.seqT st7
        refine ⟨R, (ws ++ [V.ref t5]), _, rfl, rfl, hR9, by first | (simp only [List.length_append, List.length_singleton]; omega) | omega, ?_⟩
        have hR10 : upd E8 R (.lst ((ws ++ [V.ref t5]) ++ [V.ref t8])) R = some (.lst ((ws ++ [V.ref t5]) ++ [V.ref t8])) := upd_same
        have sH10 : Same H (upd E8 R (.lst ((ws ++ [V.ref t5]) ++ [V.ref t8]))) := sH9.mut nR
        have pt10 : SameT E8 (upd E8 R (.lst ((ws ++ [V.ref t5]) ++ [V.ref t8]))) := .put hR9 rfl
        generalize upd E8 R (.lst ((ws ++ [V.ref t5]) ++ [V.ref t8])) = E10 at hR10 sH10 pt10 ⊢
        replace k5 := pt10.sq k5
        replace k8 := pt10.sq k8
        have tH10 := tH9.trans pt10
        have st10 := pt10.sq st9
        refine ⟨_, rfl, rfl, _, rfl, ite2 (fun e => absurd (show decide (V.str "find" = V.str "write") = true from e) (by decide +kernel)) (fun _ => ?_)⟩
        refine ⟨_, rfl, rfl, _, rfl, ite2 (fun e => absurd (show decide (V.str "find" = V.str "move") = true from e) (by decide +kernel)) (fun _ => ?_)⟩
        refine ⟨R, _, _, _, _, _, rfl, sH10, nR, hR10, ?_, by simp only [List.length_append, List.length_singleton, List.length_cons, List.length_nil]; omega⟩
        rw [fl]
        have p0 := pw.mono fun _ _ q => TxAt.st q tH10
        have p1 : Paired (TxAt K E10) ((ws ++ [V.ref t5]) ++ [V.ref t8]) (((js.take i).flatMap fun e => (feetA e.1).map Foot.txt) ++ [Foot.txt (.under p)] ++ [Foot.txt (.find p y)]) := paired_app (paired_app (p0) (.cons ⟨t5, rfl, k5⟩ .nil)) (.cons ⟨t8, rfl, k8⟩ .nil)
        rw [List.append_assoc ((js.take i).flatMap fun e => (feetA e.1).map Foot.txt)] at p1
        exact p1
      | count x =>
        cases er
        refine ⟨_, rfl, by show 4 ≤ sizeLine; decide, fun m1 nm1 => ?_⟩
        have e1 := same_upd (o := HO.tup [V.str "read", .str "remove", .str "splice", .str "move"]) nm1
        refine ⟨m1, _, rfl, .inr (sqT upd_same), rfl, by decide, _, rfl, ?_⟩
        generalize upd H3 m1 (.tup [V.str "read", .str "remove", .str "splice", .str "move"]) = E1 at e1 ⊢
        have sH2 := s3.trans e1
        have tH2 := tR.trans e1.t
        have hR2 := e1 _ _ hR
        have st2 := e1.seqT st
        rw [if_neg Bool.false_ne_true]
        refine ite2 (fun e => absurd (show inV (V.str "count") [V.str "read", .str "remove", .str "splice", .str "move"] = true from e) (by decide +kernel)) (fun _ => ?_)
        refine ⟨_, rfl, by show 4 ≤ sizeLine; decide, fun m3 nm3 => ?_⟩
        have e3 := same_upd (o := HO.tup [V.str "kind", .str "list", .str "count", .str "find"]) nm3
        refine ⟨m3, _, rfl, .inr (sqT upd_same), rfl, by decide, _, rfl, ?_⟩
        generalize upd E1 m3 (.tup [V.str "kind", .str "list", .str "count", .str "find"]) = E3 at e3 ⊢
        have sH4 := sH2.trans e3
        have tH4 := tH2.trans e3.t
        have hR4 := e3 _ _ hR2
        have st4 := e3.seqT st2
        rw [if_neg Bool.false_ne_true]
        refine ite2 (fun _ => ?_) (fun e => absurd (show inV (V.str "count") [V.str "kind", .str "list", .str "count", .str "find"] = true by decide +kernel) e)
        refine ⟨_, rfl, .inl ⟨rfl, _, sqL hR4⟩, _, rfl, by show 2 ≤ sizeLine; decide, fun t5 n5 => ?_⟩
        have e5 := same_upd (o := HO.tup [.str "under", .str p]) n5
        have k5 : SqT K (upd E3 t5 (.tup [.str "under", .str p])) t5 [.str "under", .str p] := sqT upd_same
        generalize upd E3 t5 (.tup [.str "under", .str p]) = E5 at e5 k5 ⊢
        have sH6 := sH4.trans e5
        have tH6 := tH4.trans e5.t
        have hR6 := e5 _ _ hR4
        have st6 := e5.seqT st4
        refine ⟨R, ws, _, rfl, rfl, hR6, by first | (simp only [List.length_append, List.length_singleton]; omega) | omega, ?_⟩
        have hR7 : upd E5 R (.lst (ws ++ [V.ref t5])) R = some (.lst (ws ++ [V.ref t5])) := upd_same
        have sH7 : Same H (upd E5 R (.lst (ws ++ [V.ref t5]))) := sH6.mut nR
        have pt7 : SameT E5 (upd E5 R (.lst (ws ++ [V.ref t5]))) := .put hR6 rfl
        generalize upd E5 R (.lst (ws ++ [V.ref t5])) = E7 at hR7 sH7 pt7 ⊢
        replace k5 := pt7.sq k5
        have tH7 := tH6.trans pt7
        have st7 := pt7.sq st6
        refine ⟨_, rfl, rfl, _, rfl, ite2 (fun e => absurd (show decide (V.str "count" = V.str "find") = true from e) (by decide +kernel)) (fun _ => ?_)⟩
        refine ⟨_, rfl, rfl, _, rfl, ite2 (fun e => absurd (show decide (V.str "count" = V.str "write") = true from e) (by decide +kernel)) (fun _ => ?_)⟩
        refine ⟨_, rfl, rfl, _, rfl, ite2 (fun e => absurd (show decide (V.str "count" = V.str "move") = true from e) (by decide +kernel)) (fun _ => ?_)⟩
        refine ⟨R, _, _, _, _, _, rfl, sH7, nR, hR7, ?_, by simp only [List.length_append, List.length_singleton, List.length_cons, List.length_nil]; omega⟩
        rw [fl]
        have p0 := pw.mono fun _ _ q => TxAt.st q tH7
        exact paired_app (p0) (.cons ⟨t5, rfl, k5⟩ .nil)
      | write x l =>
        cases er
        refine ⟨_, rfl, by show 4 ≤ sizeLine; decide, fun m1 nm1 => ?_⟩
        have e1 := same_upd (o := HO.tup [V.str "read", .str "remove", .str "splice", .str "move"]) nm1
        refine ⟨m1, _, rfl, .inr (sqT upd_same), rfl, by decide, _, rfl, ?_⟩
        generalize upd H3 m1 (.tup [V.str "read", .str "remove", .str "splice", .str "move"]) = E1 at e1 ⊢
        have sH2 := s3.trans e1
        have tH2 := tR.trans e1.t
        have hR2 := e1 _ _ hR
        have st2 := e1.seqT st
        rw [if_neg Bool.false_ne_true]
        refine ite2 (fun e => absurd (show inV (V.str "write") [V.str "read", .str "remove", .str "splice", .str "move"] = true from e) (by decide +kernel)) (fun _ => ?_)
        refine ⟨_, rfl, by show 4 ≤ sizeLine; decide, fun m3 nm3 => ?_⟩
        have e3 := same_upd (o := HO.tup [V.str "kind", .str "list", .str "count", .str "find"]) nm3
        refine ⟨m3, _, rfl, .inr (sqT upd_same), rfl, by decide, _, rfl, ?_⟩
        generalize upd E1 m3 (.tup [V.str "kind", .str "list", .str "count", .str "find"]) = E3 at e3 ⊢
        have sH4 := sH2.trans e3
        have tH4 := tH2.trans e3.t
        have hR4 := e3 _ _ hR2
        have st4 := e3.seqT st2
        rw [if_neg Bool.false_ne_true]
        refine ite2 (fun e => absurd (show inV (V.str "write") [V.str "kind", .str "list", .str "count", .str "find"] = true from e) (by decide +kernel)) (fun _ => ?_)
        refine ⟨_, rfl, rfl, _, rfl, ite2 (fun e => absurd (show decide (V.str "write" = V.str "find") = true from e) (by decide +kernel)) (fun _ => ?_)⟩
        refine ⟨_, rfl, rfl, _, rfl, ite2 (fun _ => ?_) (fun e => absurd (decide_eq_true rfl) e)⟩
        refine ⟨_, rfl, ?_⟩
        refine ⟨_, rfl, by show 2 ≤ sizeLine; decide, fun t5 n5 => ?_⟩
        have e5 := same_upd (o := HO.tup [.str "under", .str p]) n5
        have k5 : SqT K (upd E3 t5 (.tup [.str "under", .str p])) t5 [.str "under", .str p] := sqT upd_same
        generalize upd E3 t5 (.tup [.str "under", .str p]) = E5 at e5 k5 ⊢
        have sH6 := sH4.trans e5
        have tH6 := tH4.trans e5.t
        have hR6 := e5 _ _ hR4
        have st6 := e5.seqT st4
        refine ⟨_, rfl, by show 2 ≤ sizeLine; decide, fun t7 n7 => ?_⟩
        have e7 := same_upd (o := HO.tup [.str "above", .str p]) n7
        have k7 : SqT K (upd E5 t7 (.tup [.str "above", .str p])) t7 [.str "above", .str p] := sqT upd_same
        generalize upd E5 t7 (.tup [.str "above", .str p]) = E7 at e7 k7 ⊢
        replace k5 := e7.t.sq k5
        have sH8 := sH6.trans e7
        have tH8 := tH6.trans e7.t
        have hR8 := e7 _ _ hR6
        have st8 := e7.seqT st6
        refine ⟨by show 1 ≤ sizeLine; decide, fun t9 n9 => ?_⟩
        have e9 := same_upd (o := HO.tup [.str "total"]) n9
        have k9 : SqT K (upd E7 t9 (.tup [.str "total"])) t9 [.str "total"] := sqT upd_same
        generalize upd E7 t9 (.tup [.str "total"]) = E9 at e9 k9 ⊢
        replace k5 := e9.t.sq k5
        replace k7 := e9.t.sq k7
        have sH10 := sH8.trans e9
        have tH10 := tH8.trans e9.t
        have hR10 := e9 _ _ hR8
        have st10 := e9.seqT st8
        refine ⟨by show 3 ≤ sizeLine; decide, fun l11 nl11 => ?_⟩
        have e11 := same_upd (o := HO.lst [V.ref t5, V.ref t7, V.ref t9]) nl11
        have hl11 : upd E9 l11 (.lst [V.ref t5, V.ref t7, V.ref t9]) l11 = some (.lst [V.ref t5, V.ref t7, V.ref t9]) := upd_same
        generalize upd E9 l11 (.lst [V.ref t5, V.ref t7, V.ref t9]) = E11 at e11 hl11 ⊢
        replace k5 := e11.t.sq k5
        replace k7 := e11.t.sq k7
        replace k9 := e11.t.sq k9
        have sH12 := sH10.trans e11
        have tH12 := tH10.trans e11.t
        have hR12 := e11 _ _ hR10
        have st12 := e11.seqT st10
        refine ⟨R, l11, ws, _, rfl, rfl, hR12, hl11, by simp only [List.length_append, List.length_singleton, List.length_cons, List.length_nil]; omega, fun R13 nR13 => ?_⟩
        have e13 := same_upd (o := HO.lst (ws ++ [V.ref t5, V.ref t7, V.ref t9])) nR13
        have hR13 : upd E11 R13 (.lst (ws ++ [V.ref t5, V.ref t7, V.ref t9])) R13 = some (.lst (ws ++ [V.ref t5, V.ref t7, V.ref t9])) := upd_same
        have nRR13 := same_none sH12 nR13
        generalize upd E11 R13 (.lst (ws ++ [V.ref t5, V.ref t7, V.ref t9])) = E13 at e13 hR13 ⊢
        replace k5 := e13.t.sq k5
        replace k7 := e13.t.sq k7
        replace k9 := e13.t.sq k9
        have sH13 := sH12.trans e13
        have tH13 := tH12.trans e13.t
        have st13 := e13.seqT st12
        refine ⟨_, rfl, rfl, _, rfl, ite2 (fun e => absurd (show decide (V.str "write" = V.str "move") = true from e) (by decide +kernel)) (fun _ => ?_)⟩
        refine ⟨R13, _, _, _, _, _, rfl, sH13, nRR13, hR13, ?_, by simp only [List.length_append, List.length_singleton, List.length_cons, List.length_nil]; omega⟩
        rw [fl]
        have p0 := pw.mono fun _ _ q => TxAt.st q tH13
        exact paired_app (p0) (.cons ⟨t5, rfl, k5⟩ (.cons ⟨t7, rfl, k7⟩ (.cons ⟨t9, rfl, k9⟩ .nil)))
      | remove x =>
        cases er
        refine ⟨_, rfl, by show 4 ≤ sizeLine; decide, fun m1 nm1 => ?_⟩
        have e1 := same_upd (o := HO.tup [V.str "read", .str "remove", .str "splice", .str "move"]) nm1
        refine ⟨m1, _, rfl, .inr (sqT upd_same), rfl, by decide, _, rfl, ?_⟩
        generalize upd H3 m1 (.tup [V.str "read", .str "remove", .str "splice", .str "move"]) = E1 at e1 ⊢
        have sH2 := s3.trans e1
        have tH2 := tR.trans e1.t
        have hR2 := e1 _ _ hR
        have st2 := e1.seqT st
        rw [if_neg Bool.false_ne_true]
        refine ite2 (fun _ => ?_) (fun e => absurd (show inV (V.str "remove") [V.str "read", .str "remove", .str "splice", .str "move"] = true by decide +kernel) e)
        refine ⟨_, rfl, .inl ⟨rfl, _, sqL hR2⟩, _, rfl, by show 2 ≤ sizeLine; decide, fun t3 n3 => ?_⟩
        have e3 := same_upd (o := HO.tup [.str "read", .str p]) n3
        have k3 : SqT K (upd E1 t3 (.tup [.str "read", .str p])) t3 [.str "read", .str p] := sqT upd_same
        generalize upd E1 t3 (.tup [.str "read", .str p]) = E3 at e3 k3 ⊢
        have sH4 := sH2.trans e3
        have tH4 := tH2.trans e3.t
        have hR4 := e3 _ _ hR2
        have st4 := e3.seqT st2
        refine ⟨R, ws, _, rfl, rfl, hR4, by first | (simp only [List.length_append, List.length_singleton]; omega) | omega, ?_⟩
        have hR5 : upd E3 R (.lst (ws ++ [V.ref t3])) R = some (.lst (ws ++ [V.ref t3])) := upd_same
        have sH5 : Same H (upd E3 R (.lst (ws ++ [V.ref t3]))) := sH4.mut nR
        have pt5 : SameT E3 (upd E3 R (.lst (ws ++ [V.ref t3]))) := .put hR4 rfl
        generalize upd E3 R (.lst (ws ++ [V.ref t3])) = E5 at hR5 sH5 pt5 ⊢
        replace k3 := pt5.sq k3
        have tH5 := tH4.trans pt5
        have st5 := pt5.sq st4
        refine ⟨_, rfl, by show 4 ≤ sizeLine; decide, fun m6 nm6 => ?_⟩
        have e6 := same_upd (o := HO.tup [V.str "kind", .str "list", .str "count", .str "find"]) nm6
        refine ⟨m6, _, rfl, .inr (sqT upd_same), rfl, by decide, _, rfl, ?_⟩
        generalize upd E5 m6 (.tup [V.str "kind", .str "list", .str "count", .str "find"]) = E6 at e6 ⊢
        have sH7 := sH5.trans e6
        have tH7 := tH5.trans e6.t
        have hR7 := e6 _ _ hR5
        have st7 := e6.seqT st5
        replace k3 := e6.t.sq k3
        rw [if_neg Bool.false_ne_true]
        refine ite2 (fun e => absurd (show inV (V.str "remove") [V.str "kind", .str "list", .str "count", .str "find"] = true from e) (by decide +kernel)) (fun _ => ?_)
        refine ⟨_, rfl, rfl, _, rfl, ite2 (fun e => absurd (show decide (V.str "remove" = V.str "find") = true from e) (by decide +kernel)) (fun _ => ?_)⟩
        refine ⟨_, rfl, rfl, _, rfl, ite2 (fun e => absurd (show decide (V.str "remove" = V.str "write") = true from e) (by decide +kernel)) (fun _ => ?_)⟩
        refine ⟨_, rfl, rfl, _, rfl, ite2 (fun e => absurd (show decide (V.str "remove" = V.str "move") = true from e) (by decide +kernel)) (fun _ => ?_)⟩
        refine ⟨R, _, _, _, _, _, rfl, sH7, nR, hR7, ?_, by simp only [List.length_append, List.length_singleton, List.length_cons, List.length_nil]; omega⟩
        rw [fl]
        have p0 := pw.mono fun _ _ q => TxAt.st q tH7
        exact paired_app (p0) (.cons ⟨t3, rfl, k3⟩ .nil)
      | move x y =>
        cases er
        obtain ⟨y2, v3, rfl, dy, dr⟩ : ∃ y2 v3, v2 = y2 :: v3 ∧ Dt K H3 y2 (.str y) ∧ DtL K H3 v3 [] := by
          cases dl2 with
          | cons a b => exact ⟨_, _, rfl, a, b⟩
        obtain rfl := dy.strE
        refine ⟨_, rfl, by show 4 ≤ sizeLine; decide, fun m1 nm1 => ?_⟩
        have e1 := same_upd (o := HO.tup [V.str "read", .str "remove", .str "splice", .str "move"]) nm1
        refine ⟨m1, _, rfl, .inr (sqT upd_same), rfl, by decide, _, rfl, ?_⟩
        generalize upd H3 m1 (.tup [V.str "read", .str "remove", .str "splice", .str "move"]) = E1 at e1 ⊢
        have sH2 := s3.trans e1
        have tH2 := tR.trans e1.t
        have hR2 := e1 _ _ hR
        have st2 := e1.seqT st
        rw [if_neg Bool.false_ne_true]
        refine ite2 (fun _ => ?_) (fun e => absurd (show inV (V.str "move") [V.str "read", .str "remove", .str "splice", .str "move"] = true by decide +kernel) e)
        refine ⟨_, rfl, .inl ⟨rfl, _, sqL hR2⟩, _, rfl, by show 2 ≤ sizeLine; decide, fun t3 n3 => ?_⟩
        have e3 := same_upd (o := HO.tup [.str "read", .str p]) n3
        have k3 : SqT K (upd E1 t3 (.tup [.str "read", .str p])) t3 [.str "read", .str p] := sqT upd_same
        generalize upd E1 t3 (.tup [.str "read", .str p]) = E3 at e3 k3 ⊢
        have sH4 := sH2.trans e3
        have tH4 := tH2.trans e3.t
        have hR4 := e3 _ _ hR2
        have st4 := e3.seqT st2
        refine ⟨R, ws, _, rfl, rfl, hR4, by first | (simp only [List.length_append, List.length_singleton]; omega) | omega, ?_⟩
        have hR5 : upd E3 R (.lst (ws ++ [V.ref t3])) R = some (.lst (ws ++ [V.ref t3])) := upd_same
        have sH5 : Same H (upd E3 R (.lst (ws ++ [V.ref t3]))) := sH4.mut nR
        have pt5 : SameT E3 (upd E3 R (.lst (ws ++ [V.ref t3]))) := .put hR4 rfl
        generalize upd E3 R (.lst (ws ++ [V.ref t3])) = E5 at hR5 sH5 pt5 ⊢
        replace k3 := pt5.sq k3
        have tH5 := tH4.trans pt5
        have st5 := pt5.sq st4
        refine ⟨_, rfl, by show 4 ≤ sizeLine; decide, fun m6 nm6 => ?_⟩
        have e6 := same_upd (o := HO.tup [V.str "kind", .str "list", .str "count", .str "find"]) nm6
        refine ⟨m6, _, rfl, .inr (sqT upd_same), rfl, by decide, _, rfl, ?_⟩
        generalize upd E5 m6 (.tup [V.str "kind", .str "list", .str "count", .str "find"]) = E6 at e6 ⊢
        have sH7 := sH5.trans e6
        have tH7 := tH5.trans e6.t
        have hR7 := e6 _ _ hR5
        have st7 := e6.seqT st5
        replace k3 := e6.t.sq k3
        rw [if_neg Bool.false_ne_true]
        refine ite2 (fun e => absurd (show inV (V.str "move") [V.str "kind", .str "list", .str "count", .str "find"] = true from e) (by decide +kernel)) (fun _ => ?_)
        refine ⟨_, rfl, rfl, _, rfl, ite2 (fun e => absurd (show decide (V.str "move" = V.str "find") = true from e) (by decide +kernel)) (fun _ => ?_)⟩
        refine ⟨_, rfl, rfl, _, rfl, ite2 (fun e => absurd (show decide (V.str "move" = V.str "write") = true from e) (by decide +kernel)) (fun _ => ?_)⟩
        refine ⟨_, rfl, rfl, _, rfl, ite2 (fun _ => ?_) (fun e => absurd (decide_eq_true rfl) e)⟩
        refine ⟨_, rfl, ?_⟩
        refine ⟨_, rfl, t, _, 2, .str y, rfl, rfl, st7, at_of (j := 2) rfl rfl, by show 2 ≤ sizeLine; decide, fun t8 n8 => ?_⟩
        have e8 := same_upd (o := HO.tup [.str "under", .str y]) n8
        have k8 : SqT K (upd E6 t8 (.tup [.str "under", .str y])) t8 [.str "under", .str y] := sqT upd_same
        generalize upd E6 t8 (.tup [.str "under", .str y]) = E8 at e8 k8 ⊢
        replace k3 := e8.t.sq k3
        have sH9 := sH7.trans e8
        have tH9 := tH7.trans e8.t
        have hR9 := e8 _ _ hR7
        have st9 := e8.seqT st7
        refine ⟨_, rfl, t, _, 2, .str y, rfl, rfl, st9, at_of (j := 2) rfl rfl, by show 2 ≤ sizeLine; decide, fun t10 n10 => ?_⟩
        have e10 := same_upd (o := HO.tup [.str "above", .str y]) n10
        have k10 : SqT K (upd E8 t10 (.tup [.str "above", .str y])) t10 [.str "above", .str y] := sqT upd_same
        generalize upd E8 t10 (.tup [.str "above", .str y]) = E10 at e10 k10 ⊢
        replace k3 := e10.t.sq k3
        replace k8 := e10.t.sq k8
        have sH11 := sH9.trans e10
        have tH11 := tH9.trans e10.t
        have hR11 := e10 _ _ hR9
        have st11 := e10.seqT st9
        refine ⟨by show 2 ≤ sizeLine; decide, fun l12 nl12 => ?_⟩
        have e12 := same_upd (o := HO.lst [V.ref t8, V.ref t10]) nl12
        have hl12 : upd E10 l12 (.lst [V.ref t8, V.ref t10]) l12 = some (.lst [V.ref t8, V.ref t10]) := upd_same
        generalize upd E10 l12 (.lst [V.ref t8, V.ref t10]) = E12 at e12 hl12 ⊢
        replace k3 := e12.t.sq k3
        replace k8 := e12.t.sq k8
        replace k10 := e12.t.sq k10
        have sH13 := sH11.trans e12
        have tH13 := tH11.trans e12.t
        have hR13 := e12 _ _ hR11
        have st13 := e12.seqT st11
        refine ⟨R, l12, (ws ++ [V.ref t3]), _, rfl, rfl, hR13, hl12, by simp only [List.length_append, List.length_singleton, List.length_cons, List.length_nil]; omega, fun R14 nR14 => ?_⟩
        have e14 := same_upd (o := HO.lst ((ws ++ [V.ref t3]) ++ [V.ref t8, V.ref t10])) nR14
        have hR14 : upd E12 R14 (.lst ((ws ++ [V.ref t3]) ++ [V.ref t8, V.ref t10])) R14 = some (.lst ((ws ++ [V.ref t3]) ++ [V.ref t8, V.ref t10])) := upd_same
        have nRR14 := same_none sH13 nR14
        generalize upd E12 R14 (.lst ((ws ++ [V.ref t3]) ++ [V.ref t8, V.ref t10])) = E14 at e14 hR14 ⊢
        replace k3 := e14.t.sq k3
        replace k8 := e14.t.sq k8
        replace k10 := e14.t.sq k10
        have sH14 := sH13.trans e14
        have tH14 := tH13.trans e14.t
        have st14 := e14.seqT st13
        refine ⟨R14, _, _, _, _, _, rfl, sH14, nRR14, hR14, ?_, by simp only [List.length_append, List.length_singleton, List.length_cons, List.length_nil]; omega⟩
        rw [fl]
        have p0 := pw.mono fun _ _ q => TxAt.st q tH14
        have p1 : Paired (TxAt K E14) ((ws ++ [V.ref t3]) ++ [V.ref t8, V.ref t10]) (((js.take i).flatMap fun e => (feetA e.1).map Foot.txt) ++ [Foot.txt (.read p)] ++ [Foot.txt (.under y), Foot.txt (.above y)]) := paired_app (paired_app (p0) (.cons ⟨t3, rfl, k3⟩ .nil)) (.cons ⟨t8, rfl, k8⟩ (.cons ⟨t10, rfl, k10⟩ .nil))
        rw [List.append_assoc ((js.take i).flatMap fun e => (feetA e.1).map Foot.txt)] at p1
        exact p1
      | splice x oo nn =>
        cases er
        refine ⟨_, rfl, by show 4 ≤ sizeLine; decide, fun m1 nm1 => ?_⟩
        have e1 := same_upd (o := HO.tup [V.str "read", .str "remove", .str "splice", .str "move"]) nm1
        refine ⟨m1, _, rfl, .inr (sqT upd_same), rfl, by decide, _, rfl, ?_⟩
        generalize upd H3 m1 (.tup [V.str "read", .str "remove", .str "splice", .str "move"]) = E1 at e1 ⊢
        have sH2 := s3.trans e1
        have tH2 := tR.trans e1.t
        have hR2 := e1 _ _ hR
        have st2 := e1.seqT st
        rw [if_neg Bool.false_ne_true]
        refine ite2 (fun _ => ?_) (fun e => absurd (show inV (V.str "splice") [V.str "read", .str "remove", .str "splice", .str "move"] = true by decide +kernel) e)
        refine ⟨_, rfl, .inl ⟨rfl, _, sqL hR2⟩, _, rfl, by show 2 ≤ sizeLine; decide, fun t3 n3 => ?_⟩
        have e3 := same_upd (o := HO.tup [.str "read", .str p]) n3
        have k3 : SqT K (upd E1 t3 (.tup [.str "read", .str p])) t3 [.str "read", .str p] := sqT upd_same
        generalize upd E1 t3 (.tup [.str "read", .str p]) = E3 at e3 k3 ⊢
        have sH4 := sH2.trans e3
        have tH4 := tH2.trans e3.t
        have hR4 := e3 _ _ hR2
        have st4 := e3.seqT st2
        refine ⟨R, ws, _, rfl, rfl, hR4, by first | (simp only [List.length_append, List.length_singleton]; omega) | omega, ?_⟩
        have hR5 : upd E3 R (.lst (ws ++ [V.ref t3])) R = some (.lst (ws ++ [V.ref t3])) := upd_same
        have sH5 : Same H (upd E3 R (.lst (ws ++ [V.ref t3]))) := sH4.mut nR
        have pt5 : SameT E3 (upd E3 R (.lst (ws ++ [V.ref t3]))) := .put hR4 rfl
        generalize upd E3 R (.lst (ws ++ [V.ref t3])) = E5 at hR5 sH5 pt5 ⊢
        replace k3 := pt5.sq k3
        have tH5 := tH4.trans pt5
        have st5 := pt5.sq st4
        refine ⟨_, rfl, by show 4 ≤ sizeLine; decide, fun m6 nm6 => ?_⟩
        have e6 := same_upd (o := HO.tup [V.str "kind", .str "list", .str "count", .str "find"]) nm6
        refine ⟨m6, _, rfl, .inr (sqT upd_same), rfl, by decide, _, rfl, ?_⟩
        generalize upd E5 m6 (.tup [V.str "kind", .str "list", .str "count", .str "find"]) = E6 at e6 ⊢
        have sH7 := sH5.trans e6
        have tH7 := tH5.trans e6.t
        have hR7 := e6 _ _ hR5
        have st7 := e6.seqT st5
        replace k3 := e6.t.sq k3
        rw [if_neg Bool.false_ne_true]
        refine ite2 (fun e => absurd (show inV (V.str "splice") [V.str "kind", .str "list", .str "count", .str "find"] = true from e) (by decide +kernel)) (fun _ => ?_)
        refine ⟨_, rfl, rfl, _, rfl, ite2 (fun e => absurd (show decide (V.str "splice" = V.str "find") = true from e) (by decide +kernel)) (fun _ => ?_)⟩
        refine ⟨_, rfl, rfl, _, rfl, ite2 (fun e => absurd (show decide (V.str "splice" = V.str "write") = true from e) (by decide +kernel)) (fun _ => ?_)⟩
        refine ⟨_, rfl, rfl, _, rfl, ite2 (fun e => absurd (show decide (V.str "splice" = V.str "move") = true from e) (by decide +kernel)) (fun _ => ?_)⟩
        refine ⟨R, _, _, _, _, _, rfl, sH7, nR, hR7, ?_, by simp only [List.length_append, List.length_singleton, List.length_cons, List.length_nil]; omega⟩
        rw [fl]
        have p0 := pw.mono fun _ _ q => TxAt.st q tH7
        exact paired_app (p0) (.cons ⟨t3, rfl, k3⟩ .nil)
    · rintro σ H3 ⟨R, ws, o2, o3, o4, o5, rfl, s3, nR, hR, pw, few⟩
      rw [lu, List.take_length] at pw
      rw [lu] at few
      refine ⟨by show 0 ≤ sizeLine; decide, fun F0 nF => ?_⟩
      have s4 := same_upd (o := HO.lst []) nF
      have hF : upd H3 F0 (.lst []) F0 = some (.lst []) := upd_same
      have hR4 := s4 _ _ hR
      have nF0 := same_none s3 nF
      have s04 := s3.trans s4
      generalize upd H3 F0 (.lst []) = H4 at s4 hF hR4 s04 ⊢
      refine ⟨_, rfl, R, ws, _, rfl, sqL hR4, pw.mono (fun _ _ q => TxAt.st q s4.t), fun l hl => ?_, fun p ys ms np pr pm pws => ?_⟩
      · obtain ⟨e, _, h⟩ := List.mem_flatMap.mp hl
        obtain ⟨ft, _, rfl⟩ := List.mem_map.mp h
        exact foot_ne ft
      have s5 := same_upd (o := HO.lst ys) np
      have hS : upd H4 p (.lst ys) p = some (.lst ys) := upd_same
      have hF5 := s5 _ _ hF
      have pF : p ≠ F0 := fun z => by rw [z, hF] at np; cases np
      have s05 := s04.trans s5
      have nS0 := same_none s04 np
      generalize upd H4 p (.lst ys) = H5 at s5 hS hF5 s05 pr ⊢
      have okm : ∀ m ∈ ms, okTx m := fun m hm => by
        obtain ⟨e, he, h⟩ := List.mem_flatMap.mp (pm.mem_iff.mp hm)
        obtain ⟨ft, hft, rfl⟩ := List.mem_map.mp h
        exact oks e he ft hft
      have ly : ys.length = ms.length := paired_len pr
      have lm : ys.length ≤ 60 := by rw [ly, pm.length_eq, ← paired_len pw]; omega
      refine ⟨p, rfl, ⟨_, sqL hS⟩, ?_⟩
      refine for_list (K := K) (xs := ys) (fun i σ H' => ∃ (o7 : Option V) (zs : List V) (ds : List (List Str)), σ = [some (.ref tj), some (.ref R), o2, o3, o4, o5, some (.ref F0), o7] ∧ Same H H' ∧ H' p = some (.lst ys) ∧ H' F0 = some (.lst zs) ∧ SameT H5 H' ∧ Paired (TxAt K H') zs ds ∧ ds.Pairwise leL ∧ ds.Nodup ∧ (∀ l, l ∈ ds ↔ l ∈ ms.take i) ∧ ds.length ≤ i)
        ⟨none, [], [], rfl, s05, hS, hF5, .refl _, .nil, .nil, List.nodup_nil, fun l => by simp, by simp⟩ (fun i σ H' _ ⟨_, _, _, _, _, h, _⟩ => sqL h) ?_ ?_
      · rintro i c σ H6 hc ⟨o7, zs, ds, rfl, s6, hS6, hF6, t6, pz, dw, dn, dm, dl⟩
        have hi : i < ys.length := (List.getElem?_eq_some_iff.mp hc).1
        obtain ⟨m, hm, tx⟩ := paired_get pr i c hc
        have tx6 := tx.st t6
        have mm := List.mem_of_getElem? hm
        have dsub : ∀ d ∈ ds, d ∈ ms := fun d hd => List.mem_of_mem_take ((dm d).mp hd)
        have lz : zs.length = ds.length := paired_len pz
        have tk : ms.take (i + 1) = ms.take i ++ [m] := by rw [List.take_add_one, hm]; rfl
        refine ⟨_, rfl, _, rfl, fT m, ds.map fT, tx6.dp, .lst (sqL hF6) (dps_of pz), (pl_fT (okm m mm)).shaped (by decide), shp_rows (fun d hd => okm d (dsub d hd)) (by omega), _, rfl, ?_⟩
        rw [any_fT]
        refine ite2 (fun e => ?_) (fun e => ?_)
        · have nm : m ∉ ds := by simpa using e
          refine ⟨_, rfl, .inl ⟨rfl, _, sqL hF6⟩, _, rfl, F0, zs, _, rfl, rfl, hF6, Nat.lt_of_le_of_lt (show _ ≤ 100 by omega) (by decide), ?_⟩
          have st : SameT H6 (upd H6 F0 (.lst (zs ++ [c]))) := .put hF6 rfl
          refine ⟨_, zs ++ [c], ds ++ [m], rfl, s6.mut nF0, by rw [upd_ne pF]; exact hS6, upd_same, t6.trans st, Paired.snoc (pz.mono fun _ _ q => TxAt.st q st) (tx6.st st), ?_, ?_, fun l => ?_, by rw [List.length_append, List.length_singleton]; omega⟩
          · refine List.pairwise_append.mpr ⟨dw, List.pairwise_singleton _ _, fun d hd y hy => ?_⟩
            rw [List.mem_singleton.mp hy]
            obtain ⟨j, hj⟩ := List.getElem?_of_mem ((dm d).mp hd)
            have hji : j < i := by
              have := (List.getElem?_eq_some_iff.mp hj).1
              rw [List.length_take] at this
              omega
            rw [List.getElem?_take_of_lt hji] at hj
            obtain ⟨h1, e1⟩ := List.getElem?_eq_some_iff.mp hj
            obtain ⟨h2, e2⟩ := List.getElem?_eq_some_iff.mp hm
            have := List.pairwise_iff_getElem.mp pws j i h1 h2 hji
            rw [e1, e2] at this
            exact this
          · rw [List.nodup_append]
            exact ⟨dn, by simp, fun d hd y hy => by rw [List.mem_singleton.mp hy]; exact fun z => nm (z ▸ hd)⟩
          · rw [tk, List.mem_append, List.mem_append, dm]
        · have im : m ∈ ds := by simpa using e
          refine ⟨_, zs, ds, rfl, s6, hS6, hF6, t6, pz, dw, dn, fun l => ?_, by omega⟩
          rw [tk, List.mem_append, List.mem_singleton, dm]
          exact ⟨.inl, fun h => h.elim id fun z => by rw [z]; exact (dm m).mp im⟩
      · rintro σ H6 ⟨o7, zs, ds, rfl, s6, hS6, hF6, t6, pz, dw, dn, dm, dl⟩
        rw [ly, List.take_length] at dm
        refine ⟨_, rfl, F0, zs, rfl, .inl ⟨sqL hF6, fun r nr => ?_⟩⟩
        have sr := same_upd (o := HO.tup zs) nr
        exact q _ r zs ds (s6.trans sr) (sqT upd_same) (pz.mono fun _ _ q => TxAt.st q sr.t) ⟨dw, dn, fun l => by rw [dm, pm.mem_iff]⟩
end
end KX

set_option maxRecDepth 100000
set_option maxHeartbeats 2000000
/-! Fd: the law's stand. -/
namespace KX
open PySem PySem.Spec PyProof.Rows L2 TL Ga NdefX StX
theorem pth_sh {z : Str} (h : z ∈ lawPaths) : (tl z).length ≤ 1000 := Nat.le_trans (pth h).text.1 (by decide)
def nmsF (fs : List File) : List Str := (srtF fs).map (·.1)
def footL (fs : List File) : Foot → PyData
  | .read p => askM fs (.read p)
  | .find p z => askM fs (.find p z)
  | .under p => dL ((nmsF fs).filter fun z => decide (z = p) || inside z p)
  | .above p => dL ((nmsF fs).filter fun z => inside p z)
  | .total => .int (fs.length : Nat)
def spLStand (K : PySem.W.Frag) : Sp := fun vs H Q _ => ∃ (t d : Addr) (ys : List V) (ft : List Foot) (fs : List File), vs = [.ref t, .ref d] ∧ SqT K H t ys ∧ Paired (fun y (f : Foot) => TxAt K H y f.txt) ys ft ∧ ft.length ≤ 100 ∧ (∀ f ∈ ft, LawFt f) ∧ Tab K H d fs ∧ LawF fs ∧
  ∀ H' r us, Same H H' → SqT K H' r us → Paired (fun u (f : Foot) => Dt K H' u (footL fs f)) us ft → Q (.ref r) H'
section
variable {P : Program} {w : World} {K : PySem.W.Frag} {mg : Str → Option Value} {base : Heap} {C : Addr}
theorem ok_lstand {f : Addr} {fd : FuncData} (F : Fun K "_law_stand" "_law_stand" s_L_stand f fd) (T : Tx mg) (H_law_asked : Cal P w K mg base 3 "_law_asked" ["files", "action"] (spAsked K)) (H_law_inside : Cal P w K mg base 1 "_law_inside" ["path", "place"] spInside) : FnOk P w K mg base CX0 4 f fd ["rows", "files"] (spLStand K) := by
  refine F.ok sc_L_stand (fun vs H Q E h => ?_) (fun cdv A outer s H vs Q E hr h => ?_)
  · obtain ⟨t, d, ys, ft, fs, rfl, _⟩ := h
    rfl
  · obtain ⟨t, d, ys, ft, fs, rfl, qt, pr, hz, lft, tb, lf, q⟩ := h
    refine ⟨_, pss_cons (ps_set (i := 2) sc_L_stand.nd rfl (.inl rfl) (pe_lst pa_nil))
      (pss_cons (ps_for PassesOwn.never rfl (piT (K := K) rfl (pv 0)) (pg_name (i := 3) sc_L_stand.nd rfl (Or.inr rfl))
      (pss_one (ps_if (pt_cmpR op_in_seq (pe_ix (ixT (K := K) rfl) (pv 3) pe_int (fun _ _ => rfl)) (pe_tup (pa_consts (vs := [V.str "read", .str "find"]) rfl)) (by rfl)) (pss_one (ps_expr (pe_bm PySem.F.plainAttrs_list PySem.F.slot_list_append PySem.F.type_list_append mt_append (pv 2) (pa_cons (pe_cal H_law_asked hr pass0 (pa_cons (pv 1) (pa_cons (pv 3) pa_nil))) pa_nil))))
        (pss_one (ps_if (pt_cmpR op_eq (pe_ix (ixT (K := K) rfl) (pv 3) pe_int (fun _ _ => rfl)) pe_str (nomark _)) (pss_one (ps_expr (pe_bm PySem.F.plainAttrs_list PySem.F.slot_list_append PySem.F.type_list_append mt_append (pv 2) (pa_cons (pe_callTy (callTup (K := K) rfl) (by rfl) T.tuple (by decide +kernel) (pa_cons (pe_lc (own := [("path", 4)]) rfl sc_L_stand.nd (piL (K := K) rfl (pe_callB (call_sortedD rfl) (by rfl) T.sorted (by decide +kernel) (pa_cons (pv 1) pa_nil))) (blkOk_by (N := n_L_stand) (sc := defScope s_L_stand) (by decide +kernel)) (fun _ _ _ _ _ => pg_name (i := 4) sc_L_stand.nd rfl (Or.inl rfl)) (fun _ _ _ _ _ => pts_one (PW.pt (pw_or (pt_cmpR op_eq (pv 4) (pe_ix (ixT (K := K) rfl) (pv 3) pe_int (fun _ _ => rfl)) (nomark _)) (pw_or1 (pt_val (pe_cal H_law_inside hr pass0 (pa_cons (pv 4) (pa_cons (pe_ix (ixT (K := K) rfl) (pv 3) pe_int (fun _ _ => rfl)) pa_nil)))))))) (fun _ _ _ _ _ => (pv 4))) pa_nil)) pa_nil))))
        (pss_one (ps_if (pt_cmpR op_eq (pe_ix (ixT (K := K) rfl) (pv 3) pe_int (fun _ _ => rfl)) pe_str (nomark _)) (pss_one (ps_expr (pe_bm PySem.F.plainAttrs_list PySem.F.slot_list_append PySem.F.type_list_append mt_append (pv 2) (pa_cons (pe_callTy (callTup (K := K) rfl) (by rfl) T.tuple (by decide +kernel) (pa_cons (pe_lc (own := [("path", 4)]) rfl sc_L_stand.nd (piL (K := K) rfl (pe_callB (call_sortedD rfl) (by rfl) T.sorted (by decide +kernel) (pa_cons (pv 1) pa_nil))) (blkOk_by (N := n_L_stand) (sc := defScope s_L_stand) (by decide +kernel)) (fun _ _ _ _ _ => pg_name (i := 4) sc_L_stand.nd rfl (Or.inl rfl)) (fun _ _ _ _ _ => pts_one (pt_val (pe_cal H_law_inside hr pass0 (pa_cons (pe_ix (ixT (K := K) rfl) (pv 3) pe_int (fun _ _ => rfl)) (pa_cons (pv 4) pa_nil))))) (fun _ _ _ _ _ => (pv 4))) pa_nil)) pa_nil))))
        (pss_one (ps_expr (pe_bm PySem.F.plainAttrs_list PySem.F.slot_list_append PySem.F.type_list_append mt_append (pv 2) (pa_cons (pe_callB call_lenD (by rfl) T.len PySem.boot_len (pa_cons (pv 1) pa_nil)) pa_nil)))))))))))
      (pss_one (ps_ret (pe_callTy (callTup (K := K) rfl) (by rfl) T.tuple (by decide +kernel) (pa_cons (pv 2) pa_nil))))), ?_⟩
    have lu : ys.length = ft.length := paired_len pr
    refine ⟨by show 0 ≤ sizeLine; decide, fun R nR => ?_⟩
    have s0 := same_upd (o := HO.lst []) nR
    have h0 : upd H R (.lst []) R = some (.lst []) := upd_same
    generalize upd H R (.lst []) = H0 at s0 h0 ⊢
    refine ⟨_, rfl, t, rfl, ⟨_, s0.seqT qt⟩, ?_⟩
    refine for_tup (K := K) (xs := ys) (fun i σ H' => ∃ (ws : List V) (o3 : Option V), σ = [some (.ref t), some (.ref d), some (.ref R), o3, none] ∧ Same H H' ∧ H' R = some (.lst ws) ∧ Paired (fun u (f : Foot) => Dt K H' u (footL fs f)) ws (ft.take i))
      ⟨[], none, rfl, s0, h0, .nil⟩ (fun i σ H' _ ⟨_, _, _, h, _⟩ => h.seqT qt) ?_ ?_
    · rintro i c σ H3 hc ⟨ws, o3, rfl, s3, hR, pw⟩
      obtain ⟨f, hf, tx0⟩ := paired_get pr i c hc
      have hi : i < ys.length := (List.getElem?_eq_some_iff.mp hc).1
      have lw : ws.length = i := by rw [paired_len pw, List.length_take]; omega
      have lF := lft f (List.mem_of_getElem? hf)
      have tx := tx0.st s3.t
      have tk : ft.take (i + 1) = ft.take i ++ [f] := by rw [List.take_add_one, hf]; rfl
      have lt : ws.length < sizeLine := Nat.lt_of_le_of_lt (show _ ≤ 100 by omega) (by decide)
      have tb3 := tb.same s3
      -- one more
      have fin : ∀ (H5 : Hp) (u : V), Same H3 H5 → Dt K H5 u (footL fs f) → H5 R = some (.lst ws) ∧ Same H (upd H5 R (.lst (ws ++ [u]))) ∧ upd H5 R (.lst (ws ++ [u])) R = some (.lst (ws ++ [u])) ∧ Paired (fun u' (f' : Foot) => Dt K (upd H5 R (.lst (ws ++ [u]))) u' (footL fs f')) (ws ++ [u]) (ft.take (i + 1)) := fun H5 u s5 du => by
        have e5 := s5 _ _ hR
        have st : SameT H5 (upd H5 R (.lst (ws ++ [u]))) := .put e5 rfl
        exact ⟨e5, (s3.trans s5).mut nR, upd_same, by rw [tk]; exact Paired.snoc (pw.mono fun _ _ q => Dt.st (s5.t.trans st) q) (du.st st)⟩
      obtain ⟨tf, rfl, qf⟩ := id tx
      cases f with
      | read x =>
        have qf : SqT K H3 tf [.str "read", .str x] := qf
        refine ⟨_, rfl, tf, _, 0, .str "read", rfl, rfl, qf, at_of (j := 0) rfl rfl, by show 2 ≤ sizeLine; decide, fun m nm => ?_⟩
        have e1 := same_upd (o := HO.tup [V.str "read", .str "find"]) nm
        refine ⟨m, _, rfl, .inr (sqT upd_same), rfl, by decide, _, rfl, ?_⟩
        generalize upd H3 m (.tup [V.str "read", .str "find"]) = H4 at e1 ⊢
        rw [if_neg Bool.false_ne_true]
        refine ite2 (fun _ => ?_) (fun e => absurd (show inV (V.str "read") [V.str "read", .str "find"] = true by decide +kernel) e)
        have lq : LawQ (.read x) := lF
        refine ⟨_, rfl, .inl ⟨rfl, _, sqL (e1 _ _ hR)⟩, _, rfl, _, rfl, d, .ref tf, .read x, fs, rfl, tb3.same e1, lf, tx_dt (tx.st e1.t), lq, fun H5 u s5 du => ?_⟩
        obtain ⟨f1, f2, f3, f4⟩ := fin H5 u (e1.trans s5) du
        refine ⟨R, ws, _, rfl, rfl, f1, lt, ?_⟩
        exact ⟨_, _, rfl, f2, f3, f4⟩
      | find x y =>
        have qf : SqT K H3 tf [.str "find", .str x, .str y] := qf
        refine ⟨_, rfl, tf, _, 0, .str "find", rfl, rfl, qf, at_of (j := 0) rfl rfl, by show 2 ≤ sizeLine; decide, fun m nm => ?_⟩
        have e1 := same_upd (o := HO.tup [V.str "read", .str "find"]) nm
        refine ⟨m, _, rfl, .inr (sqT upd_same), rfl, by decide, _, rfl, ?_⟩
        generalize upd H3 m (.tup [V.str "read", .str "find"]) = H4 at e1 ⊢
        rw [if_neg Bool.false_ne_true]
        refine ite2 (fun _ => ?_) (fun e => absurd (show inV (V.str "find") [V.str "read", .str "find"] = true by decide +kernel) e)
        have lq : LawQ (.find x y) := lF
        refine ⟨_, rfl, .inl ⟨rfl, _, sqL (e1 _ _ hR)⟩, _, rfl, _, rfl, d, .ref tf, .find x y, fs, rfl, tb3.same e1, lf, tx_dt (tx.st e1.t), lq, fun H5 u s5 du => ?_⟩
        obtain ⟨f1, f2, f3, f4⟩ := fin H5 u (e1.trans s5) du
        refine ⟨R, ws, _, rfl, rfl, f1, lt, ?_⟩
        exact ⟨_, _, rfl, f2, f3, f4⟩
      | under x =>
        have qf : SqT K H3 tf [.str "under", .str x] := qf
        refine ⟨_, rfl, tf, _, 0, .str "under", rfl, rfl, qf, at_of (j := 0) rfl rfl, by show 2 ≤ sizeLine; decide, fun m nm => ?_⟩
        have e1 := same_upd (o := HO.tup [V.str "read", .str "find"]) nm
        refine ⟨m, _, rfl, .inr (sqT upd_same), rfl, by decide, _, rfl, ?_⟩
        generalize upd H3 m (.tup [V.str "read", .str "find"]) = H4 at e1 ⊢
        rw [if_neg Bool.false_ne_true]
        refine ite2 (fun e => absurd (show inV (V.str "under") [V.str "read", .str "find"] = true from e) (by decide +kernel)) (fun _ => ?_)
        have qf4 := e1.seqT qf
        refine ⟨_, rfl, tf, _, 0, .str "under", rfl, rfl, qf4, at_of (j := 0) rfl rfl, rfl, _, rfl, ite2 (fun _ => ?_) (fun e => absurd (decide_eq_true rfl) e)⟩
        have tb4 := tb3.same e1
        obtain ⟨kvs, hd, pkv, nd, hl⟩ := id tb4
        refine ⟨_, rfl, .inl ⟨rfl, _, sqL (e1 _ _ hR)⟩, _, rfl, d, kvs, fs.map (·.1), rfl, .inl hd, keys_of pkv, by rw [List.length_map]; omega, fun zs l perm srt nl => ?_⟩
        have ey := sorted_is perm srt
        subst ey
        have s5 : Same H4 (upd H4 l (.lst (((srtF fs).map (·.1)).map V.str))) := same_upd nl
        have q5 : SqL K (upd H4 l (.lst (((srtF fs).map (·.1)).map V.str))) l (((srtF fs).map (·.1)).map V.str) := sqL upd_same
        generalize upd H4 l (.lst (((srtF fs).map (·.1)).map V.str)) = H5 at s5 q5 ⊢
        refine ⟨l, rfl, ⟨_, q5⟩, fun D nD => ?_⟩
        refine lc_rel (R := fun _ (z : Str) y => y = V.str z) (as := nmsF fs) (p := fun z => decide (z = x) || inside z x) nD (same_walkL q5) (by rw [List.length_map]; rfl) (by rw [List.length_map, List.length_map, srtF_len]; omega) (fun _ h => h) (fun j c2 z hc2 hz2 H6 Rk Rn s6 k1 k2 => ?_) fun H6 us s6 e6 pr6 => ?_
        · have ec : c2 = V.str z := by
            rw [List.getElem?_map] at hc2
            have hz3 : ((srtF fs).map (·.1))[j]? = some z := hz2
            rw [hz3] at hc2
            exact (Option.some.inj hc2).symm
          subst ec
          obtain ⟨g, hg, rfl⟩ := List.mem_map.mp (List.mem_of_getElem? (show ((srtF fs).map (·.1))[j]? = some z from hz2))
          have lz := pth_sh (lf.each g ((srtF_perm fs).mem_iff.mp hg)).1
          have lx : (tl x).length ≤ 1000 := Nat.le_trans (show okText 20 x from lF).1 (by decide)
          have q6 := (s5.trans s6).seqT qf4
          refine ⟨by rfl, _, rfl, _, rfl, tf, _, 1, .str x, rfl, rfl, q6, at_of (j := 1) rfl rfl, rfl, _, rfl, ?_⟩
          rw [str_eq]
          refine ite2 (fun e => ?_) (fun e => ?_)
          · have e : decide (g.1 = x) = true := e
            refine iteT ?_
            exact ⟨_, rfl, k1 _ _ (by rw [e]; rfl) (.refl _) rfl⟩
          · have e : decide (g.1 = x) = false := by simpa using e
            refine ⟨_, rfl, _, rfl, tf, _, 1, .str x, rfl, rfl, q6, at_of (j := 1) rfl rfl, g.1, x, rfl, lz, lx, fun H7 s7 => ⟨_, rfl, ite2 (fun e2 => ?_) (fun e2 => ?_)⟩⟩
            · exact ⟨_, rfl, k1 _ _ (by rw [e2, Bool.or_true]) s7 rfl⟩
            · exact k2 _ (by rw [e]; simpa using e2) s7
        · have eys := Ga.paired_map (f := fun z : Str => V.str z) pr6
          refine ⟨D, us, rfl, .inl ⟨sqL e6, fun r nr => ?_⟩⟩
          have sr := same_upd (o := HO.tup us) nr
          have qr : SqT K (upd H6 r (.tup us)) r us := sqT upd_same
          generalize upd H6 r (.tup us) = H7 at sr qr ⊢
          obtain ⟨f1, f2, f3, f4⟩ := fin H7 (.ref r) (e1.trans (s5.trans (s6.trans sr))) (dt_lines.mpr ⟨r, rfl, by rw [eys] at qr; exact qr⟩)
          refine ⟨R, ws, _, rfl, rfl, f1, lt, ?_⟩
          exact ⟨_, _, rfl, f2, f3, f4⟩
      | above x =>
        have qf : SqT K H3 tf [.str "above", .str x] := qf
        refine ⟨_, rfl, tf, _, 0, .str "above", rfl, rfl, qf, at_of (j := 0) rfl rfl, by show 2 ≤ sizeLine; decide, fun m nm => ?_⟩
        have e1 := same_upd (o := HO.tup [V.str "read", .str "find"]) nm
        refine ⟨m, _, rfl, .inr (sqT upd_same), rfl, by decide, _, rfl, ?_⟩
        generalize upd H3 m (.tup [V.str "read", .str "find"]) = H4 at e1 ⊢
        rw [if_neg Bool.false_ne_true]
        refine ite2 (fun e => absurd (show inV (V.str "above") [V.str "read", .str "find"] = true from e) (by decide +kernel)) (fun _ => ?_)
        have qf4 := e1.seqT qf
        refine ⟨_, rfl, tf, _, 0, .str "above", rfl, rfl, qf4, at_of (j := 0) rfl rfl, rfl, _, rfl, ite2 (fun e => absurd (show decide (V.str "above" = V.str "under") = true from e) (by decide +kernel)) (fun _ => ?_)⟩
        refine ⟨_, rfl, tf, _, 0, .str "above", rfl, rfl, qf4, at_of (j := 0) rfl rfl, rfl, _, rfl, ite2 (fun _ => ?_) (fun e => absurd (decide_eq_true rfl) e)⟩
        have tb4 := tb3.same e1
        obtain ⟨kvs, hd, pkv, nd, hl⟩ := id tb4
        refine ⟨_, rfl, .inl ⟨rfl, _, sqL (e1 _ _ hR)⟩, _, rfl, d, kvs, fs.map (·.1), rfl, .inl hd, keys_of pkv, by rw [List.length_map]; omega, fun zs l perm srt nl => ?_⟩
        have ey := sorted_is perm srt
        subst ey
        have s5 : Same H4 (upd H4 l (.lst (((srtF fs).map (·.1)).map V.str))) := same_upd nl
        have q5 : SqL K (upd H4 l (.lst (((srtF fs).map (·.1)).map V.str))) l (((srtF fs).map (·.1)).map V.str) := sqL upd_same
        generalize upd H4 l (.lst (((srtF fs).map (·.1)).map V.str)) = H5 at s5 q5 ⊢
        refine ⟨l, rfl, ⟨_, q5⟩, fun D nD => ?_⟩
        refine lc_rel (R := fun _ (z : Str) y => y = V.str z) (as := nmsF fs) (p := fun z => inside x z) nD (same_walkL q5) (by rw [List.length_map]; rfl) (by rw [List.length_map, List.length_map, srtF_len]; omega) (fun _ h => h) (fun j c2 z hc2 hz2 H6 Rk Rn s6 k1 k2 => ?_) fun H6 us s6 e6 pr6 => ?_
        · have ec : c2 = V.str z := by
            rw [List.getElem?_map] at hc2
            have hz3 : ((srtF fs).map (·.1))[j]? = some z := hz2
            rw [hz3] at hc2
            exact (Option.some.inj hc2).symm
          subst ec
          obtain ⟨g, hg, rfl⟩ := List.mem_map.mp (List.mem_of_getElem? (show ((srtF fs).map (·.1))[j]? = some z from hz2))
          have lz := pth_sh (lf.each g ((srtF_perm fs).mem_iff.mp hg)).1
          have lx : (tl x).length ≤ 1000 := Nat.le_trans (show okText 20 x from lF).1 (by decide)
          have q6 := (s5.trans s6).seqT qf4
          refine ⟨by rfl, _, rfl, tf, _, 1, .str x, rfl, rfl, q6, at_of (j := 1) rfl rfl, _, rfl, x, g.1, rfl, lx, lz, fun H7 s7 => ⟨_, rfl, ite2 (fun e2 => ?_) (fun e2 => ?_)⟩⟩
          · exact ⟨_, rfl, k1 _ _ e2 s7 rfl⟩
          · exact k2 _ (by simpa using e2) s7
        · have eys := Ga.paired_map (f := fun z : Str => V.str z) pr6
          refine ⟨D, us, rfl, .inl ⟨sqL e6, fun r nr => ?_⟩⟩
          have sr := same_upd (o := HO.tup us) nr
          have qr : SqT K (upd H6 r (.tup us)) r us := sqT upd_same
          generalize upd H6 r (.tup us) = H7 at sr qr ⊢
          obtain ⟨f1, f2, f3, f4⟩ := fin H7 (.ref r) (e1.trans (s5.trans (s6.trans sr))) (dt_lines.mpr ⟨r, rfl, by rw [eys] at qr; exact qr⟩)
          refine ⟨R, ws, _, rfl, rfl, f1, lt, ?_⟩
          exact ⟨_, _, rfl, f2, f3, f4⟩
      | total =>
        have qf : SqT K H3 tf [.str "total"] := qf
        refine ⟨_, rfl, tf, _, 0, .str "total", rfl, rfl, qf, at_of (j := 0) rfl rfl, by show 2 ≤ sizeLine; decide, fun m nm => ?_⟩
        have e1 := same_upd (o := HO.tup [V.str "read", .str "find"]) nm
        refine ⟨m, _, rfl, .inr (sqT upd_same), rfl, by decide, _, rfl, ?_⟩
        generalize upd H3 m (.tup [V.str "read", .str "find"]) = H4 at e1 ⊢
        rw [if_neg Bool.false_ne_true]
        refine ite2 (fun e => absurd (show inV (V.str "total") [V.str "read", .str "find"] = true from e) (by decide +kernel)) (fun _ => ?_)
        have qf4 := e1.seqT qf
        refine ⟨_, rfl, tf, _, 0, .str "total", rfl, rfl, qf4, at_of (j := 0) rfl rfl, rfl, _, rfl, ite2 (fun e => absurd (show decide (V.str "total" = V.str "under") = true from e) (by decide +kernel)) (fun _ => ?_)⟩
        refine ⟨_, rfl, tf, _, 0, .str "total", rfl, rfl, qf4, at_of (j := 0) rfl rfl, rfl, _, rfl, ite2 (fun e => absurd (show decide (V.str "total" = V.str "above") = true from e) (by decide +kernel)) (fun _ => ?_)⟩
        have tb4 := tb3.same e1
        obtain ⟨kvs, hd, pkv, nd, hl⟩ := id tb4
        refine ⟨_, rfl, .inl ⟨rfl, _, sqL (e1 _ _ hR)⟩, _, rfl, d, kvs, rfl, hd, ?_⟩
        obtain ⟨f1, f2, f3, f4⟩ := fin H4 (.int (kvs.length : Nat)) e1 (by have lk := paired_len pkv; show Dt K H4 (.int (kvs.length : Nat)) (.int (fs.length : Nat)); rw [lk]; exact .int _)
        refine ⟨R, ws, _, rfl, rfl, f1, lt, ?_⟩
        exact ⟨_, _, rfl, f2, f3, f4⟩
    · rintro σ H3 ⟨ws, o3, rfl, s3, hR, pw⟩
      rw [lu, List.take_length] at pw
      refine ⟨_, rfl, R, ws, rfl, .inl ⟨sqL hR, fun r nr => ?_⟩⟩
      have sr := same_upd (o := HO.tup ws) nr
      exact q _ r ws (s3.trans sr) (sqT upd_same) (pw.mono fun _ _ q => Dt.st sr.t q)
end
end KX

set_option maxRecDepth 100000
set_option maxHeartbeats 1000000
/-! Xe: [e for k in range(n)], e drawn out of the box, any data. -/
namespace Ga
open PySem PySem.Spec PyProof.Rows L2 TL
section
variable {K : PySem.W.Frag} {σ : L2.St} {H : Hp} {Q : VK} {B Dg : Addr} {te : TE}
theorem lc_rng_boxR {α : Type} {n i : Nat} {R : Hp → V → α → Prop} {ok : α → Prop} {Qd : Hp → Prop} {D : Addr} (hs : ∀ {H1 H2 : Hp} {v : V} {a : α}, R H1 v a → SameT H1 H2 → R H2 v a) (nD : H D = none) (bx : Box H B Dg) (hz : n ≤ 100000)
    (he : ∀ (m : Nat) (H2 : Hp) (Q2 : VK), m < n → Box H2 B Dg → Kp B H H2 → (∀ v a H3, R H3 v a → ok a → Kp B H2 H3 → Box H3 B Dg → Q2 v H3) → te ((wipe σ [i]).set i (some (.int (0 + m)))) H2 Q2)
    (hq : ∀ H' vs as, Kp B H H' → Box H' B Dg → H' D = some (.lst vs) → Paired (R H') vs as → as.length = n → (∀ a ∈ as, ok a) → Qd H') :
    ∃ W : Nat → Nat → Hp → Prop, (∃ m, W 0 m (upd H D (.lst []))) ∧ ∀ i' m H', W i' m H' →
      ((Itr 0 n).stop i' H' ∧ Qd H') ∨ ((Itr 0 n).go i' H' ∧ ∃ Nx : Hp → Prop, (∀ H', Nx H' → ∃ m', m' < m ∧ W (i' + 1) m' H') ∧ ∀ x H2, (Itr 0 n).yld i' H' x H2 → gName i x (wipe σ [i]) H2 fun σ2 H2 => wipe σ2 [i] = wipe σ [i] ∧ tYes σ2 H2 fun b H3 =>
        if b = true then te σ2 H3 fun y H4 => ∃ acc, H4 D = some (.lst acc) ∧ acc.length < sizeLine ∧ Nx (upd H4 D (.lst (acc ++ [y]))) else Nx H3) := by
  have neD : D ≠ B := bx.ne nD
  refine lc_it (walk_range (lo := 0) (n := n)) (fun m H' => Kp B H H' ∧ Box H' B Dg ∧ ∃ vs as, H' D = some (.lst vs) ∧ Paired (R H') vs as ∧ as.length = m ∧ ∀ a ∈ as, ok a)
    ⟨fun b o _ e => same_upd nD b o e, bx.new nD, [], [], upd_same, .nil, rfl, fun _ h => nomatch h⟩ (fun _ _ _ _ => trivial) ?_ ?_
  · rintro m x H2 H3 hm ⟨kp, b2, vs, as, hD, hp, hl, hR⟩ ⟨rfl, rfl⟩
    refine ⟨wipe_set _ _ _, ?_⟩
    dsimp only [tYes]
    rw [if_pos rfl]
    refine he m H3 _ hm b2 kp fun v a H4 rv oa kp4 b4 => ?_
    have lv : vs.length = m := by rw [hp.length, hl]
    have st4 : SameT H3 H4 := SameT.box kp4 b2
    have e4 := kp4 _ _ neD hD
    have st : SameT H4 (upd H4 D (.lst (vs ++ [v]))) := .put e4 rfl
    refine ⟨vs, e4, Nat.lt_of_le_of_lt (show vs.length ≤ 100000 by omega) (by decide), (kp.trans kp4).back nD, b4.put neD (bx.neD nD), vs ++ [v], as ++ [a], upd_same, ?_, by rw [List.length_append, hl]; rfl, ?_⟩
    · exact Paired.snoc (hp.mono fun _ _ q => hs q (st4.trans st)) (hs rv st)
    · intro u hu
      rcases List.mem_append.mp hu with h | h
      · exact hR u h
      · rw [List.mem_singleton.mp h]
        exact oa
  · rintro H2 ⟨kp, b2, vs, as, hD, hp, hl, hR⟩
    exact hq H2 vs as kp b2 hD hp hl hR
end
end Ga

set_option maxRecDepth 100000
set_option maxHeartbeats 4000000
/-! M25: the law k25. -/
namespace KX
open PySem PySem.Spec PyProof.Rows L2 TL Ga NdefX StX
theorem filter_one : ∀ {l : List Str} {x : Str}, l.Nodup → x ∈ l → (l.filter fun z => decide (z = x)) = [x]
  | y :: l, x, nd, h => by
    obtain ⟨n1, n2⟩ := List.nodup_cons.mp nd
    by_cases e : y = x
    · subst e
      rw [List.filter_cons_of_pos (by exact decide_eq_true rfl)]
      have : (l.filter fun z => decide (z = y)) = [] := List.filter_eq_nil_iff.mpr fun z hz c => n1 ((of_decide_eq_true c) ▸ hz)
      rw [this]
    · rw [List.filter_cons_of_neg (by simpa using e)]
      exact filter_one n2 ((List.mem_cons.mp h).resolve_left fun z => e z.symm)
theorem srt_srt {fs : List File} (nd : (fs.map (·.1)).Nodup) : srtF (srtF fs) = srtF fs := srtF_congr (srtF_perm fs) nd
theorem foot_same {fs : List File} (lf : LawF fs) (nd : (fs.map (·.1)).Nodup) (f : Foot) : footV (srtF fs) f = footL fs f := by
  have pm := srtF_perm fs
  have ss := srt_srt nd
  have ndN : (nmsF fs).Nodup := srtF_nodup nd
  have all : (pathsIn (srtF fs) "") = nmsF fs := by
    unfold pathsIn nmsF
    rw [ss, List.filter_eq_self]
    intro z _
    rfl
  cases f with
  | read p => exact askM_perm pm nd (.read p)
  | find p z => exact askM_perm pm nd (.find p z)
  | total =>
    show PyData.int ((pathsIn (srtF fs) "").length : Nat) = .int (fs.length : Nat)
    rw [all]
    unfold nmsF
    rw [List.length_map, srtF_len]
  | above p =>
    show dL ((pathsIn (srtF fs) "").filter fun z => inside p z) = dL ((nmsF fs).filter fun z => inside p z)
    rw [all]
  | under x =>
    show dL ((if getF (srtF fs) x = none then [] else [x]) ++ pathsIn (srtF fs) x) = dL ((nmsF fs).filter fun z => decide (z = x) || inside z x)
    congr 1
    have ep : pathsIn (srtF fs) x = (nmsF fs).filter fun z => inside z x := by unfold pathsIn nmsF; rw [ss]
    rw [getF_perm pm nd x, ep]
    cases e : getF fs x with
    | none =>
      rw [if_pos rfl, List.nil_append]
      refine List.filter_congr fun z hz => ?_
      have : z ≠ x := fun h => by
        subst h
        obtain ⟨g, hg, e2⟩ := List.mem_map.mp hz
        have := getF_of nd (f := g) (pm.mem_iff.mp hg)
        rw [e2, e] at this
        cases this
      rw [decide_eq_false this, Bool.false_or]
    | some l =>
      rw [if_neg (by simp)]
      have mg := getF_mem e
      have cl : ∀ z ∈ nmsF fs, inside z x = false := fun z hz => by
        obtain ⟨g, hg, e2⟩ := List.mem_map.mp hz
        rw [← e2]
        exact lf.clean g (pm.mem_iff.mp hg) (x, l) mg
      have mx : x ∈ nmsF fs := List.mem_map.mpr ⟨(x, l), pm.mem_iff.mpr mg, rfl⟩
      have e0 : ((nmsF fs).filter fun z => inside z x) = [] := List.filter_eq_nil_iff.mpr fun z hz c => by
        rw [cl z hz] at c
        cases c
      rw [e0, List.append_nil, ← filter_one ndN mx]
      refine List.filter_congr fun z hz => ?_
      rw [cl z hz, Bool.or_false]
/-- the feet of actions of the law -/
theorem feet_law {a : Act} (h : LawQ a ∨ LawD a) : ∀ f ∈ feetA a, LawFt f ∧ okTx f.txt := by
  have tw : ∀ z w : Str, okText 20 w → okText 20 z → okTx [w, z] := fun z w hw hz => ((PlL.cons (pl_str hw) (PlL.cons (pl_str hz) (PlL.nil (n := 0)))).tup).mono (by decide) (by decide)
  have pl : ∀ {z : Str}, z ∈ lawPlaces → okText 20 z := fun hz => (place_ok hz).2.mono (by decide)
  have pt : ∀ {z : Str}, z ∈ lawPaths → okText 20 z := fun hz => pl (List.mem_cons_of_mem _ hz)
  have u : ∀ z : Str, okText 20 z → LawFt (.under z) ∧ okTx (Foot.under z).txt := fun z hz => ⟨hz, tw z _ (by decide +kernel) hz⟩
  have v : ∀ z : Str, okText 20 z → LawFt (.above z) ∧ okTx (Foot.above z).txt := fun z hz => ⟨hz, tw z _ (by decide +kernel) hz⟩
  have rd : ∀ z : Str, z ∈ lawPaths → LawFt (.read z) ∧ okTx (Foot.read z).txt := fun z hz => ⟨lawQ_read hz, (lawQ_read hz).pl⟩
  have tt : LawFt .total ∧ okTx Foot.total.txt := ⟨trivial, ((PlL.cons (pl_str (n := 20) (by decide +kernel)) (PlL.nil (n := 0))).tup).mono (by decide) (by decide)⟩
  have dq : ∀ {b : Act}, LawQ b ∨ LawD b → isQ b = false → LawD b := fun {b} h e => h.resolve_left fun q => by rw [q.q] at e; cases e
  have qq : ∀ {b : Act}, LawQ b ∨ LawD b → isQ b = true → LawQ b := fun {b} h e => h.resolve_right fun q => by rw [q.q] at e; cases e
  intro f hf
  cases a with
  | read p =>
    have l := qq h rfl
    rw [List.mem_singleton.mp hf]
    exact ⟨l, l.pl⟩
  | kind p =>
    obtain ⟨z, e, hz⟩ := (qq h rfl).place _ rfl
    cases e
    rw [List.mem_singleton.mp hf]
    exact u p (pl hz)
  | list p =>
    obtain ⟨z, e, hz⟩ := (qq h rfl).place _ rfl
    cases e
    rw [List.mem_singleton.mp hf]
    exact u p (pl hz)
  | count p =>
    obtain ⟨z, e, hz⟩ := (qq h rfl).place _ rfl
    cases e
    rw [List.mem_singleton.mp hf]
    exact u p (pl hz)
  | find p z =>
    have l := qq h rfl
    obtain ⟨z', e, hz⟩ := l.place _ rfl
    cases e
    rcases List.mem_cons.mp hf with rfl | hf
    · exact u p (pl hz)
    · rw [List.mem_singleton.mp hf]
      exact ⟨l, l.pl⟩
  | write p l =>
    have hp : p ∈ lawPaths := (dq h rfl).parts ("path", .tx p) List.mem_cons_self
    rcases List.mem_cons.mp hf with rfl | hf
    · exact u p (pt hp)
    rcases List.mem_cons.mp hf with rfl | hf
    · exact v p (pt hp)
    · rw [List.mem_singleton.mp hf]
      exact tt
  | remove p =>
    have hp : p ∈ lawPaths := (dq h rfl).parts ("path", .tx p) List.mem_cons_self
    rw [List.mem_singleton.mp hf]
    exact rd p hp
  | move p t =>
    have hp : p ∈ lawPaths := (dq h rfl).parts ("path", .tx p) List.mem_cons_self
    have ht : t ∈ lawPaths := (dq h rfl).parts ("target", .tx t) (List.mem_cons_of_mem _ List.mem_cons_self)
    rcases List.mem_cons.mp hf with rfl | hf
    · exact rd p hp
    rcases List.mem_cons.mp hf with rfl | hf
    · exact u t (pt ht)
    · rw [List.mem_singleton.mp hf]
      exact v t (pt ht)
  | splice p o n =>
    have hp : p ∈ lawPaths := (dq h rfl).parts ("path", .tx p) List.mem_cons_self
    rw [List.mem_singleton.mp hf]
    exact rd p hp
theorem nodup_le {α : Type} [DecidableEq α] : ∀ {l m : List α}, l.Nodup → (∀ x ∈ l, x ∈ m) → l.length ≤ m.length
  | [], _, _, _ => Nat.zero_le _
  | x :: l, m, nd, h => by
    obtain ⟨n1, n2⟩ := List.nodup_cons.mp nd
    have hx := h x List.mem_cons_self
    have e := List.length_erase_of_mem hx
    have p : 0 < m.length := List.length_pos_of_mem hx
    have := nodup_le (m := m.erase x) n2 fun y hy => (List.mem_erase_of_ne fun z => n1 (by rw [← z]; exact hy)).mpr (h y (List.mem_cons_of_mem _ hy))
    rw [List.length_cons]
    omega
theorem feet_lift {Pf : Foot → Prop} : ∀ {ms : List (List Str)}, (∀ l ∈ ms, ∃ f, Pf f ∧ l = f.txt) → ∃ ft : List Foot, ms = ft.map Foot.txt ∧ ∀ f ∈ ft, Pf f
  | [], _ => ⟨[], rfl, fun _ h => nomatch h⟩
  | l :: ms, h => by
    obtain ⟨ft, e, p⟩ := feet_lift fun x hx => h x (List.mem_cons_of_mem _ hx)
    obtain ⟨f, pf, ef⟩ := h l List.mem_cons_self
    exact ⟨f :: ft, by rw [e, ef]; rfl, fun g hg => (List.mem_cons.mp hg).elim (fun z => z ▸ pf) (p g)⟩
theorem paired_txt {K : PySem.W.Frag} {H : Hp} : ∀ {ys : List V} {ft : List Foot}, Paired (TxAt K H) ys (ft.map Foot.txt) → Paired (fun y (f : Foot) => TxAt K H y f.txt) ys ft
  | [], [], _ => .nil
  | y :: ys, f :: ft, h => by
    cases h with
    | cons a b => exact .cons a (paired_txt b)
  | [], _ :: _, h => nomatch h
  | _ :: _, [], h => nomatch h
def dFt (ms : List (List Str)) : PyData := .tuple (ms.map fT)
theorem pl_ft {ms : List (List Str)} (h : ∀ l ∈ ms, okTx l) (hz : ms.length ≤ 30) : Pl 4000 2 (dFt ms) := by
  refine (PlL.all (n := 100) (k := 1) (ds := ms.map fT) fun d hd => ?_).tup.mono (by rw [List.length_map]; omega) (by decide)
  obtain ⟨l, hl, rfl⟩ := List.mem_map.mp hd
  exact h l hl
theorem pl_foot {fs : List File} (lf : LawF fs) (nd : (fs.map (·.1)).Nodup) {f : Foot} (h : LawFt f) : Pl 9000 4 (footL fs f) := by
  have nm : ∀ p : Str → Bool, Pl 9000 4 (dL ((nmsF fs).filter p)) := fun p => by
    refine (pl_lines (n := 8) (m := 20) (fun z hz => ?_) ?_).mono (by decide) (by decide)
    · obtain ⟨g, hg, rfl⟩ := List.mem_map.mp (List.mem_filter.mp hz).1
      exact (pth (lf.each g ((srtF_perm fs).mem_iff.mp hg)).1).text
    · refine Nat.le_trans (List.length_filter_le _ _) ?_
      unfold nmsF
      rw [List.length_map, srtF_len]
      exact lf.few
  cases f with
  | read p => exact pl_ask lf nd h
  | find p z => exact pl_ask lf nd h
  | under p => exact nm _
  | above p => exact nm _
  | total => exact (pl_nat (k := 2) (i := fs.length) (by have := lf.few; omega)).mono (by decide) (by decide)
def dSt (fs : List File) (ft : List Foot) : PyData := .tuple (ft.map (footL fs))
theorem pl_st {fs : List File} (lf : LawF fs) (nd : (fs.map (·.1)).Nodup) {ft : List Foot} (h : ∀ f ∈ ft, LawFt f) (hz : ft.length ≤ 30) : Pl 280000 5 (dSt fs ft) := by
  refine (PlL.all (n := 9000) (k := 4) (ds := ft.map (footL fs)) fun d hd => ?_).tup.mono (by rw [List.length_map]; omega) (by decide)
  obtain ⟨f, hf, rfl⟩ := List.mem_map.mp hd
  exact pl_foot lf nd (h f hf)
theorem st_dp {K : PySem.W.Frag} {H : Hp} {fs : List File} : ∀ {us : List V} {ft : List Foot}, Paired (fun u (f : Foot) => Dt K H u (footL fs f)) us ft → DpAll K H us (ft.map (footL fs))
  | _, _, .nil => .nil
  | _, _, .cons a b => .cons a.dp (st_dp b)
theorem st_dp2 {K : PySem.W.Frag} {H : Hp} {fs : List File} (lf : LawF fs) (nd : (fs.map (·.1)).Nodup) : ∀ {us : List V} {ft : List Foot}, Paired (fun u (f : Foot) => Dt K H u (footV (srtF fs) f)) us ft → DpAll K H us (ft.map (footL fs))
  | _, _, .nil => .nil
  | _, _, .cons (b := f) a b => .cons (by rw [← foot_same lf nd f]; exact a.dp) (st_dp2 lf nd b)
theorem srt_same {js : List Ent} {l m : List (List Str)} (a : SrtOf js l) (b : SrtOf js m) : l = m := srt_uniq a.1 b.1 a.2.1 b.2.1 fun x => (a.2.2 x).trans (b.2.2 x).symm
theorem flat_le {js : List Ent} : (js.flatMap fun e => (feetA e.1).map Foot.txt).length ≤ 3 * js.length := by
  induction js with
  | nil => exact Nat.le_refl _
  | cons e r ih =>
    rw [List.flatMap_cons, List.length_append, List.length_map, List.length_cons]
    have := feetA_len e.1
    omega
theorem dps_fT {K : PySem.W.Frag} {H : Hp} {r : Addr} {ys : List V} {ms : List (List Str)} (q : SqT K H r ys) (p : Paired (TxAt K H) ys ms) : Dp K H (.ref r) (dFt ms) := .tup q (dps_of p)
section
variable {P : Program} {w : World} {K : PySem.W.Frag} {mg : Str → Option Value} {base : Heap}
theorem ok_law {f C Co : Addr} {fd : FuncData} (F : Fun K "law" "law" sLaw f fd) (T : Tx mg) (TM : TreeK P w K mg base C Co)
    (C1 : Cal P w K mg base 2 "_law_digits" ["script", "first", "last"] (spDigits K)) (CD : Cal P w K mg base 1 "_law_draw" ["box", "many"] spDraw) (C4 : Cal P w K mg base 4 "_law_files" ["box", "most"] (spLFiles K)) (C5 : Cal P w K mg base 1 "_law_rows" ["files"] (spRows K))
    (C7 : CalG P w K mg base 1 "_law_alike" ["one", "two"] (spAlike K)) (CC : Cal P w K mg base 6 "_law_action" ["box", "files"] (spAction K)) (CR : Cal P w K mg base 5 "_law_run" ["files", "actions"] (spLRun K))
    (CF : Cal P w K mg base 2 "_law_feet" ["journal"] (spLFeet K)) (CP : Cal P w K mg base 2 "feet" ["journal"] (spFeet K)) (CS : Cal P w K mg base 4 "_law_stand" ["rows", "files"] (spLStand K)) (XS : CalX P w K mg base 12 "stand" ["feet", "tree"] (spStand K C)) :
    FnG P w K mg base CX0 13 f fd ["script"] (spLaw K) := by
  obtain ⟨f7, d7, G7, g7, k7, b7⟩ := C7.ex
  obtain ⟨fi, e0, fdi, ds0, MK, GI, bI, b0, v0, he0⟩ := TM.ex
  have gC := TM.gl
  refine okG F scLaw (fun vs H Q E h => ?_) (fun cdv A hg outer s H vs Q E hr h => ?_)
  · obtain ⟨a, ns, rfl, _⟩ := h
    rfl
  · obtain ⟨a, ns, rfl, hS, hlen, q⟩ := h
    have hr1 : Room 1 _ := hr.mono (by decide)
    have hr6 : Room 6 _ := hr.mono (by decide)
    refine ⟨_, pss_cons (ps_set (i := 1) scLaw.nd rfl (.inr rfl) (pe_lst (pa_cons (pe_cal C1 hr pass0 (pa_cons (pv 0) (pa_cons pe_int (pa_cons pe_int pa_nil)))) (pa_cons pe_int pa_nil))))
      (pss_cons (ps_for PassesOwn.never rfl (pi_range1 (by rfl) T.range (pa_cons pe_int pa_nil)) (pg_name (i := 2) scLaw.nd rfl (Or.inl rfl))
      (pss_cons (ps_set (i := 3) scLaw.nd rfl (.inr rfl) (pe_cal C4 hr pass0 (pa_cons (pv 1) (pa_cons pe_int pa_nil))))
      (pss_cons (ps_set (i := 4) scLaw.nd rfl (.inl rfl) (pe_ix (ixL (K := K) rfl) (pe_cal CR hr pass0 (pa_cons (pv 3) (pa_cons (pe_lc (own := [("k", 5)]) rfl scLaw.nd (pi_range1 (by rfl) T.range (pa_cons (pe_cal CD hr pass0 (pa_cons (pv 1) (pa_cons pe_int pa_nil))) pa_nil)) (blkOk_by (N := nLaw) (sc := defScope sLaw) (by decide +kernel)) (fun _ _ _ _ _ => pg_name (i := 5) scLaw.nd rfl (Or.inl rfl)) (fun _ _ _ _ _ => pts_nil) (fun _ _ _ _ _ => (pe_cal CC hr pass0 (pa_cons (pv 1) (pa_cons (pv 3) pa_nil))))) pa_nil))) pe_int (fun _ _ => rfl)))
      (pss_cons (ps_set (i := 6) scLaw.nd rfl (.inl rfl) (pe_cal CF hr pass0 (pa_cons (pv 4) pa_nil)))
      (pss_cons (ps_set (i := 7) scLaw.nd rfl (.inl rfl) (pe_cal CP hr pass0 (pa_cons (pv 4) pa_nil)))
      (pss_cons (ps_if (pt_not (pt_val (pe_callG hg G7 hr1 (by rfl) g7 k7 b7 .nil pass0 (pa_cons (pv 7) (pa_cons (pv 6) pa_nil))))) (pss_one (ps_ret pe_bl)) pss_nil)
      (pss_one (ps_for PassesOwn.never rfl (piT (K := K) rfl (pe_tup (pa_cons (pv 3) (pa_cons (pe_cal C4 hr pass0 (pa_cons (pv 1) (pa_cons pe_int pa_nil))) (pa_cons pe_dnewK pa_nil))))) (pg_name (i := 8) scLaw.nd rfl (Or.inl rfl))
      (pss_one (ps_if (pt_not (pt_val (pe_callG hg G7 hr1 (by rfl) g7 k7 b7 .nil pass0 (pa_cons (pe_calX XS hr (E := fun _ _ _ => False) passF (pa_cons (pv 7) (pa_cons (pe_make MK GI hr6 (by rfl) gC bI .nil passF (pa_cons (pe_cal C5 hr pass0 (pa_cons (pv 8) pa_nil)) pa_nil)) pa_nil))) (pa_cons (pe_cal CS hr pass0 (pa_cons (pv 6) (pa_cons (pv 8) pa_nil))) pa_nil))))) (pss_one (ps_ret pe_bl)) pss_nil))))))))))
      (pss_one (ps_ret (pe_and (pe_cmpR (kEq (K := K) rfl hr.units) (pe_cal CP hr pass0 (pa_cons (pe_tup pa_nil) pa_nil)) (pe_tup pa_nil) (nomark _)) (pe_one (pe_cmpR (kEq (K := K) rfl hr.units) (pe_calX XS hr (E := fun _ _ _ => False) passF (pa_cons (pe_tup pa_nil) (pa_cons (pe_make0 MK GI hr6 (by rfl) gC b0 v0 passF) pa_nil))) (pe_tup pa_nil) (nomark _))))))), ?_⟩
    refine ⟨_, rfl, a, ns, 0, 63, rfl, hS, by decide, by decide, by decide, by decide, fun D H1 ds s1 nD hD => ?_⟩
    refine ⟨by show 2 ≤ _; decide, fun B nB => ?_⟩
    have neDB : D ≠ B := ne_of_none hD nB
    have bx0 : Box (upd H1 B (.lst [.ref D, .int 0])) B D := ⟨ds, 0, upd_same, by decide, neDB, by rw [upd_ne neDB]; exact hD⟩
    generalize upd H1 B (.lst [.ref D, .int 0]) = H2 at bx0 ⊢
    refine ⟨4, rfl, by decide, by decide, for_range (lo := 0) (n := 4) (fun i σ H' => ∃ o2 o3 o4 o6 o7 o8 : Option V, σ = [some (.ref a), some (.ref B), o2, o3, o4, none, o6, o7, o8] ∧ Box H' B D)
      ⟨none, none, none, none, none, none, rfl, bx0⟩ ?_ ?_⟩
    · rintro i σ H6 hi ⟨o2, o3, o4, o6, o7, o8, rfl, bx⟩
      refine ⟨_, rfl, B, D, 10, rfl, by decide, by decide, bx, fun d fs H7 tb lf l12 kp7 nd7 bx7 => ?_⟩
      refine ⟨_, rfl, _, rfl, B, D, 11, rfl, by decide, bx7, fun r H8 r0 r11 kp8 bx8 => ?_⟩
      have tb8 := tb.kp kp8 bx7
      refine ⟨r, rfl, by omega, by omega, fun L nL => ?_⟩
      refine lc_rng_boxR (n := r.toNat) (R := fun H v a => Dt K H v (dA a)) (ok := fun a => LawQ a ∨ LawD a) (fun h s => h.st s) nL bx8 (by omega) (fun m H9 Q2 hm b9 kp9 k => ?_) fun H9 vs as kp9 b9 hL pa la0 la => ?_
      · exact ⟨_, rfl, _, rfl, B, D, d, fs, rfl, b9, tb8.kp kp9 bx8, fun f hf => lf.each f hf, fun v x H3 dv lx kp3 b3 => k v x H3 dv lx.law kp3 b3⟩
      have tb9 := tb8.kp kp9 bx8
      have nd := LawF.nd tb
      have pm := srtF_perm fs
      have h10 : as.length ≤ 10 := by omega
      clear tb tb8 kp7 kp8 bx bx7 bx8 nL
      refine ⟨d, L, vs, fs, as, rfl, tb9, lf, sqL hL, pa, by omega, la, fun HB r7 j7 d7 sB q7 jj7 tb7 => ?_⟩
      refine ⟨r7, _, 0, j7, rfl, rfl, q7, at_of (j := 0) rfl rfl, ?_⟩
      have sim := run_is lf nd pm la
      have ents := sim.ent
      have jl : (lrunM fs as).1.length ≤ 10 := by rw [lrunM_len]; exact h10
      generalize (lrunM fs as).1 = js at jj7 ents jl
      have tbB := tb9.same sB
      have bB := b9.same sB
      clear tb7 q7 pa hL tb9 b9 kp9 sim
      have fl : ∀ l, l ∈ (js.flatMap fun e => (feetA e.1).map Foot.txt) → ∃ f : Foot, LawFt f ∧ okTx f.txt ∧ l = f.txt := fun l hl => by
        obtain ⟨e, he, h⟩ := List.mem_flatMap.mp hl
        obtain ⟨ft, hft, rfl⟩ := List.mem_map.mp h
        exact ⟨ft, (feet_law (ents e he).1 ft hft).1, (feet_law (ents e he).1 ft hft).2, rfl⟩
      refine ⟨_, rfl, j7, js, rfl, jj7, by omega, fun e he f hf => (feet_law (ents e he).1 f hf).2, fun HC r1 ys1 ms1 sC q1 p1 so1 => ?_⟩
      refine ⟨_, rfl, j7, js, rfl, jj7.same sC, by omega, fun HE r2 ys2 ms2 sE q2 p2 so2 => ?_⟩
      obtain rfl := srt_same so1 so2
      have q1E := sE.seqT q1
      have p1E := p1.mono fun _ _ q => TxAt.st q sE.t
      have okm : ∀ l ∈ ms1, okTx l := fun l hl => by
        obtain ⟨f, _, h, rfl⟩ := fl l ((so1.2.2 l).mp hl)
        exact h
      have lm : ms1.length ≤ 30 := Nat.le_trans (nodup_le so1.2.1 fun x hx => (so1.2.2 x).mp hx) (Nat.le_trans flat_le (by omega))
      have pF := (pl_ft okm lm).plain (by decide) (by decide)
      refine ⟨_, rfl, _, rfl, _, _, _, rfl, dps_fT q2 p2, dps_fT q1E p1E, pF.sh, pF.nd, pF.dp, pF.ln, true, rfl, ite2 (fun e => absurd e (by decide)) fun _ => ?_⟩
      obtain ⟨ft, rfl, lft⟩ := feet_lift (Pf := LawFt) fun l hl => by
        obtain ⟨f, h, _, e⟩ := fl l ((so1.2.2 l).mp hl)
        exact ⟨f, h, e⟩
      have p1F := paired_txt p1E
      have p2F := paired_txt p2
      have lF : ft.length ≤ 30 := by rw [List.length_map] at lm; exact lm
      have sBE := sC.trans sE
      have tbE := tbB.same sBE
      have bE := bB.same sBE
      clear p1 p2 q1 jj7 tbB bB sC sE sB p1E pF so1 so2 okm fl lm ents
      refine ⟨_, rfl, _, rfl, B, D, 10, rfl, by decide, by decide, bE, fun d2 fs2 HF tb2 lf2 l12b kpF ndF bF => ?_⟩
      refine fun d3 n3 => ?_
      have sG := same_upd (o := HO.dK []) n3
      have tb3 : Tab K (upd HF d3 (.dK [])) d3 [] := ⟨[], upd_same, .nil, List.nodup_nil, by decide⟩
      have bG := bF.new (o := .dK []) n3
      have tbG := (tbE.kp kpF bE).same sG
      have tb2G := tb2.same sG
      have stG := (SameT.box kpF bE).trans sG.t
      generalize upd HF d3 (.dK []) = HG at sG tb3 bG tbG tb2G stG ⊢
      refine ⟨by show 3 ≤ sizeLine; decide, fun tp ntp => ?_⟩
      have sI := same_upd (o := HO.tup [V.ref d, .ref d2, .ref d3]) ntp
      have qI : SqT K (upd HG tp (.tup [V.ref d, .ref d2, .ref d3])) tp [V.ref d, .ref d2, .ref d3] := sqT upd_same
      have bI' := bG.new (o := .tup [V.ref d, .ref d2, .ref d3]) ntp
      generalize upd HG tp (.tup [V.ref d, .ref d2, .ref d3]) = HI at sI qI bI' ⊢
      have stI := stG.trans sI.t
      have q1I := stI.sq q1E
      have q2I := stI.sq q2
      have p1I := p1F.mono fun _ _ q => TxAt.st q stI
      have p2I := p2F.mono fun _ _ q => TxAt.st q stI
      have three : ∀ (j : Nat) (v : V), [V.ref d, .ref d2, .ref d3][j]? = some v → ∃ dd ff, v = .ref dd ∧ Tab K HI dd ff ∧ LawF ff := fun j v hv => by
        match j, hv with
        | 0, hv => cases hv; exact ⟨d, fs, rfl, tbG.same sI, lf⟩
        | 1, hv => cases hv; exact ⟨d2, fs2, rfl, tb2G.same sI, lf2⟩
        | 2, hv => cases hv; exact ⟨d3, [], rfl, tb3.same sI, ⟨(fun _ h => nomatch h), (fun _ h => nomatch h), by decide⟩⟩
        | j + 3, hv => simp at hv
      clear tbG tb2G tb3 stG stI sI sG q1E q2 p1F p2F bG bF tb2 kpF tbE bE
      refine ⟨tp, rfl, ⟨_, qI⟩, ?_⟩
      refine for_tup (K := K) (xs := [V.ref d, .ref d2, .ref d3]) (fun j σ H' => ∃ o8 : Option V, σ = [some (.ref a), some (.ref B), some (.int (0 + (i : Int))), some (.ref d), some j7, none, some (.ref r1), some (.ref r2), o8] ∧ Same HI H')
        ⟨o8, rfl, .refl _⟩ (fun j σ H' _ ⟨_, _, h⟩ => h.seqT qI) ?_ ?_
      · rintro j v σ HJ hv ⟨o8, rfl, sJ⟩
        obtain ⟨dd, ff, rfl, tbd, lfd⟩ := three j v hv
        have ndd := LawF.nd tbd
        have pmd := srtF_perm ff
        refine ⟨_, rfl, _, rfl, dd, ff, rfl, tbd.same sJ, fun HQ a8 ws8 sQ na8 ea8 hR8 => ?_⟩
        refine fun x dx nx ndx nex => mk_rows ea8 hR8 (lfd.perm pmd) (srtF_nodup ndd) nx ndx nex fun HR sR tr => ⟨rfl, ?_⟩
        have sIR := sJ.trans (sQ.trans sR)
        refine ⟨r2, x, ys2, ft, srtF ff, rfl, sIR.seqT q2I, p2I.mono fun _ _ q => TxAt.st q sIR.t, by omega, lft, tr, sim_fsok lfd ndd pmd (as := []) (fun _ h => nomatch h) 0, fun HS u1 us1 sS qS pS => ?_⟩
        have sIS := sIR.trans sS
        refine ⟨_, rfl, _, rfl, r1, dd, ys1, ft, ff, rfl, sIS.seqT q1I, p1I.mono fun _ _ q => TxAt.st q sIS.t, by omega, lft, tbd.same sIS, lfd, fun HT u2 us2 sT qT pT => ?_⟩
        have pP := (pl_st lfd ndd lft lF).plain (by decide) (by decide)
        refine ⟨_, _, dSt ff ft, rfl, .tup (sT.seqT qS) (st_dp2 lfd ndd (pS.mono fun _ _ q => q.st sT.t)), .tup qT (st_dp pT), pP.sh, pP.nd, pP.dp, pP.ln, true, rfl, ite2 (fun e => absurd e (by decide)) fun _ => ?_⟩
        exact ⟨_, rfl, sIS.trans sT⟩
      · rintro σ HJ ⟨o8, rfl, sJ⟩
        exact ⟨_, _, _, _, _, _, rfl, bI'.same sJ⟩
    · rintro σ H6 ⟨o2, o3, o4, o6, o7, o8, rfl, bx⟩
      refine ⟨by show 0 ≤ sizeLine; decide, fun t1 n1 => ?_⟩
      have g1 := same_upd (o := HO.tup []) n1
      have k1 : SqT K (upd H6 t1 (.tup [])) t1 [] := sqT upd_same
      generalize upd H6 t1 (.tup []) = G1 at g1 k1 ⊢
      refine ⟨.ref t1, [], rfl, ⟨t1, [], rfl, k1, .nil⟩, by decide, fun H7 r ys ms s7 q7 p7 so => ?_⟩
      have em : ms = [] := by
        cases ms with
        | nil => rfl
        | cons x l => exact absurd ((so.2.2 x).mp List.mem_cons_self) (fun z => nomatch z)
      subst em
      cases p7
      refine ⟨by show 0 ≤ sizeLine; decide, fun t2 n2 => ?_⟩
      have g2 := same_upd (o := HO.tup []) n2
      have k2 : SqT K (upd H7 t2 (.tup [])) t2 [] := sqT upd_same
      generalize upd H7 t2 (.tup []) = G2 at g2 k2 ⊢
      refine ⟨.tuple [], .tuple [], .tup (g2.seqT q7) .nil, .tup k2 .nil, by decide +kernel, by decide +kernel, ?_⟩
      refine ⟨true, rfl, iteT ?_⟩
      refine ⟨by show 0 ≤ sizeLine; decide, fun t3 n3 => ?_⟩
      have g3 := same_upd (o := HO.tup []) n3
      have k3 : SqT K (upd G2 t3 (.tup [])) t3 [] := sqT upd_same
      generalize upd G2 t3 (.tup []) = G3 at g3 k3 ⊢
      refine fun x dx nx ndx nex => mk_none he0 nx ndx fun HR sR tr => ⟨rfl, ?_⟩
      refine ⟨t3, x, [], [], [], rfl, sR.seqT k3, .nil, by decide, (fun _ h => nomatch h), tr, ⟨(fun _ h => nomatch h), by decide, (fun _ h => nomatch h)⟩, fun H8 r8 us8 s8 q8 p8 => ?_⟩
      cases p8
      refine ⟨by show 0 ≤ sizeLine; decide, fun t4 n4 => ?_⟩
      have g4 := same_upd (o := HO.tup []) n4
      have k4 : SqT K (upd H8 t4 (.tup [])) t4 [] := sqT upd_same
      generalize upd H8 t4 (.tup []) = G4 at g4 k4 ⊢
      refine ⟨.tuple [], .tuple [], .tup (g4.seqT q8) .nil, .tup k4 .nil, by decide +kernel, by decide +kernel, ?_⟩
      exact q G4
end
end KX

set_option maxRecDepth 100000
set_option maxHeartbeats 4000000
namespace KX
open PySem PySem.Spec PyProof.Rows L2 TL Ga NdefX
/-- a def that the top has left -/
structure FnIn (K : PySem.W.Frag) (x : Str) (st : Stmt) : Prop where
  ex : ∃ (f : Addr) (od an : Option Addr) (sl : Array (Option Value)) (oc kV dc pm cd ct : Value), PySem.W.nsIn K mainGlobals x = some (some (.ref f)) ∧
    K.lookup f = some ⟨oc, od, .func (PySem.W.fnOf x x (defArgs st) (defBody st) (defScope st) .none kV dc pm an cd ct), sl⟩ ∧ PySem.W.codeIn K cd x = true ∧ PySem.W.keepIn K (.ref f) = true
theorem fnIn {K : PySem.W.Frag} {x : Str} {st : Stmt} {f : Addr} {od an : Option Addr} {sl : Array (Option Value)} {oc kV dc pm cd ct : Value} (a : PySem.W.nsIn K mainGlobals x = some (some (.ref f)))
    (l : K.lookup f = some ⟨oc, od, .func (PySem.W.fnOf x x (defArgs st) (defBody st) (defScope st) .none kV dc pm an cd ct), sl⟩) (c : PySem.W.codeIn K cd x = true) (k : PySem.W.keepIn K (.ref f) = true) : FnIn K x st :=
  ⟨f, od, an, sl, oc, kV, dc, pm, cd, ct, a, l, c, k⟩
theorem intIn {K : PySem.W.Frag} {x : Str} {i : Int} {t : Tok} (a : PySem.W.nsIn K mainGlobals x = some (some (.int i t))) : ∃ t, PySem.W.nsIn K mainGlobals x = some (some (.int i t)) := ⟨t, a⟩
theorem strIn {K : PySem.W.Frag} {x : Str} {i : Str} {t : Tok} (a : PySem.W.nsIn K mainGlobals x = some (some (.str i t))) : ∃ t, PySem.W.nsIn K mainGlobals x = some (some (.str i t)) := ⟨t, a⟩
theorem FnIn.fn {K : PySem.W.Frag} {x : Str} {st : Stmt} {mg : Str → Option Value} {h : Heap} (F : FnIn K x st) (X : K.In h) (G : h.Ns mainGlobals mg) :
    ∃ (f : Addr) (kV dc pm : Value) (an : Option Addr) (cd ct : Value), Fun K x x st f (PySem.W.fnOf x x (defArgs st) (defBody st) (defScope st) .none kV dc pm an cd ct) ∧ mg x = some (.ref f) ∧ PySem.W.nsIn K mainGlobals x = some (some (.ref f)) := by
  obtain ⟨f, od, an, sl, oc, kV, dc, pm, cd, ct, a, l, c, k⟩ := F.ex
  exact ⟨f, kV, dc, pm, an, cd, ct, fun_mk l c k, PySem.W.mg_of X G a, a⟩
/-- a method of the class at C -/
structure MthIn (K : PySem.W.Frag) (C : Addr) (x qual : Str) (st : Stmt) : Prop where
  ex : ∃ (f : Addr) (od an : Option Addr) (sl : Array (Option Value)) (oc kV dc pm cd ct : Value), Meth K C x f ∧ K.lookup f = some ⟨oc, od, .func (PySem.W.fnOf x qual (defArgs st) (defBody st) (defScope st) .none kV dc pm an cd ct), sl⟩ ∧ PySem.W.codeIn K cd qual = true
theorem mthIn {K : PySem.W.Frag} {C : Addr} {x qual : Str} {st : Stmt} {f : Addr} {od an : Option Addr} {sl : Array (Option Value)} {oc kV dc pm cd ct : Value} (a : PySem.W.findIn K (.ref C) x = some (some (.ref f))) (i : PySem.W.isFn K (.ref f) = true) (k : PySem.W.keepIn K (.ref f) = true)
    (l : K.lookup f = some ⟨oc, od, .func (PySem.W.fnOf x qual (defArgs st) (defBody st) (defScope st) .none kV dc pm an cd ct), sl⟩) (c : PySem.W.codeIn K cd qual = true) : MthIn K C x qual st := ⟨f, od, an, sl, oc, kV, dc, pm, cd, ct, ⟨a, i, k⟩, l, c⟩
theorem MthIn.fn {K : PySem.W.Frag} {C : Addr} {x qual : Str} {st : Stmt} (F : MthIn K C x qual st) : ∃ (f : Addr) (kV dc pm : Value) (an : Option Addr) (cd ct : Value), Fun K x qual st f (PySem.W.fnOf x qual (defArgs st) (defBody st) (defScope st) .none kV dc pm an cd ct) ∧ Meth K C x f := by
  obtain ⟨f, od, an, sl, oc, kV, dc, pm, cd, ct, m, l, c⟩ := F.ex
  exact ⟨f, kV, dc, pm, an, cd, ct, fun_mk l c m.kp, m⟩
/-- the class Tree -/
structure TreeIn (K : PySem.W.Frag) (C : Addr) : Prop where
  gl : PySem.W.nsIn K mainGlobals "Tree" = some (some (.ref C))
  cls : TreeC K C
  mkI : PySem.W.makesIn K C = true
  kp : PySem.W.keepIn K (.ref C) = true
  init : ∃ (f T e0 : Addr) (od an : Option Addr) (sl : Array (Option Value)) (oc kV dc pm cd ct : Value) (o o0 : Obj) (n n0 : Nat), Meth K C "__init__" f ∧
    K.lookup f = some ⟨oc, od, .func (PySem.W.fnOf "__init__" "Tree.__init__" (defArgs sInit) (defBody sInit) (defScope sInit) (.ref T) kV dc pm an cd ct), sl⟩ ∧ PySem.W.codeIn K cd "Tree.__init__" = true ∧
    K.lookup T = some o ∧ o.data = .seq #[.ref e0] n ∧ K.lookup e0 = some o0 ∧ o0.cls = .type "tuple" ∧ o0.data = .seq #[] n0
  m0 : MthIn K C "files" "Tree.files" sTFiles
  m1 : MthIn K C "lines" "Tree.lines" sTLines
  m2 : MthIn K C "paths" "Tree.paths" sTPaths
  m3 : MthIn K C "is_folder" "Tree.is_folder" sTIsFolder
  m4 : MthIn K C "with_file" "Tree.with_file" sTWith
  m5 : MthIn K C "without" "Tree.without" sTWithout
theorem initIn {K : PySem.W.Frag} {C f T e0 : Addr} {od an d1 d2 : Option Addr} {sl s1 s2 : Array (Option Value)} {oc kV dc pm cd ct c1 : Value} {n n0 : Nat} (a : PySem.W.findIn K (.ref C) "__init__" = some (some (.ref f))) (i : PySem.W.isFn K (.ref f) = true) (k : PySem.W.keepIn K (.ref f) = true)
    (l : K.lookup f = some ⟨oc, od, .func (PySem.W.fnOf "__init__" "Tree.__init__" (defArgs sInit) (defBody sInit) (defScope sInit) (.ref T) kV dc pm an cd ct), sl⟩) (c : PySem.W.codeIn K cd "Tree.__init__" = true)
    (t : K.lookup T = some ⟨c1, d1, .seq #[.ref e0] n, s1⟩) (e : K.lookup e0 = some ⟨.type "tuple", d2, .seq #[] n0, s2⟩) :
    ∃ (f T e0 : Addr) (od an : Option Addr) (sl : Array (Option Value)) (oc kV dc pm cd ct : Value) (o o0 : Obj) (n n0 : Nat), Meth K C "__init__" f ∧
    K.lookup f = some ⟨oc, od, .func (PySem.W.fnOf "__init__" "Tree.__init__" (defArgs sInit) (defBody sInit) (defScope sInit) (.ref T) kV dc pm an cd ct), sl⟩ ∧ PySem.W.codeIn K cd "Tree.__init__" = true ∧
    K.lookup T = some o ∧ o.data = .seq #[.ref e0] n ∧ K.lookup e0 = some o0 ∧ o0.cls = .type "tuple" ∧ o0.data = .seq #[] n0 :=
  ⟨f, T, e0, od, an, sl, oc, kV, dc, pm, cd, ct, _, _, n, n0, ⟨a, i, k⟩, l, c, t, rfl, e, rfl, rfl⟩
/-- the error's class -/
structure ErrIn (P : Program) (K : PySem.W.Frag) (Co : Addr) : Prop where
  go : PySem.W.nsIn K mainGlobals "OutOfRange" = some (some (.ref Co))
  sc : SupC K Co
  nm : PySem.W.findIn K (.ref Co) "name" = some none
  init : ∃ (f cc c : Addr) (fd : FuncData), SupIn P K f Co (fOor cc c) fd ∧ PySem.W.findIn K (.ref Co) "__init__" = some (some (.ref f)) ∧ PySem.W.typeIn K (.ref f) = some (.type "function")
  sup : PySem.W.nsIn K mainGlobals "super" = some none
  top : (P.main.scope.names.lookup ("super" : Str)).isSome = false
  exm : PySem.W.exmOne K (.ref Co) (.ref Co) = some true
  xf : XfC K Co
theorem oexIn {K : PySem.W.Frag} {Co : Addr} {nm q : Str} {N : Addr} {bs bm : List Value} {sn : List Str} {sub : List Value} {ab : Bool} {col : Option Bool} {dd : Option Addr} {k0 k1 k2 k3 k5 : Option Value}
    (xL : K.lookup Co = some (excClassObj nm q Co N bs bm true sn sub ab col dd k0 k1 k2 k3 k5 "ValueError.__new__")) (vb : PySem.HandSPX.refsVE bm = true) (sa : PySem.W.findIn K (.ref Co) "__setattr__" = some (some (.builtin "object.__setattr__")))
    (ex : PySem.W.subIn K (.ref Co) (.type "BaseException") = some true) (ty : PySem.W.typeIn K (.ref Co) = some (.type "type")) (kp : PySem.W.keepIn K (.ref Co) = true)
    (se : PySem.W.mroIn K Co (.ref Co) = some true) (su : PySem.W.ks_superIn K Co Co "__init__" = some (some (.builtin "ValueError.__init__"))) (ve : PySem.W.subIn K (.ref Co) (.type "ValueError") = some true) (an : PySem.W.nsIn K cStatics "thirdparty.any" = some none) : SupC K Co :=
  ⟨⟨⟨nm, q, N, bs, bm, sn, sub, ab, col, dd, k0, k1, k2, k3, k5, xL, vb⟩, sa, ex, ty, kp⟩, se, su, ve, an⟩
theorem supIn {P : Program} {K : PySem.W.Frag} {f Co cc c : Addr} {oc ccl cl doc pm ctv : Value} {od cdd cld : Option Addr} {osl ccs csl : Array (Option Value)} {vs : Array Value} {file : Str} {tf : Tok}
    (i : PySem.W.findIn K (.ref Co) "__init__" = some (some (.ref f))) (t : PySem.W.typeIn K (.ref f) = some (.type "function")) (l : K.lookup f = some ⟨oc, od, .func (PySem.W.fnX "__init__" "OutOfRange.__init__" (defArgs sOorInit) (defBody sOorInit) (defScope sOorInit) [(("__class__" : Str), cc)] .none .none doc pm none (.ref c) ctv), osl⟩)
    (h : PySem.W.codeIn K (.ref c) "OutOfRange.__init__" = true) (lc : K.lookup c = some ⟨ccl, cdd, .fields vs, ccs⟩) (v2 : vs[2]? = some (.str file tf)) (hf : ((P.main.file : Str) == file) = true) (ce : K.lookup cc = some ⟨cl, cld, .cell (some (.ref Co)), csl⟩) :
    ∃ (f cc c : Addr) (fd : FuncData), SupIn P K f Co (fOor cc c) fd ∧ PySem.W.findIn K (.ref Co) "__init__" = some (some (.ref f)) ∧ PySem.W.typeIn K (.ref f) = some (.type "function") :=
  ⟨f, cc, c, _, ⟨oc, ccl, cl, od, cdd, cld, osl, ccs, csl, doc, pm, ctv, vs, file, tf, cc, rfl, l, h, lc, v2, hf, rfl, ce⟩, i, t⟩
/-- a tuple of texts that the top has left -/
structure WdsIn (K : PySem.W.Frag) (t : Addr) (l : List Str) : Prop where
  sq : ∀ H : Hp, SqT K H t (l.map V.str)
theorem wdsIn {K : PySem.W.Frag} {t : Addr} {l : List Str} {od : Option Addr} {its : Array Value} {n : Nat} {sl : Array (Option Value)} (e : K.lookup t = some ⟨.type "tuple", od, .seq its n, sl⟩) (z : its.size ≤ 1000) (v : Vals (l.map V.str) its.toList) : WdsIn K t l :=
  ⟨fun H => .inr ⟨_, its, n, e, rfl, rfl, Nat.le_trans z (by decide), v⟩⟩
theorem wdTop {K : PySem.W.Frag} {x : Str} {d : Addr} {l : List Str} (a : PySem.W.nsIn K mainGlobals x = some (some (.ref d))) (h : WdsIn K d l) : ∃ d, PySem.W.nsIn K mainGlobals x = some (some (.ref d)) ∧ WdsIn K d l := ⟨d, a, h⟩
/-- a dict of the top with text keys -/
structure DictIn (K : PySem.W.Frag) (w : World) (x : Str) (d : Addr) : Prop where
  gl : PySem.W.nsIn K mainGlobals x = some (some (.ref d))
  kd : ∃ (es : Array DictEntry) (n : Nat), KDict K w d es n
theorem dictIn {K : PySem.W.Frag} {w : World} {x : Str} {d : Addr} {es : Array DictEntry} {n : Nat} (a : PySem.W.nsIn K mainGlobals x = some (some (.ref d))) (l : K.lookup d = some ⟨.type "dict", none, .dict es n, #[]⟩) (k : PySem.W.KeysLit w.params es.toList) (o : (d == sysModules) = false) : DictIn K w x d :=
  ⟨a, es, n, l, k, o⟩
/-- its value at a key is this def -/
structure AtFn (K : PySem.W.Frag) (d : Addr) (x f : Str) : Prop where
  ex : ∃ a, PySem.W.nsIn K d x = some (some (.ref a)) ∧ PySem.W.nsIn K mainGlobals f = some (some (.ref a))
theorem atFn {K : PySem.W.Frag} {d a : Addr} {x f : Str} (h : PySem.W.nsIn K d x = some (some (.ref a))) (g : PySem.W.nsIn K mainGlobals f = some (some (.ref a))) : AtFn K d x f := ⟨a, h, g⟩
theorem AtFn.at {K : PySem.W.Frag} {d b : Addr} {x f : Str} (h : AtFn K d x f) (g : PySem.W.nsIn K mainGlobals f = some (some (.ref b))) : PySem.W.nsIn K d x = some (some (.ref b)) := by
  obtain ⟨a, h1, h2⟩ := h.ex
  rw [h2] at g
  cases g
  exact h1
/-- its value at a key is a tuple of texts -/
structure AtWds (K : PySem.W.Frag) (d : Addr) (x : Str) (l : List Str) : Prop where
  ex : ∃ a, PySem.W.nsIn K d x = some (some (.ref a)) ∧ WdsIn K a l
theorem atWds {K : PySem.W.Frag} {d a : Addr} {x : Str} {l : List Str} (h : PySem.W.nsIn K d x = some (some (.ref a))) (g : WdsIn K a l) : AtWds K d x l := ⟨a, h, g⟩
/-- QUESTIONS, PARTS, ANSWERS, DOINGS -/
structure ActsIn (K : PySem.W.Frag) (w : World) (dq dp da dd de : Addr) : Prop where
  q : PySem.W.nsIn K mainGlobals "QUESTIONS" = some (some (.ref dq))
  wq : WdsIn K dq ["read", "kind", "list", "find", "count"]
  p : DictIn K w "PARTS" dp
  a : DictIn K w "ANSWERS" da
  d : DictIn K w "DOINGS" dd
  p_read : AtWds K dp "read" ["path"]
  p_kind : AtWds K dp "kind" ["place"]
  p_list : AtWds K dp "list" ["place"]
  p_find : AtWds K dp "find" ["place", "word"]
  p_count : AtWds K dp "count" ["place"]
  p_write : AtWds K dp "write" ["path", "lines"]
  p_remove : AtWds K dp "remove" ["path"]
  p_move : AtWds K dp "move" ["path", "target"]
  p_splice : AtWds K dp "splice" ["path", "old", "new"]
  a_read : AtFn K da "read" "answer_read"
  a_kind : AtFn K da "kind" "answer_kind"
  a_list : AtFn K da "list" "answer_list"
  a_find : AtFn K da "find" "answer_find"
  a_count : AtFn K da "count" "answer_count"
  d_write : AtFn K dd "write" "do_write"
  d_remove : AtFn K dd "remove" "do_remove"
  d_move : AtFn K dd "move" "do_move"
  d_splice : AtFn K dd "splice" "do_splice"
theorem dtl_cons {K : PySem.W.Frag} {H : Hp} {vs : List V} {d : PyData} {ds : List PyData} (h : DtL K H vs (d :: ds)) : ∃ v r, vs = v :: r ∧ Dt K H v d ∧ DtL K H r ds := by
  cases h with
  | cons a b => exact ⟨_, _, rfl, a, b⟩
theorem dtl_nil {K : PySem.W.Frag} {H : Hp} {vs : List V} (h : DtL K H vs []) : vs = [] := by
  cases h
  rfl
/-- what the top has left -/
structure Tops (P : Program) (w : World) (K : PySem.W.Frag) : Prop where
  tree : ∃ C, TreeIn K C
  err : ∃ Co, ErrIn P K Co
  acts : ∃ dq dp da dd de, ActsIn K w dq dp da dd de
  f0 : FnIn K "is_name" sIsName
  f1 : FnIn K "is_path" sIsPath
  f2 : FnIn K "is_place" sIsPlace
  f3 : FnIn K "is_line_sign" sSign
  f4 : FnIn K "is_line" sIsLine
  f5 : FnIn K "is_word" sIsWord
  f6 : FnIn K "is_lines" sIsLines
  f7 : FnIn K "is_inside" sIsInside
  f8 : FnIn K "are_apart" sApart
  f9 : FnIn K "are_files" sFiles
  f10 : FnIn K "tree_of" sTreeOf
  f11 : FnIn K "paths_under" s_paths_under
  f12 : FnIn K "is_question" s_is_question
  f13 : FnIn K "is_within" s_is_within
  f14 : FnIn K "check_action" s_check_action
  f15 : FnIn K "answer_read" s_answer_read
  f16 : FnIn K "answer_kind" s_answer_kind
  f17 : FnIn K "first_name" s_first_name
  f18 : FnIn K "answer_list" s_answer_list
  f19 : FnIn K "answer_find" s_answer_find
  f20 : FnIn K "answer_count" s_answer_count
  f21 : FnIn K "act" s_act
  f22 : FnIn K "paths_above" s_paths_above
  f23 : FnIn K "places_of" s_places_of
  f24 : FnIn K "do_write" s_do_write
  f25 : FnIn K "do_remove" s_do_remove
  f26 : FnIn K "do_move" s_do_move
  f27 : FnIn K "do_splice" s_do_splice
  f28 : FnIn K "feet_of" s_feet_of
  f29 : FnIn K "feet" s_feet
  f30 : FnIn K "foot_answer" s_foot_answer
  f31 : FnIn K "stand" s_stand
  f32 : FnIn K "_law_cell" sCell
  f33 : FnIn K "_law_digits" sDigits
  f34 : FnIn K "_law_draw" sDraw
  f35 : FnIn K "_law_path" sPath
  f36 : FnIn K "_law_line" sLine
  f37 : FnIn K "_law_lines" sLLines
  f38 : FnIn K "_law_inside" sLInside
  f39 : FnIn K "_law_blocked" sBlocked
  f40 : FnIn K "_law_files" sLFiles
  f41 : FnIn K "_law_rows" sRows
  f42 : FnIn K "_law_some_path" s_L_some_path
  f43 : FnIn K "_law_place" s_L_place
  f44 : FnIn K "_law_question" s_L_question
  f45 : FnIn K "_law_part" s_L_part
  f46 : FnIn K "_law_deed" s_L_deed
  f47 : FnIn K "_law_action" s_L_action
  f48 : FnIn K "_law_is_folder" sLIsFolder
  f49 : FnIn K "_law_names" s_L_names
  f50 : FnIn K "_law_found" s_L_found
  f51 : FnIn K "_law_asked" s_L_asked
  f52 : FnIn K "_law_spots" s_L_spots
  f53 : FnIn K "_law_refusal" s_L_refusal
  f54 : FnIn K "_law_act" s_L_act
  f55 : FnIn K "_law_run" s_L_run
  f56 : FnIn K "_law_feet" s_L_feet
  f57 : FnIn K "_law_stand" s_L_stand
  f58 : FnIn K "_law_alike" sAlike
  f59 : FnIn K "law" sLaw
  c_NAME_MOST : ∃ t, PySem.W.nsIn K mainGlobals "NAME_MOST" = some (some (.int 8 t))
  c_DEPTH_MOST : ∃ t, PySem.W.nsIn K mainGlobals "DEPTH_MOST" = some (some (.int 3 t))
  c_LINE_MOST : ∃ t, PySem.W.nsIn K mainGlobals "LINE_MOST" = some (some (.int 20 t))
  c_LINES_MOST : ∃ t, PySem.W.nsIn K mainGlobals "LINES_MOST" = some (some (.int 12 t))
  c_WORD_MOST : ∃ t, PySem.W.nsIn K mainGlobals "WORD_MOST" = some (some (.int 12 t))
  c_NAME_SIGNS : ∃ t, PySem.W.nsIn K mainGlobals "NAME_SIGNS" = some (some (.str "abcdefghijklmnopqrstuvwxyz0123456789" t))
  c_PERCENT : ∃ t, PySem.W.nsIn K mainGlobals "PERCENT" = some (some (.int 37 t))
  c_FILES_MOST : ∃ t, PySem.W.nsIn K mainGlobals "FILES_MOST" = some (some (.int 20 t))
  b_len : PySem.W.nsIn K mainGlobals "len" = some none
  b_all : PySem.W.nsIn K mainGlobals "all" = some none
  b_any : PySem.W.nsIn K mainGlobals "any" = some none
  b_ord : PySem.W.nsIn K mainGlobals "ord" = some none
  b_int : PySem.W.nsIn K mainGlobals "int" = some none
  b_range : PySem.W.nsIn K mainGlobals "range" = some none
  b_repr : PySem.W.nsIn K mainGlobals "repr" = some none
  b_tuple : PySem.W.nsIn K mainGlobals "tuple" = some none
  b_list : PySem.W.nsIn K mainGlobals "list" = some none
  b_dict : PySem.W.nsIn K mainGlobals "dict" = some none
  b_set : PySem.W.nsIn K mainGlobals "set" = some none
  b_sorted : PySem.W.nsIn K mainGlobals "sorted" = some none
  b_str : PySem.W.nsIn K mainGlobals "str" = some none
  b_isinstance : PySem.W.nsIn K mainGlobals "isinstance" = some none
  b_min : PySem.W.nsIn K mainGlobals "min" = some none
  b_max : PySem.W.nsIn K mainGlobals "max" = some none
  b_sum : PySem.W.nsIn K mainGlobals "sum" = some none
  b_bool : PySem.W.nsIn K mainGlobals "bool" = some none
  b_enumerate : PySem.W.nsIn K mainGlobals "enumerate" = some none
  b_zip : PySem.W.nsIn K mainGlobals "zip" = some none
  b_reversed : PySem.W.nsIn K mainGlobals "reversed" = some none
  b_abs : PySem.W.nsIn K mainGlobals "abs" = some none
theorem Tops.tx {P : Program} {w : World} {K : PySem.W.Frag} {mg : Str → Option Value} {h : Heap} (O : Tops P w K) (X : K.In h) (G : h.Ns mainGlobals mg) : Tx mg := by
  obtain ⟨t_NAME_MOST, e_NAME_MOST⟩ := O.c_NAME_MOST
  obtain ⟨t_DEPTH_MOST, e_DEPTH_MOST⟩ := O.c_DEPTH_MOST
  obtain ⟨t_LINE_MOST, e_LINE_MOST⟩ := O.c_LINE_MOST
  obtain ⟨t_LINES_MOST, e_LINES_MOST⟩ := O.c_LINES_MOST
  obtain ⟨t_WORD_MOST, e_WORD_MOST⟩ := O.c_WORD_MOST
  obtain ⟨t_NAME_SIGNS, e_NAME_SIGNS⟩ := O.c_NAME_SIGNS
  obtain ⟨t_PERCENT, e_PERCENT⟩ := O.c_PERCENT
  obtain ⟨t_FILES_MOST, e_FILES_MOST⟩ := O.c_FILES_MOST
  exact ⟨PySem.W.mg_none_of X G O.b_len, PySem.W.mg_none_of X G O.b_all, PySem.W.mg_none_of X G O.b_any, PySem.W.mg_none_of X G O.b_ord, PySem.W.mg_none_of X G O.b_int, PySem.W.mg_none_of X G O.b_range, PySem.W.mg_none_of X G O.b_repr, PySem.W.mg_none_of X G O.b_tuple, PySem.W.mg_none_of X G O.b_list, PySem.W.mg_none_of X G O.b_dict, PySem.W.mg_none_of X G O.b_set, PySem.W.mg_none_of X G O.b_sorted, PySem.W.mg_none_of X G O.b_str, PySem.W.mg_none_of X G O.b_isinstance, PySem.W.mg_none_of X G O.b_min, PySem.W.mg_none_of X G O.b_max, PySem.W.mg_none_of X G O.b_sum, PySem.W.mg_none_of X G O.b_bool, PySem.W.mg_none_of X G O.b_enumerate, PySem.W.mg_none_of X G O.b_zip, PySem.W.mg_none_of X G O.b_reversed, PySem.W.mg_none_of X G O.b_abs, ⟨_, PySem.W.mg_of X G e_NAME_MOST⟩, ⟨_, PySem.W.mg_of X G e_DEPTH_MOST⟩, ⟨_, PySem.W.mg_of X G e_LINE_MOST⟩, ⟨_, PySem.W.mg_of X G e_LINES_MOST⟩, ⟨_, PySem.W.mg_of X G e_WORD_MOST⟩, ⟨_, PySem.W.mg_of X G e_NAME_SIGNS⟩, ⟨_, PySem.W.mg_of X G e_PERCENT⟩, ⟨_, PySem.W.mg_of X G e_FILES_MOST⟩⟩
theorem all_mk {l : PySem.W.OpenLaw} {w : World} {K : PySem.W.Frag} {h : Heap} {mg : Str → Option Value} {fa : Addr} (X : K.In h) (G : h.Ns mainGlobals mg) (hfa : mg "law" = some (.ref fa)) (O : Tops l.prog w K) :
    ∃ fd : FuncData, (∀ (s : Shared) (v : Value), BindsTo s fd ⟨[v], []⟩ [("script", v)]) ∧ ∀ base : Heap, K.In base → base.Ns mainGlobals mg → FnG l.prog w K mg base CX0 13 fa fd ["script"] (spLaw K) := by
  have T := O.tx X G
  obtain ⟨a0, u0, v0, x0, y0, z0, c0, F0, m0, q0⟩ := O.f0.fn X G
  have b0 := F0.binds (ps := ["text"]) fun _ _ _ _ _ _ us hl => match us, hl with | [_], _ => rfl
  obtain ⟨a1, u1, v1, x1, y1, z1, c1, F1, m1, q1⟩ := O.f1.fn X G
  have b1 := F1.binds (ps := ["text"]) fun _ _ _ _ _ _ us hl => match us, hl with | [_], _ => rfl
  obtain ⟨a2, u2, v2, x2, y2, z2, c2, F2, m2, q2⟩ := O.f2.fn X G
  have b2 := F2.binds (ps := ["text"]) fun _ _ _ _ _ _ us hl => match us, hl with | [_], _ => rfl
  obtain ⟨a3, u3, v3, x3, y3, z3, c3, F3, m3, q3⟩ := O.f3.fn X G
  have b3 := F3.binds (ps := ["sign"]) fun _ _ _ _ _ _ us hl => match us, hl with | [_], _ => rfl
  obtain ⟨a4, u4, v4, x4, y4, z4, c4, F4, m4, q4⟩ := O.f4.fn X G
  have b4 := F4.binds (ps := ["text"]) fun _ _ _ _ _ _ us hl => match us, hl with | [_], _ => rfl
  obtain ⟨a5, u5, v5, x5, y5, z5, c5, F5, m5, q5⟩ := O.f5.fn X G
  have b5 := F5.binds (ps := ["text"]) fun _ _ _ _ _ _ us hl => match us, hl with | [_], _ => rfl
  obtain ⟨a6, u6, v6, x6, y6, z6, c6, F6, m6, q6⟩ := O.f6.fn X G
  have b6 := F6.binds (ps := ["lines"]) fun _ _ _ _ _ _ us hl => match us, hl with | [_], _ => rfl
  obtain ⟨a7, u7, v7, x7, y7, z7, c7, F7, m7, q7⟩ := O.f7.fn X G
  have b7 := F7.binds (ps := ["path", "place"]) fun _ _ _ _ _ _ us hl => match us, hl with | [_, _], _ => rfl
  obtain ⟨a8, u8, v8, x8, y8, z8, c8, F8, m8, q8⟩ := O.f8.fn X G
  have b8 := F8.binds (ps := ["paths"]) fun _ _ _ _ _ _ us hl => match us, hl with | [_], _ => rfl
  obtain ⟨a9, u9, v9, x9, y9, z9, c9, F9, m9, q9⟩ := O.f9.fn X G
  have b9 := F9.binds (ps := ["files"]) fun _ _ _ _ _ _ us hl => match us, hl with | [_], _ => rfl
  obtain ⟨a10, u10, v10, x10, y10, z10, c10, F10, m10, q10⟩ := O.f10.fn X G
  have b10 := F10.binds (ps := ["table"]) fun _ _ _ _ _ _ us hl => match us, hl with | [_], _ => rfl
  obtain ⟨a11, u11, v11, x11, y11, z11, c11, F11, m11, q11⟩ := O.f11.fn X G
  have b11 := F11.binds (ps := ["tree", "place"]) fun _ _ _ _ _ _ us hl => match us, hl with | [_, _], _ => rfl
  obtain ⟨a12, u12, v12, x12, y12, z12, c12, F12, m12, q12⟩ := O.f12.fn X G
  have b12 := F12.binds (ps := ["action"]) fun _ _ _ _ _ _ us hl => match us, hl with | [_], _ => rfl
  obtain ⟨a13, u13, v13, x13, y13, z13, c13, F13, m13, q13⟩ := O.f13.fn X G
  have b13 := F13.binds (ps := ["name", "item"]) fun _ _ _ _ _ _ us hl => match us, hl with | [_, _], _ => rfl
  obtain ⟨a14, u14, v14, x14, y14, z14, c14, F14, m14, q14⟩ := O.f14.fn X G
  have b14 := F14.binds (ps := ["action"]) fun _ _ _ _ _ _ us hl => match us, hl with | [_], _ => rfl
  obtain ⟨a15, u15, v15, x15, y15, z15, c15, F15, m15, q15⟩ := O.f15.fn X G
  have b15 := F15.binds (ps := ["tree", "path"]) fun _ _ _ _ _ _ us hl => match us, hl with | [_, _], _ => rfl
  obtain ⟨a16, u16, v16, x16, y16, z16, c16, F16, m16, q16⟩ := O.f16.fn X G
  have b16 := F16.binds (ps := ["tree", "place"]) fun _ _ _ _ _ _ us hl => match us, hl with | [_, _], _ => rfl
  obtain ⟨a17, u17, v17, x17, y17, z17, c17, F17, m17, q17⟩ := O.f17.fn X G
  have b17 := F17.binds (ps := ["path"]) fun _ _ _ _ _ _ us hl => match us, hl with | [_], _ => rfl
  obtain ⟨a18, u18, v18, x18, y18, z18, c18, F18, m18, q18⟩ := O.f18.fn X G
  have b18 := F18.binds (ps := ["tree", "place"]) fun _ _ _ _ _ _ us hl => match us, hl with | [_, _], _ => rfl
  obtain ⟨a19, u19, v19, x19, y19, z19, c19, F19, m19, q19⟩ := O.f19.fn X G
  have b19 := F19.binds (ps := ["tree", "place", "word"]) fun _ _ _ _ _ _ us hl => match us, hl with | [_, _, _], _ => rfl
  obtain ⟨a20, u20, v20, x20, y20, z20, c20, F20, m20, q20⟩ := O.f20.fn X G
  have b20 := F20.binds (ps := ["tree", "place"]) fun _ _ _ _ _ _ us hl => match us, hl with | [_, _], _ => rfl
  obtain ⟨a21, u21, v21, x21, y21, z21, c21, F21, m21, q21⟩ := O.f21.fn X G
  have b21 := F21.binds (ps := ["tree", "action"]) fun _ _ _ _ _ _ us hl => match us, hl with | [_, _], _ => rfl
  obtain ⟨a22, u22, v22, x22, y22, z22, c22, F22, m22, q22⟩ := O.f22.fn X G
  have b22 := F22.binds (ps := ["tree", "path"]) fun _ _ _ _ _ _ us hl => match us, hl with | [_, _], _ => rfl
  obtain ⟨a23, u23, v23, x23, y23, z23, c23, F23, m23, q23⟩ := O.f23.fn X G
  have b23 := F23.binds (ps := ["lines", "part"]) fun _ _ _ _ _ _ us hl => match us, hl with | [_, _], _ => rfl
  obtain ⟨a24, u24, v24, x24, y24, z24, c24, F24, m24, q24⟩ := O.f24.fn X G
  have b24 := F24.binds (ps := ["tree", "path", "lines"]) fun _ _ _ _ _ _ us hl => match us, hl with | [_, _, _], _ => rfl
  obtain ⟨a25, u25, v25, x25, y25, z25, c25, F25, m25, q25⟩ := O.f25.fn X G
  have b25 := F25.binds (ps := ["tree", "path"]) fun _ _ _ _ _ _ us hl => match us, hl with | [_, _], _ => rfl
  obtain ⟨a26, u26, v26, x26, y26, z26, c26, F26, m26, q26⟩ := O.f26.fn X G
  have b26 := F26.binds (ps := ["tree", "path", "target"]) fun _ _ _ _ _ _ us hl => match us, hl with | [_, _, _], _ => rfl
  obtain ⟨a27, u27, v27, x27, y27, z27, c27, F27, m27, q27⟩ := O.f27.fn X G
  have b27 := F27.binds (ps := ["tree", "path", "old", "new"]) fun _ _ _ _ _ _ us hl => match us, hl with | [_, _, _, _], _ => rfl
  obtain ⟨a28, u28, v28, x28, y28, z28, c28, F28, m28, q28⟩ := O.f28.fn X G
  have b28 := F28.binds (ps := ["action"]) fun _ _ _ _ _ _ us hl => match us, hl with | [_], _ => rfl
  obtain ⟨a29, u29, v29, x29, y29, z29, c29, F29, m29, q29⟩ := O.f29.fn X G
  have b29 := F29.binds (ps := ["journal"]) fun _ _ _ _ _ _ us hl => match us, hl with | [_], _ => rfl
  obtain ⟨a30, u30, v30, x30, y30, z30, c30, F30, m30, q30⟩ := O.f30.fn X G
  have b30 := F30.binds (ps := ["foot", "tree"]) fun _ _ _ _ _ _ us hl => match us, hl with | [_, _], _ => rfl
  obtain ⟨a31, u31, v31, x31, y31, z31, c31, F31, m31, q31⟩ := O.f31.fn X G
  have b31 := F31.binds (ps := ["feet", "tree"]) fun _ _ _ _ _ _ us hl => match us, hl with | [_, _], _ => rfl
  obtain ⟨a32, u32, v32, x32, y32, z32, c32, F32, m32, q32⟩ := O.f32.fn X G
  have b32 := F32.binds (ps := ["script", "k"]) fun _ _ _ _ _ _ us hl => match us, hl with | [_, _], _ => rfl
  obtain ⟨a33, u33, v33, x33, y33, z33, c33, F33, m33, q33⟩ := O.f33.fn X G
  have b33 := F33.binds (ps := ["script", "first", "last"]) fun _ _ _ _ _ _ us hl => match us, hl with | [_, _, _], _ => rfl
  obtain ⟨a34, u34, v34, x34, y34, z34, c34, F34, m34, q34⟩ := O.f34.fn X G
  have b34 := F34.binds (ps := ["box", "many"]) fun _ _ _ _ _ _ us hl => match us, hl with | [_, _], _ => rfl
  obtain ⟨a35, u35, v35, x35, y35, z35, c35, F35, m35, q35⟩ := O.f35.fn X G
  have b35 := F35.binds (ps := ["box"]) fun _ _ _ _ _ _ us hl => match us, hl with | [_], _ => rfl
  obtain ⟨a36, u36, v36, x36, y36, z36, c36, F36, m36, q36⟩ := O.f36.fn X G
  have b36 := F36.binds (ps := ["box"]) fun _ _ _ _ _ _ us hl => match us, hl with | [_], _ => rfl
  obtain ⟨a37, u37, v37, x37, y37, z37, c37, F37, m37, q37⟩ := O.f37.fn X G
  have b37 := F37.binds (ps := ["box", "most"]) fun _ _ _ _ _ _ us hl => match us, hl with | [_, _], _ => rfl
  obtain ⟨a38, u38, v38, x38, y38, z38, c38, F38, m38, q38⟩ := O.f38.fn X G
  have b38 := F38.binds (ps := ["path", "place"]) fun _ _ _ _ _ _ us hl => match us, hl with | [_, _], _ => rfl
  obtain ⟨a39, u39, v39, x39, y39, z39, c39, F39, m39, q39⟩ := O.f39.fn X G
  have b39 := F39.binds (ps := ["files", "path"]) fun _ _ _ _ _ _ us hl => match us, hl with | [_, _], _ => rfl
  obtain ⟨a40, u40, v40, x40, y40, z40, c40, F40, m40, q40⟩ := O.f40.fn X G
  have b40 := F40.binds (ps := ["box", "most"]) fun _ _ _ _ _ _ us hl => match us, hl with | [_, _], _ => rfl
  obtain ⟨a41, u41, v41, x41, y41, z41, c41, F41, m41, q41⟩ := O.f41.fn X G
  have b41 := F41.binds (ps := ["files"]) fun _ _ _ _ _ _ us hl => match us, hl with | [_], _ => rfl
  obtain ⟨a42, u42, v42, x42, y42, z42, c42, F42, m42, q42⟩ := O.f42.fn X G
  have b42 := F42.binds (ps := ["box", "files"]) fun _ _ _ _ _ _ us hl => match us, hl with | [_, _], _ => rfl
  obtain ⟨a43, u43, v43, x43, y43, z43, c43, F43, m43, q43⟩ := O.f43.fn X G
  have b43 := F43.binds (ps := ["box", "files"]) fun _ _ _ _ _ _ us hl => match us, hl with | [_, _], _ => rfl
  obtain ⟨a44, u44, v44, x44, y44, z44, c44, F44, m44, q44⟩ := O.f44.fn X G
  have b44 := F44.binds (ps := ["box", "files"]) fun _ _ _ _ _ _ us hl => match us, hl with | [_, _], _ => rfl
  obtain ⟨a45, u45, v45, x45, y45, z45, c45, F45, m45, q45⟩ := O.f45.fn X G
  have b45 := F45.binds (ps := ["box", "lines"]) fun _ _ _ _ _ _ us hl => match us, hl with | [_, _], _ => rfl
  obtain ⟨a46, u46, v46, x46, y46, z46, c46, F46, m46, q46⟩ := O.f46.fn X G
  have b46 := F46.binds (ps := ["box", "files"]) fun _ _ _ _ _ _ us hl => match us, hl with | [_, _], _ => rfl
  obtain ⟨a47, u47, v47, x47, y47, z47, c47, F47, m47, q47⟩ := O.f47.fn X G
  have b47 := F47.binds (ps := ["box", "files"]) fun _ _ _ _ _ _ us hl => match us, hl with | [_, _], _ => rfl
  obtain ⟨a48, u48, v48, x48, y48, z48, c48, F48, m48, q48⟩ := O.f48.fn X G
  have b48 := F48.binds (ps := ["files", "place"]) fun _ _ _ _ _ _ us hl => match us, hl with | [_, _], _ => rfl
  obtain ⟨a49, u49, v49, x49, y49, z49, c49, F49, m49, q49⟩ := O.f49.fn X G
  have b49 := F49.binds (ps := ["files", "place"]) fun _ _ _ _ _ _ us hl => match us, hl with | [_, _], _ => rfl
  obtain ⟨a50, u50, v50, x50, y50, z50, c50, F50, m50, q50⟩ := O.f50.fn X G
  have b50 := F50.binds (ps := ["files", "place", "word"]) fun _ _ _ _ _ _ us hl => match us, hl with | [_, _, _], _ => rfl
  obtain ⟨a51, u51, v51, x51, y51, z51, c51, F51, m51, q51⟩ := O.f51.fn X G
  have b51 := F51.binds (ps := ["files", "action"]) fun _ _ _ _ _ _ us hl => match us, hl with | [_, _], _ => rfl
  obtain ⟨a52, u52, v52, x52, y52, z52, c52, F52, m52, q52⟩ := O.f52.fn X G
  have b52 := F52.binds (ps := ["lines", "old"]) fun _ _ _ _ _ _ us hl => match us, hl with | [_, _], _ => rfl
  obtain ⟨a53, u53, v53, x53, y53, z53, c53, F53, m53, q53⟩ := O.f53.fn X G
  have b53 := F53.binds (ps := ["files", "action"]) fun _ _ _ _ _ _ us hl => match us, hl with | [_, _], _ => rfl
  obtain ⟨a54, u54, v54, x54, y54, z54, c54, F54, m54, q54⟩ := O.f54.fn X G
  have b54 := F54.binds (ps := ["files", "action"]) fun _ _ _ _ _ _ us hl => match us, hl with | [_, _], _ => rfl
  obtain ⟨a55, u55, v55, x55, y55, z55, c55, F55, m55, q55⟩ := O.f55.fn X G
  have b55 := F55.binds (ps := ["files", "actions"]) fun _ _ _ _ _ _ us hl => match us, hl with | [_, _], _ => rfl
  obtain ⟨a56, u56, v56, x56, y56, z56, c56, F56, m56, q56⟩ := O.f56.fn X G
  have b56 := F56.binds (ps := ["journal"]) fun _ _ _ _ _ _ us hl => match us, hl with | [_], _ => rfl
  obtain ⟨a57, u57, v57, x57, y57, z57, c57, F57, m57, q57⟩ := O.f57.fn X G
  have b57 := F57.binds (ps := ["rows", "files"]) fun _ _ _ _ _ _ us hl => match us, hl with | [_, _], _ => rfl
  obtain ⟨a58, u58, v58, x58, y58, z58, c58, F58, m58, q58⟩ := O.f58.fn X G
  have b58 := F58.binds (ps := ["one", "two"]) fun _ _ _ _ _ _ us hl => match us, hl with | [_, _], _ => rfl
  obtain ⟨a59, u59, v59, x59, y59, z59, c59, F59, m59, q59⟩ := O.f59.fn X G
  obtain ⟨C, TI⟩ := O.tree
  obtain ⟨Co, EI⟩ := O.err
  obtain ⟨dq, dp, da, dd, de, AC⟩ := O.acts
  obtain ⟨ta0, tu0, tv0, tx0, ty0, tz0, tc0, TF0, tm0⟩ := TI.m0.fn
  have tb0 := TF0.binds (ps := ["self"]) fun _ _ _ _ _ _ us hl => match us, hl with | [_], _ => rfl
  obtain ⟨ta1, tu1, tv1, tx1, ty1, tz1, tc1, TF1, tm1⟩ := TI.m1.fn
  have tb1 := TF1.binds (ps := ["self", "path"]) fun _ _ _ _ _ _ us hl => match us, hl with | [_, _], _ => rfl
  obtain ⟨ta2, tu2, tv2, tx2, ty2, tz2, tc2, TF2, tm2⟩ := TI.m2.fn
  have tb2 := TF2.binds (ps := ["self", "place"]) fun _ _ _ _ _ _ us hl => match us, hl with | [_, _], _ => rfl
  obtain ⟨ta3, tu3, tv3, tx3, ty3, tz3, tc3, TF3, tm3⟩ := TI.m3.fn
  have tb3 := TF3.binds (ps := ["self", "place"]) fun _ _ _ _ _ _ us hl => match us, hl with | [_, _], _ => rfl
  obtain ⟨ta4, tu4, tv4, tx4, ty4, tz4, tc4, TF4, tm4⟩ := TI.m4.fn
  have tb4 := TF4.binds (ps := ["self", "path", "lines"]) fun _ _ _ _ _ _ us hl => match us, hl with | [_, _, _], _ => rfl
  obtain ⟨ta5, tu5, tv5, tx5, ty5, tz5, tc5, TF5, tm5⟩ := TI.m5.fn
  have tb5 := TF5.binds (ps := ["self", "path"]) fun _ _ _ _ _ _ us hl => match us, hl with | [_, _], _ => rfl
  obtain ⟨fi, TT, e0, od, an, sl, oc, kV, dc, pm, cd, ct, o, o0, n, n0, mi, lk, hc, lT, oT, l0, c0', o0d⟩ := TI.init
  have FD : FunD K "__init__" "Tree.__init__" (defArgs sInit) (defBody sInit) (defScope sInit) [V.ref e0] [] fi (PySem.W.fnOf "__init__" "Tree.__init__" (defArgs sInit) (defBody sInit) (defScope sInit) (.ref TT) kV dc pm an cd ct) :=
    ⟨⟨oc, od, _, kV, dc, pm, an, cd, ct, sl, rfl, lk, hc, .inr ⟨by simp, TT, o, [.ref e0], n, rfl, lT, oT, .cons rfl .nil⟩, .inl rfl⟩, mi.kp⟩
  obtain ⟨ds1, vd1, bd1⟩ := FD.binds1 (ps := ["self", "files"]) 2 1 (by simp) rfl fun T kV doc pm an cdv ct us its hu hi => match us, hu, its, hi with | [_, _], _, [_], _ => ⟨_, rfl, rfl⟩
  obtain rfl : ds1 = [] := by cases vd1; rfl
  obtain ⟨ds0, vd0, bd0⟩ := FD.binds1 (ps := ["self", "files"]) 1 0 (by simp) rfl fun T kV doc pm an cdv ct us its hu hi => match us, hu, its, hi with | [_], _, [_], _ => ⟨_, rfl, rfl⟩
  have he0 : ∀ H : Hp, SqT K H e0 [] := fun H => .inr ⟨o0, #[], n0, l0, c0', o0d, Nat.zero_le _, .nil⟩
  obtain ⟨fo, cc, cO, fdo, SI, iO, tO⟩ := EI.init
  have bO : Binds K fdo ["self", "name"] [] := by
    obtain ⟨_, _, _, _, _, _, _, _, _, doc, pm, ctv, _, _, _, _, rfl, _⟩ := SI.ex
    exact .all fun us hl => match us, hl with | [_, _], _ => rfl
  have gO := PySem.W.mg_of X G EI.go
  have gT := PySem.W.mg_of X G TI.gl
  have e := hfa.symm.trans m59
  cases e
  refine ⟨PySem.W.fnOf "law" "law" (defArgs sLaw) (defBody sLaw) (defScope sLaw) .none u59 v59 x59 y59 z59 c59, fun s v => .of_eq rfl, fun base _ _ => ?_⟩
  have G0 := ok_is_name (P := l.prog) (w := w) (base := base) F0 T
  have G1 := ok_is_path (P := l.prog) (w := w) (base := base) F1 T G0 m0 F0.kp b0
  have G2 := ok_is_place (P := l.prog) (w := w) (base := base) F2 G1 m1 F1.kp b1
  have G3 := ok_sign (P := l.prog) (w := w) (base := base) F3 T
  have G4 := ok_is_line (P := l.prog) (w := w) (base := base) F4 T G3 m3 F3.kp b3
  have G5 := ok_is_word (P := l.prog) (w := w) (base := base) F5 T G3 m3 F3.kp b3
  have G6 := ok_is_lines (P := l.prog) (w := w) (base := base) F6 T G4 m4 F4.kp b4
  have G7 := ok_is_inside (P := l.prog) (w := w) (base := base) (K := K) (mg := mg) F7
  have G8 := ok_apart (P := l.prog) (w := w) (base := base) F8 T G7 m7 F7.kp b7
  have G9 := ok_files (P := l.prog) (w := w) (base := base) F9 T G1 m1 F1.kp b1 G6 m6 F6.kp b6 G8 m8 F8.kp b8
  have OO : OorC l.prog w K mg base Co fo fdo := ⟨ok_oor SI EI.sc (PySem.W.mg_none_of X G EI.sup) EI.top EI.nm, EI.sc.toOexC, iO, tO, bO, gO⟩
  have GI := ok_init (P := l.prog) (w := w) (base := base) FD T TI.cls.cl TI.cls.nt G9 m9 F9.kp b9 OO
  have MK : Mk K C fi := ⟨TI.mkI, mi.at_, mi.fn, TI.kp⟩
  have G10 := ok_treeof (P := l.prog) (w := w) (base := base) (fo := fo) (fdo := fdo) F10 T TI.cls MK GI gT bd0 vd0 he0
  have J0 := ok_tfiles (P := l.prog) (w := w) (base := base) (mg := mg) TF0 T TI.cls
  have J1 := ok_tlines (P := l.prog) (w := w) (base := base) (mg := mg) TF1 T TI.cls
  have J2 := ok_tpaths (P := l.prog) (w := w) (base := base) TF2 T TI.cls G7 m7 F7.kp b7
  have J3 := ok_tisfolder (P := l.prog) (w := w) (base := base) TF3 T TI.cls J2 tm2 tb2
  have J4 := ok_twith (P := l.prog) (w := w) (base := base) TF4 T TI.cls G10 m10 F10.kp b10
  have J5 := ok_twithout (P := l.prog) (w := w) (base := base) TF5 T TI.cls G10 m10 F10.kp b10
  have M : TreeM l.prog w K mg base C := ⟨TI.cls, ⟨_, _, J0, tm0, tb0⟩, ⟨_, _, J1, tm1, tb1⟩, ⟨_, _, J2, tm2, tb2⟩, ⟨_, _, J3, tm3, tb3⟩, ⟨_, _, J4, tm4, tb4⟩, ⟨_, _, J5, tm5, tb5⟩⟩
  have QI : QsIn K mg := ⟨dq, PySem.W.mg_of X G AC.q, fun H => AC.wq.sq H⟩
  obtain ⟨ep, np, kp⟩ := AC.p.kd
  have PT : PtsIn K w mg := by
    refine ⟨dp, ep, np, PySem.W.mg_of X G AC.p.gl, kp, fun a => ?_⟩
    cases a with
    | read =>
      obtain ⟨t, e, wd⟩ := AC.p_read.ex
      exact ⟨t, e, fun H => wd.sq H⟩
    | kind =>
      obtain ⟨t, e, wd⟩ := AC.p_kind.ex
      exact ⟨t, e, fun H => wd.sq H⟩
    | list =>
      obtain ⟨t, e, wd⟩ := AC.p_list.ex
      exact ⟨t, e, fun H => wd.sq H⟩
    | find =>
      obtain ⟨t, e, wd⟩ := AC.p_find.ex
      exact ⟨t, e, fun H => wd.sq H⟩
    | count =>
      obtain ⟨t, e, wd⟩ := AC.p_count.ex
      exact ⟨t, e, fun H => wd.sq H⟩
    | write =>
      obtain ⟨t, e, wd⟩ := AC.p_write.ex
      exact ⟨t, e, fun H => wd.sq H⟩
    | remove =>
      obtain ⟨t, e, wd⟩ := AC.p_remove.ex
      exact ⟨t, e, fun H => wd.sq H⟩
    | move =>
      obtain ⟨t, e, wd⟩ := AC.p_move.ex
      exact ⟨t, e, fun H => wd.sq H⟩
    | splice =>
      obtain ⟨t, e, wd⟩ := AC.p_splice.ex
      exact ⟨t, e, fun H => wd.sq H⟩
  have G11 := ok_under (P := l.prog) (w := w) (base := base) F11 M
  have G12 := ok_isQ (P := l.prog) (w := w) (base := base) F12 T QI
  have G13 := ok_within (P := l.prog) (w := w) (base := base) F13 T ⟨_, _, G2, m2, F2.kp, b2⟩ ⟨_, _, G5, m5, F5.kp, b5⟩ ⟨_, _, G1, m1, F1.kp, b1⟩ ⟨_, _, G6, m6, F6.kp, b6⟩
  have G14 := ok_check (P := l.prog) (w := w) (base := base) F14 T PT ⟨_, _, G13, m13, F13.kp, b13⟩ OO
  have G15 := ok_aread (P := l.prog) (w := w) (base := base) F15 M
  have G16 := ok_akind (P := l.prog) (w := w) (base := base) F16 M
  have G20 := ok_acount (P := l.prog) (w := w) (base := base) F20 T M
  have G17 := ok_first (P := l.prog) (w := w) (base := base) (K := K) F17 T
  have G18 := ok_alist (P := l.prog) (w := w) (base := base) F18 T M ⟨_, _, G17, m17, F17.kp, b17⟩
  have G19 := ok_afind (P := l.prog) (w := w) (base := base) F19 T M ⟨_, _, G11, m11, F11.kp, b11⟩
  obtain ⟨ea, na, ka⟩ := AC.a.kd
  obtain ⟨ed, nd, kd⟩ := AC.d.kd
  have AI : AskIn l.prog w K mg base C 9 := by
    refine ⟨da, ea, na, PySem.W.mg_of X G AC.a.gl, ka, fun a ha => ?_⟩
    cases a with
    | read p =>
      refine ⟨_, _, AC.a_read.at q15, (G15.raw b15 .nil).mono (by decide), F15.kp, fun p fs vs H Q tr sm few oks sa hb dl k => ?_⟩
      obtain ⟨v1, vs1, rfl, d1, r1⟩ := dtl_cons dl
      obtain rfl := dtl_nil r1
      obtain rfl := d1.strE
      exact ⟨p, _, fs, rfl, tr, sm, sa _ List.mem_cons_self, fun H' v s d => k H' v s d⟩
    | kind p =>
      refine ⟨_, _, AC.a_kind.at q16, (G16.raw b16 .nil).mono (by decide), F16.kp, fun p fs vs H Q tr sm few oks sa hb dl k => ?_⟩
      obtain ⟨v1, vs1, rfl, d1, r1⟩ := dtl_cons dl
      obtain rfl := dtl_nil r1
      obtain rfl := d1.strE
      exact ⟨p, _, fs, rfl, tr, sm, sa _ List.mem_cons_self, fun H' v s d => k H' v s d⟩
    | list p =>
      refine ⟨_, _, AC.a_list.at q18, (G18.raw b18 .nil).mono (by decide), F18.kp, fun p fs vs H Q tr sm few oks sa hb dl k => ?_⟩
      obtain ⟨v1, vs1, rfl, d1, r1⟩ := dtl_cons dl
      obtain rfl := dtl_nil r1
      obtain rfl := d1.strE
      exact ⟨p, _, fs, rfl, tr, sm, sa _ List.mem_cons_self, fun H' v s d => k H' v s d⟩
    | find p z =>
      refine ⟨_, _, AC.a_find.at q19, (G19.raw b19 .nil).mono (by decide), F19.kp, fun p fs vs H Q tr sm few oks sa hb dl k => ?_⟩
      obtain ⟨v1, vs1, rfl, d1, r1⟩ := dtl_cons dl
      obtain ⟨v2, vs2, rfl, d2, r2⟩ := dtl_cons r1
      obtain rfl := dtl_nil r2
      obtain rfl := d1.strE
      obtain rfl := d2.strE
      exact ⟨p, _, _, fs, rfl, tr, sm, sa _ List.mem_cons_self, fun H' v s d => k H' v s d⟩
    | count p =>
      refine ⟨_, _, AC.a_count.at q20, (G20.raw b20 .nil).mono (by decide), F20.kp, fun p fs vs H Q tr sm few oks sa hb dl k => ?_⟩
      obtain ⟨v1, vs1, rfl, d1, r1⟩ := dtl_cons dl
      obtain rfl := dtl_nil r1
      obtain rfl := d1.strE
      exact ⟨p, _, fs, rfl, tr, sm, sa _ List.mem_cons_self, fun H' v s d => k H' v s d⟩
    | write => simp [isQ] at ha
    | remove => simp [isQ] at ha
    | move => simp [isQ] at ha
    | splice => simp [isQ] at ha
  have G22 := ok_above (P := l.prog) (w := w) (base := base) F22 T M ⟨_, _, G7, m7, F7.kp, b7⟩
  have G23 := ok_places (P := l.prog) (w := w) (base := base) (K := K) F23 T
  have G24 := ok_write (P := l.prog) (w := w) (base := base) F24 T M ⟨_, _, G22, m22, F22.kp, b22⟩
  have G25 := ok_remove (P := l.prog) (w := w) (base := base) F25 M
  have G26 := ok_move (P := l.prog) (w := w) (base := base) F26 T M ⟨_, _, G11, m11, F11.kp, b11⟩ ⟨_, _, G22, m22, F22.kp, b22⟩
  have G27 := ok_splice (P := l.prog) (w := w) (base := base) F27 T M ⟨_, _, G23, m23, F23.kp, b23⟩
  have DI : DoIn l.prog w K mg base C (fun _ => true) 9 := by
    refine ⟨dd, ed, nd, PySem.W.mg_of X G AC.d.gl, kd, fun a ha => ?_⟩
    cases a with
    | write p l => exact ⟨_, _, AC.d_write.at q24, (G24.raw b24 .nil).mono (by decide), F24.kp, fun p' fs vs H Q tr sm few oks sa hb dl k => ⟨p', fs, _, vs, by rw [List.append_nil], ⟨_, _, rfl⟩, dl, tr, sm, oks, few, sa, hb, k⟩⟩
    | remove p => exact ⟨_, _, AC.d_remove.at q25, (G25.raw b25 .nil).mono (by decide), F25.kp, fun p' fs vs H Q tr sm few oks sa hb dl k => ⟨p', fs, _, vs, by rw [List.append_nil], ⟨_, rfl⟩, dl, tr, sm, oks, few, sa, hb, k⟩⟩
    | move p t => exact ⟨_, _, AC.d_move.at q26, (G26.raw b26 .nil).mono (by decide), F26.kp, fun p' fs vs H Q tr sm few oks sa hb dl k => ⟨p', fs, _, vs, by rw [List.append_nil], ⟨_, _, rfl⟩, dl, tr, sm, oks, few, sa, hb, k⟩⟩
    | splice p o n => exact ⟨_, _, AC.d_splice.at q27, (G27.raw b27 .nil).mono (by decide), F27.kp, fun p' fs vs H Q tr sm few oks sa hb dl k => ⟨p', fs, _, vs, by rw [List.append_nil], ⟨_, _, _, rfl⟩, dl, tr, sm, oks, few, sa, hb, k⟩⟩
    | read => simp [isQ] at ha
    | kind => simp [isQ] at ha
    | list => simp [isQ] at ha
    | find => simp [isQ] at ha
    | count => simp [isQ] at ha
  have G21 := ok_act (P := l.prog) (w := w) (base := base) (fo := fo) (fdo := fdo) F21 T TI.cls ⟨_, _, G14, m14, F14.kp, b14⟩ ⟨_, _, G12, m12, F12.kp, b12⟩ AI DI
  have G32 := ok_cell (P := l.prog) (w := w) (base := base) F32 T
  have G33 := ok_digits (P := l.prog) (w := w) (base := base) F33 T G32 m32 F32.kp b32
  have G34 := ok_draw (P := l.prog) (w := w) (base := base) (K := K) F34 T
  have G35 := ok_path F35 T G34 m34 F34.kp b34
  have G36 := ok_line F36 G34 m34 F34.kp b34
  have G38 := ok_linside (P := l.prog) (w := w) (base := base) (K := K) F38 T
  have G58 := ok_alike (P := l.prog) (w := w) (base := base) F58 T
  have G37 := ok_llines (P := l.prog) (w := w) (base := base) F37 T ⟨_, _, G34, m34, F34.kp, b34⟩ ⟨_, _, G36, m36, F36.kp, b36⟩
  have G39 := ok_blocked (P := l.prog) (w := w) (base := base) F39 T ⟨_, _, G38, m38, F38.kp, b38⟩
  have G40 := ok_lfiles (P := l.prog) (w := w) (base := base) F40 T ⟨_, _, G34, m34, F34.kp, b34⟩ ⟨_, _, G35, m35, F35.kp, b35⟩ ⟨_, _, G37, m37, F37.kp, b37⟩ ⟨_, _, G39, m39, F39.kp, b39⟩
  have G41 := ok_rows (P := l.prog) (w := w) (base := base) F41 T
  have G48 := ok_lisfolder (P := l.prog) (w := w) (base := base) F48 T ⟨_, _, G38, m38, F38.kp, b38⟩
  have G49 := ok_names (P := l.prog) (w := w) (base := base) F49 T ⟨_, _, G38, m38, F38.kp, b38⟩
  have G50 := ok_found (P := l.prog) (w := w) (base := base) F50 T ⟨_, _, G38, m38, F38.kp, b38⟩
  have G51 := ok_asked (P := l.prog) (w := w) (base := base) F51 T ⟨_, _, G38, m38, F38.kp, b38⟩ ⟨_, _, G48, m48, F48.kp, b48⟩ ⟨_, _, G49, m49, F49.kp, b49⟩ ⟨_, _, G50, m50, F50.kp, b50⟩
  have G42 := ok_some (P := l.prog) (w := w) (base := base) F42 T ⟨_, _, G34, m34, F34.kp, b34⟩ ⟨_, _, G35, m35, F35.kp, b35⟩
  have G43 := ok_place (P := l.prog) (w := w) (base := base) F43 T ⟨_, _, G34, m34, F34.kp, b34⟩ ⟨_, _, G42, m42, F42.kp, b42⟩
  have G44 := ok_quest (P := l.prog) (w := w) (base := base) F44 T ⟨_, _, G34, m34, F34.kp, b34⟩ ⟨_, _, G42, m42, F42.kp, b42⟩ ⟨_, _, G43, m43, F43.kp, b43⟩
  have G52 := ok_spots (P := l.prog) (w := w) (base := base) (K := K) F52 T
  have GBK := FnOk.or G39 (ok_blkL (P := l.prog) (w := w) (base := base) F39 T ⟨_, _, G38, m38, F38.kp, b38⟩)
  have G53 := ok_refusal (P := l.prog) (w := w) (base := base) F53 T ⟨_, _, GBK, m39, F39.kp, b39⟩ ⟨_, _, G52, m52, F52.kp, b52⟩
  have G54 := ok_lact (P := l.prog) (w := w) (base := base) F54 T ⟨_, _, G51, m51, F51.kp, b51⟩ ⟨_, _, G53, m53, F53.kp, b53⟩ ⟨_, _, G52, m52, F52.kp, b52⟩
  have G45 := ok_part (P := l.prog) (w := w) (base := base) F45 T ⟨_, _, G34, m34, F34.kp, b34⟩ ⟨_, _, G36, m36, F36.kp, b36⟩
  have G46 := ok_deed (P := l.prog) (w := w) (base := base) F46 T ⟨_, _, G34, m34, F34.kp, b34⟩ ⟨_, _, G42, m42, F42.kp, b42⟩ ⟨_, _, G37, m37, F37.kp, b37⟩ ⟨_, _, G45, m45, F45.kp, b45⟩
  have G47 := ok_action (P := l.prog) (w := w) (base := base) F47 T ⟨_, _, G34, m34, F34.kp, b34⟩ ⟨_, _, G44, m44, F44.kp, b44⟩ ⟨_, _, G46, m46, F46.kp, b46⟩
  have CT : CatC K mg Co := ⟨gO, EI.exm, EI.xf, EI.nm⟩
  have TK : TreeK l.prog w K mg base C Co := ⟨gT, fi, e0, _, ds0, MK, GI, bd1, bd0, vd0, he0⟩
  have G54A := ok_lactA (P := l.prog) (w := w) (base := base) F54 T ⟨_, _, G51, m51, F51.kp, b51⟩ ⟨_, _, G53, m53, F53.kp, b53⟩ ⟨_, _, G52, m52, F52.kp, b52⟩
  have G28 := ok_feetof (P := l.prog) (w := w) (base := base) (mg := mg) F28
  have G29 := ok_feet (P := l.prog) (w := w) (base := base) F29 T ⟨_, _, G28, m28, F28.kp, b28⟩
  have G30 := ok_footans (P := l.prog) (w := w) (base := base) F30 T M ⟨_, _, G11, m11, F11.kp, b11⟩ ⟨_, _, G22, m22, F22.kp, b22⟩ ⟨_, _, G21, m21, F21.kp, b21⟩
  have G31 := ok_stand (P := l.prog) (w := w) (base := base) F31 T ⟨_, _, G30, m30, F30.kp, b30⟩
  have G55 := ok_lrun (P := l.prog) (w := w) (base := base) F55 ⟨_, _, G54A, m54, F54.kp, b54⟩
  have G56 := ok_lfeet (P := l.prog) (w := w) (base := base) F56 T
  have G57 := ok_lstand (P := l.prog) (w := w) (base := base) F57 T ⟨_, _, G51, m51, F51.kp, b51⟩ ⟨_, _, G38, m38, F38.kp, b38⟩
  exact ok_law F59 T TK ⟨_, _, G33, m33, F33.kp, b33⟩ ⟨_, _, G34, m34, F34.kp, b34⟩ ⟨_, _, G40, m40, F40.kp, b40⟩ ⟨_, _, G41, m41, F41.kp, b41⟩ ⟨_, _, G58, m58, F58.kp, b58⟩ ⟨_, _, G47, m47, F47.kp, b47⟩ ⟨_, _, G55, m55, F55.kp, b55⟩ ⟨_, _, G56, m56, F56.kp, b56⟩ ⟨_, _, G29, m29, F29.kp, b29⟩ ⟨_, _, G57, m57, F57.kp, b57⟩ ⟨_, _, G31, m31, F31.kp, b31⟩
end KX

open PySem PySem.W PyProof.Rows
set_option maxRecDepth 100000 in
set_option maxHeartbeats 0 in
theorem PySem.Challenge.cw_sameanswers_k25_feet_and_their_stand_holds : PySem.Challenge.rw_sameanswers_k25_feet_and_their_stand.Holds := by
  w_on; o_law; k_head; (case hw => w_witness2)
  k_fill
  refine Ga.walk_G (l := PySem.Challenge.rw_sameanswers_k25_feet_and_their_stand) (n := 63) (k := 13) (x := "script") (sp := fun w => KX.spLaw _) rfl (by decide) rfl ⟨rfl, by decide, by decide⟩ (fun w h Y => PySem.W.kIn_of Y) ?F (fun _ _ a ns hl _ hS => ⟨a, ns, rfl, hS, hl, fun _ => rfl⟩)
  case F =>
    intro w mg fa h hX G hmg
    refine KX.all_mk hX G hmg ?O
    constructor
    · refine' ⟨_, KX.TreeIn.mk ?a ⟨⟨?pg, ?hd, ?po, ?sa⟩, ?nt⟩ ?mk ?kp ?ini ?m0 ?m1 ?m2 ?m3 ?m4 ?m5⟩
      (case a => k_is)
      (case pg => k_is)
      (case hd => k_is)
      (case po => k_is)
      (case sa => k_is)
      (case nt => unfold L2.NoAttr; k_is)
      (case mk => k_is)
      (case kp => k_is)
      case ini =>
        refine' KX.initIn ?a ?i ?k ?l ?c ?t ?e
        (case a => k_is)
        (case l => k_is)
        (case i => k_is)
        (case k => k_is)
        (case c => k_is)
        (case t => k_is)
        (case e => k_is)
      case m0 =>
        refine' KX.mthIn ?a ?i ?k ?l ?c
        (case a => k_is)
        (case l => k_is)
        (case i => k_is)
        (case k => k_is)
        (case c => k_is)
      case m1 =>
        refine' KX.mthIn ?a ?i ?k ?l ?c
        (case a => k_is)
        (case l => k_is)
        (case i => k_is)
        (case k => k_is)
        (case c => k_is)
      case m2 =>
        refine' KX.mthIn ?a ?i ?k ?l ?c
        (case a => k_is)
        (case l => k_is)
        (case i => k_is)
        (case k => k_is)
        (case c => k_is)
      case m3 =>
        refine' KX.mthIn ?a ?i ?k ?l ?c
        (case a => k_is)
        (case l => k_is)
        (case i => k_is)
        (case k => k_is)
        (case c => k_is)
      case m4 =>
        refine' KX.mthIn ?a ?i ?k ?l ?c
        (case a => k_is)
        (case l => k_is)
        (case i => k_is)
        (case k => k_is)
        (case c => k_is)
      case m5 =>
        refine' KX.mthIn ?a ?i ?k ?l ?c
        (case a => k_is)
        (case l => k_is)
        (case i => k_is)
        (case k => k_is)
        (case c => k_is)
    · refine' ⟨_, KX.ErrIn.mk ?go ?sc ?nm ?ini ?sup ?top (PySem.W.exm_ref ?zx1 ?zx2 ?zx3 ?zx4) ⟨?zg1, ?zg2, ?zg3, ?zg4⟩⟩
      (case go => k_is)
      case sc =>
        refine' KX.oexIn ?xL ?vb ?sa ?ex ?ty ?kp ?se ?su ?ve ?an
        (case xL => k_is)
        (case vb => first | rfl | decide | k_is)
        (case sa => k_is)
        (case ex => k_is)
        (case ty => k_is)
        (case kp => k_is)
        (case se => k_is)
        (case su => first | ks_is | k_is)
        (case ve => k_is)
        (case an => k_is)
      (case nm => k_is)
      case ini =>
        refine' KX.supIn ?i ?t ?l ?h ?lc ?v2 ?hf ?ce
        (case i => k_is)
        (case l => k_is)
        (case t => k_is)
        (case h => k_is)
        (case lc => k_is)
        (case v2 => first | rfl | k_is)
        (case hf => first | rfl | decide +kernel | k_is)
        (case ce => k_is)
      (case sup => k_is)
      (case top => first | rfl | decide +kernel | k_is)
      (case zx1 => k_is)
      (case zx2 => k_is)
      (case zx3 => k_is)
      (case zx4 => k_is)
      (case zg1 => k_is)
      (case zg2 => k_is)
      (case zg3 => k_is)
      (case zg4 => k_is)
    · refine' ⟨_, _, _, _, 0, KX.ActsIn.mk ?zzq ?zzwq ?zzp ?zza ?zzd ?zzp_read ?zzp_kind ?zzp_list ?zzp_find ?zzp_count ?zzp_write ?zzp_remove ?zzp_move ?zzp_splice ?zza_read ?zza_kind ?zza_list ?zza_find ?zza_count ?zzd_write ?zzd_remove ?zzd_move ?zzd_splice⟩
      (case zzq => k_is)
      case zzwq =>
        refine' KX.wdsIn ?e ?z ?v
        (case e => k_is)
        (case z => decide +kernel)
        (case v => repeat (first | exact .nil | refine .cons ⟨_, rfl⟩ ?_))
      case zzp =>
        refine' KX.dictIn ?a ?l ?k ?o
        (case a => k_is)
        (case l => k_is)
        (case k => repeat (first | exact True.intro | refine ⟨⟨_, _, rfl, rfl⟩, ?_⟩))
        (case o => decide)
      case zza =>
        refine' KX.dictIn ?a ?l ?k ?o
        (case a => k_is)
        (case l => k_is)
        (case k => repeat (first | exact True.intro | refine ⟨⟨_, _, rfl, rfl⟩, ?_⟩))
        (case o => decide)
      case zzd =>
        refine' KX.dictIn ?a ?l ?k ?o
        (case a => k_is)
        (case l => k_is)
        (case k => repeat (first | exact True.intro | refine ⟨⟨_, _, rfl, rfl⟩, ?_⟩))
        (case o => decide)
      case zzp_read =>
        refine' KX.atWds ?h ?g
        (case h => k_is)
        case g =>
          refine' KX.wdsIn ?e ?z ?v
          (case e => k_is)
          (case z => decide +kernel)
          (case v => repeat (first | exact .nil | refine .cons ⟨_, rfl⟩ ?_))
      case zzp_kind =>
        refine' KX.atWds ?h ?g
        (case h => k_is)
        case g =>
          refine' KX.wdsIn ?e ?z ?v
          (case e => k_is)
          (case z => decide +kernel)
          (case v => repeat (first | exact .nil | refine .cons ⟨_, rfl⟩ ?_))
      case zzp_list =>
        refine' KX.atWds ?h ?g
        (case h => k_is)
        case g =>
          refine' KX.wdsIn ?e ?z ?v
          (case e => k_is)
          (case z => decide +kernel)
          (case v => repeat (first | exact .nil | refine .cons ⟨_, rfl⟩ ?_))
      case zzp_find =>
        refine' KX.atWds ?h ?g
        (case h => k_is)
        case g =>
          refine' KX.wdsIn ?e ?z ?v
          (case e => k_is)
          (case z => decide +kernel)
          (case v => repeat (first | exact .nil | refine .cons ⟨_, rfl⟩ ?_))
      case zzp_count =>
        refine' KX.atWds ?h ?g
        (case h => k_is)
        case g =>
          refine' KX.wdsIn ?e ?z ?v
          (case e => k_is)
          (case z => decide +kernel)
          (case v => repeat (first | exact .nil | refine .cons ⟨_, rfl⟩ ?_))
      case zzp_write =>
        refine' KX.atWds ?h ?g
        (case h => k_is)
        case g =>
          refine' KX.wdsIn ?e ?z ?v
          (case e => k_is)
          (case z => decide +kernel)
          (case v => repeat (first | exact .nil | refine .cons ⟨_, rfl⟩ ?_))
      case zzp_remove =>
        refine' KX.atWds ?h ?g
        (case h => k_is)
        case g =>
          refine' KX.wdsIn ?e ?z ?v
          (case e => k_is)
          (case z => decide +kernel)
          (case v => repeat (first | exact .nil | refine .cons ⟨_, rfl⟩ ?_))
      case zzp_move =>
        refine' KX.atWds ?h ?g
        (case h => k_is)
        case g =>
          refine' KX.wdsIn ?e ?z ?v
          (case e => k_is)
          (case z => decide +kernel)
          (case v => repeat (first | exact .nil | refine .cons ⟨_, rfl⟩ ?_))
      case zzp_splice =>
        refine' KX.atWds ?h ?g
        (case h => k_is)
        case g =>
          refine' KX.wdsIn ?e ?z ?v
          (case e => k_is)
          (case z => decide +kernel)
          (case v => repeat (first | exact .nil | refine .cons ⟨_, rfl⟩ ?_))
      case zza_read =>
        refine' KX.atFn ?h ?g
        (case h => k_is)
        (case g => k_is)
      case zza_kind =>
        refine' KX.atFn ?h ?g
        (case h => k_is)
        (case g => k_is)
      case zza_list =>
        refine' KX.atFn ?h ?g
        (case h => k_is)
        (case g => k_is)
      case zza_find =>
        refine' KX.atFn ?h ?g
        (case h => k_is)
        (case g => k_is)
      case zza_count =>
        refine' KX.atFn ?h ?g
        (case h => k_is)
        (case g => k_is)
      case zzd_write =>
        refine' KX.atFn ?h ?g
        (case h => k_is)
        (case g => k_is)
      case zzd_remove =>
        refine' KX.atFn ?h ?g
        (case h => k_is)
        (case g => k_is)
      case zzd_move =>
        refine' KX.atFn ?h ?g
        (case h => k_is)
        (case g => k_is)
      case zzd_splice =>
        refine' KX.atFn ?h ?g
        (case h => k_is)
        (case g => k_is)
    · refine' KX.fnIn ?a ?l ?c ?k
      (case a => k_is)
      (case l => k_is)
      (case c => k_is)
      (case k => k_is)
    · refine' KX.fnIn ?a ?l ?c ?k
      (case a => k_is)
      (case l => k_is)
      (case c => k_is)
      (case k => k_is)
    · refine' KX.fnIn ?a ?l ?c ?k
      (case a => k_is)
      (case l => k_is)
      (case c => k_is)
      (case k => k_is)
    · refine' KX.fnIn ?a ?l ?c ?k
      (case a => k_is)
      (case l => k_is)
      (case c => k_is)
      (case k => k_is)
    · refine' KX.fnIn ?a ?l ?c ?k
      (case a => k_is)
      (case l => k_is)
      (case c => k_is)
      (case k => k_is)
    · refine' KX.fnIn ?a ?l ?c ?k
      (case a => k_is)
      (case l => k_is)
      (case c => k_is)
      (case k => k_is)
    · refine' KX.fnIn ?a ?l ?c ?k
      (case a => k_is)
      (case l => k_is)
      (case c => k_is)
      (case k => k_is)
    · refine' KX.fnIn ?a ?l ?c ?k
      (case a => k_is)
      (case l => k_is)
      (case c => k_is)
      (case k => k_is)
    · refine' KX.fnIn ?a ?l ?c ?k
      (case a => k_is)
      (case l => k_is)
      (case c => k_is)
      (case k => k_is)
    · refine' KX.fnIn ?a ?l ?c ?k
      (case a => k_is)
      (case l => k_is)
      (case c => k_is)
      (case k => k_is)
    · refine' KX.fnIn ?a ?l ?c ?k
      (case a => k_is)
      (case l => k_is)
      (case c => k_is)
      (case k => k_is)
    · refine' KX.fnIn ?a ?l ?c ?k
      (case a => k_is)
      (case l => k_is)
      (case c => k_is)
      (case k => k_is)
    · refine' KX.fnIn ?a ?l ?c ?k
      (case a => k_is)
      (case l => k_is)
      (case c => k_is)
      (case k => k_is)
    · refine' KX.fnIn ?a ?l ?c ?k
      (case a => k_is)
      (case l => k_is)
      (case c => k_is)
      (case k => k_is)
    · refine' KX.fnIn ?a ?l ?c ?k
      (case a => k_is)
      (case l => k_is)
      (case c => k_is)
      (case k => k_is)
    · refine' KX.fnIn ?a ?l ?c ?k
      (case a => k_is)
      (case l => k_is)
      (case c => k_is)
      (case k => k_is)
    · refine' KX.fnIn ?a ?l ?c ?k
      (case a => k_is)
      (case l => k_is)
      (case c => k_is)
      (case k => k_is)
    · refine' KX.fnIn ?a ?l ?c ?k
      (case a => k_is)
      (case l => k_is)
      (case c => k_is)
      (case k => k_is)
    · refine' KX.fnIn ?a ?l ?c ?k
      (case a => k_is)
      (case l => k_is)
      (case c => k_is)
      (case k => k_is)
    · refine' KX.fnIn ?a ?l ?c ?k
      (case a => k_is)
      (case l => k_is)
      (case c => k_is)
      (case k => k_is)
    · refine' KX.fnIn ?a ?l ?c ?k
      (case a => k_is)
      (case l => k_is)
      (case c => k_is)
      (case k => k_is)
    · refine' KX.fnIn ?a ?l ?c ?k
      (case a => k_is)
      (case l => k_is)
      (case c => k_is)
      (case k => k_is)
    · refine' KX.fnIn ?a ?l ?c ?k
      (case a => k_is)
      (case l => k_is)
      (case c => k_is)
      (case k => k_is)
    · refine' KX.fnIn ?a ?l ?c ?k
      (case a => k_is)
      (case l => k_is)
      (case c => k_is)
      (case k => k_is)
    · refine' KX.fnIn ?a ?l ?c ?k
      (case a => k_is)
      (case l => k_is)
      (case c => k_is)
      (case k => k_is)
    · refine' KX.fnIn ?a ?l ?c ?k
      (case a => k_is)
      (case l => k_is)
      (case c => k_is)
      (case k => k_is)
    · refine' KX.fnIn ?a ?l ?c ?k
      (case a => k_is)
      (case l => k_is)
      (case c => k_is)
      (case k => k_is)
    · refine' KX.fnIn ?a ?l ?c ?k
      (case a => k_is)
      (case l => k_is)
      (case c => k_is)
      (case k => k_is)
    · refine' KX.fnIn ?a ?l ?c ?k
      (case a => k_is)
      (case l => k_is)
      (case c => k_is)
      (case k => k_is)
    · refine' KX.fnIn ?a ?l ?c ?k
      (case a => k_is)
      (case l => k_is)
      (case c => k_is)
      (case k => k_is)
    · refine' KX.fnIn ?a ?l ?c ?k
      (case a => k_is)
      (case l => k_is)
      (case c => k_is)
      (case k => k_is)
    · refine' KX.fnIn ?a ?l ?c ?k
      (case a => k_is)
      (case l => k_is)
      (case c => k_is)
      (case k => k_is)
    · refine' KX.fnIn ?a ?l ?c ?k
      (case a => k_is)
      (case l => k_is)
      (case c => k_is)
      (case k => k_is)
    · refine' KX.fnIn ?a ?l ?c ?k
      (case a => k_is)
      (case l => k_is)
      (case c => k_is)
      (case k => k_is)
    · refine' KX.fnIn ?a ?l ?c ?k
      (case a => k_is)
      (case l => k_is)
      (case c => k_is)
      (case k => k_is)
    · refine' KX.fnIn ?a ?l ?c ?k
      (case a => k_is)
      (case l => k_is)
      (case c => k_is)
      (case k => k_is)
    · refine' KX.fnIn ?a ?l ?c ?k
      (case a => k_is)
      (case l => k_is)
      (case c => k_is)
      (case k => k_is)
    · refine' KX.fnIn ?a ?l ?c ?k
      (case a => k_is)
      (case l => k_is)
      (case c => k_is)
      (case k => k_is)
    · refine' KX.fnIn ?a ?l ?c ?k
      (case a => k_is)
      (case l => k_is)
      (case c => k_is)
      (case k => k_is)
    · refine' KX.fnIn ?a ?l ?c ?k
      (case a => k_is)
      (case l => k_is)
      (case c => k_is)
      (case k => k_is)
    · refine' KX.fnIn ?a ?l ?c ?k
      (case a => k_is)
      (case l => k_is)
      (case c => k_is)
      (case k => k_is)
    · refine' KX.fnIn ?a ?l ?c ?k
      (case a => k_is)
      (case l => k_is)
      (case c => k_is)
      (case k => k_is)
    · refine' KX.fnIn ?a ?l ?c ?k
      (case a => k_is)
      (case l => k_is)
      (case c => k_is)
      (case k => k_is)
    · refine' KX.fnIn ?a ?l ?c ?k
      (case a => k_is)
      (case l => k_is)
      (case c => k_is)
      (case k => k_is)
    · refine' KX.fnIn ?a ?l ?c ?k
      (case a => k_is)
      (case l => k_is)
      (case c => k_is)
      (case k => k_is)
    · refine' KX.fnIn ?a ?l ?c ?k
      (case a => k_is)
      (case l => k_is)
      (case c => k_is)
      (case k => k_is)
    · refine' KX.fnIn ?a ?l ?c ?k
      (case a => k_is)
      (case l => k_is)
      (case c => k_is)
      (case k => k_is)
    · refine' KX.fnIn ?a ?l ?c ?k
      (case a => k_is)
      (case l => k_is)
      (case c => k_is)
      (case k => k_is)
    · refine' KX.fnIn ?a ?l ?c ?k
      (case a => k_is)
      (case l => k_is)
      (case c => k_is)
      (case k => k_is)
    · refine' KX.fnIn ?a ?l ?c ?k
      (case a => k_is)
      (case l => k_is)
      (case c => k_is)
      (case k => k_is)
    · refine' KX.fnIn ?a ?l ?c ?k
      (case a => k_is)
      (case l => k_is)
      (case c => k_is)
      (case k => k_is)
    · refine' KX.fnIn ?a ?l ?c ?k
      (case a => k_is)
      (case l => k_is)
      (case c => k_is)
      (case k => k_is)
    · refine' KX.fnIn ?a ?l ?c ?k
      (case a => k_is)
      (case l => k_is)
      (case c => k_is)
      (case k => k_is)
    · refine' KX.fnIn ?a ?l ?c ?k
      (case a => k_is)
      (case l => k_is)
      (case c => k_is)
      (case k => k_is)
    · refine' KX.fnIn ?a ?l ?c ?k
      (case a => k_is)
      (case l => k_is)
      (case c => k_is)
      (case k => k_is)
    · refine' KX.fnIn ?a ?l ?c ?k
      (case a => k_is)
      (case l => k_is)
      (case c => k_is)
      (case k => k_is)
    · refine' KX.fnIn ?a ?l ?c ?k
      (case a => k_is)
      (case l => k_is)
      (case c => k_is)
      (case k => k_is)
    · refine' KX.fnIn ?a ?l ?c ?k
      (case a => k_is)
      (case l => k_is)
      (case c => k_is)
      (case k => k_is)
    · refine' KX.fnIn ?a ?l ?c ?k
      (case a => k_is)
      (case l => k_is)
      (case c => k_is)
      (case k => k_is)
    · refine' KX.fnIn ?a ?l ?c ?k
      (case a => k_is)
      (case l => k_is)
      (case c => k_is)
      (case k => k_is)
    · refine' KX.intIn ?z
      (case z => k_is)
    · refine' KX.intIn ?z
      (case z => k_is)
    · refine' KX.intIn ?z
      (case z => k_is)
    · refine' KX.intIn ?z
      (case z => k_is)
    · refine' KX.intIn ?z
      (case z => k_is)
    · refine' KX.strIn ?z
      (case z => k_is)
    · refine' KX.intIn ?z
      (case z => k_is)
    · refine' KX.intIn ?z
      (case z => k_is)
    · k_is
    · k_is
    · k_is
    · k_is
    · k_is
    · k_is
    · k_is
    · k_is
    · k_is
    · k_is
    · k_is
    · k_is
    · k_is
    · k_is
    · k_is
    · k_is
    · k_is
    · k_is
    · k_is
    · k_is
    · k_is
    · k_is
