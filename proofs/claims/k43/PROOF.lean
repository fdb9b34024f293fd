import PyProof.Rows.All
import Wide.All
import OpenK.AllK
import Wide.FinOn
import HandS.ForMost
import HandS.Walk
import HandS.TupMul
import HandS.Strs
import HandS.DictComp
import HandS.More
import HandS.Iter
import HandS.TupLen
import HandS.TupAny
import HandS.Exc
import HandS.SortOrd
import HandS.SortRule
import KE.KExcSuper
import HandS.ExcInit
import HandS.ExcIs
import HandS.ExcOwn
import HandS.Nested
import HandS.FStr
import HandS.Defaults
import KE.KExcIs
import HandS.ExcField
import HandS.Style
import HandS.DeepEq
import HandS.WordsExc
import HandS.WordsDict
import HandS.CallLocal
import HandS.Star
import KE.KUnpackStar
import HandS.IsInst
import HandS.Codes
import PySem.Challenge.RW_sameanswers_k43_records_in_pieces
set_option Elab.async false
set_option linter.all false
set_option maxRecDepth 100000
set_option maxHeartbeats 4000000
/-! Ga: defs that are called where no repr is under way (the guards are known to be none), and repr of data. -/
namespace Ga
open PySem PySem.Spec PyProof.Rows L2

/-- one call of a def by its body, at one place -/
theorem body_run {CX : CXT} {P : Program} {w : World} {K : PySem.W.Frag} {mg : Str → Option Value} {base : Heap} {k : Nat}
    {f : Addr} {name qual : Str} {params : Arguments} {body : List Stmt} {scope : Scope} {dV kV doc pm cdv ct oc : Value}
    {an od : Option Addr} {osl : Array (Option Value)} {N ps : List Str} {A : Around} {outer : List Env} {s : Shared} {H : Hp}
    {args : Args} {us : List Value} {vs : List V} {Q : VK} {E : XK} {t : TS}
    (lk : K.lookup f = some ⟨oc, od, .func (PySem.W.fnOf name qual params body scope dV kV doc pm an cdv ct), osl⟩)
    (hcd : PySem.W.codeIn K cdv qual = true) (S : FnScope N ps scope) (hl : vs.length = ps.length) (hr : Room (k + 1) A)
    (e0 : Env0 P w K mg base A outer s H) (hb : BindsTo s (PySem.W.fnOf name qual params body scope dV kV doc pm an cdv ct) args (ps.zip us))
    (r : Vals vs us) (ht : PSs (cxOf CX P w K mg base N qual scope f cdv A outer s H E) body t)
    (hq : t { nx := fun _ H' => Q .non H', rt := Q } (start N vs) H) :
    codeAny (model P w) A (.call (.ref f) args) (CR CX outer P w H s Q E) s := by
  have keep : ∀ b o, base.get? b = some o → s.heap.get? b = some o := fun b o e => (e0.bs b o e).1
  have KX := e0.mod.kin.keeps keep
  have lim := e0.mod.nolimit.keeps keep
  have kinds : ∀ y ∈ ps.zip us, scope.names.lookup y.1 = some .local ∨
      (scope.names.lookup y.1 = some .cell ∧ ((cellsFrom (s.heap.objs.size + 1) scope.names []).lookup y.1).isSome = true) := by
    rintro ⟨n, v⟩ hy
    rcases S.par n (List.of_mem_zip hy).1 with q | q
    · exact Or.inl q
    · exact Or.inr ⟨q, PySem.W.cellsFrom_some _ _ _ (Or.inl q)⟩
  apply codeAny_call_function hr.depth (KX _ _ lk) rfl S.co S.gen rfl (PySem.W.codeRec_of KX hcd)
  apply hb
  apply wpAny_newFunctionEnv_cells S.kind kinds
  rintro env rfl s1 x
  refine ⟨lim.keeps x.toInCall.keep, codeAny_func ?_⟩
  have I := inv_start (CX := CX) (E := E) (cd := cdv) (qual := qual) (f := f) S hr.hd e0 hl r x
  apply wpAny_mono (ht.run [] s1 (start N vs) H _ I hq)
  · intro fl s' hs
    cases fl with
    | ret u =>
      obtain ⟨v, σ', H', J, rv, q⟩ := hs
      exact ⟨v, H', J.os, J.bare, J.base, J.hok, rv, q⟩
    | next =>
      obtain ⟨σ', H', J, q⟩ := hs
      exact ⟨V.non, H', J.os, J.bare, J.base, J.hok, rfl, q⟩
    | brk =>
      obtain ⟨_, _, _, q⟩ := hs
      exact q.elim
    | cont =>
      obtain ⟨_, _, _, q⟩ := hs
      exact q.elim
  · exact fun e s' hs => hs

/-- a def's promise where the guards are none -/
structure FnG (P : Program) (w : World) (K : PySem.W.Frag) (mg : Str → Option Value) (base : Heap) (CX : CXT) (k : Nat) (f : Addr)
    (fd : FuncData) (ps : List Str) (sp : Sp) : Prop where
  len : ∀ vs H Q E, sp vs H Q E → vs.length = ps.length
  run : ∀ (A : Around), A.guards = some [] → ∀ (outer : List Env) (s : Shared) (H : Hp) (args : Args) (us : List Value) (vs : List V)
    (Q : VK) (E : XK), Room k A → Env0 P w K mg base A outer s H → BindsTo s fd args (ps.zip us) → Vals vs us → sp vs H Q E →
    codeAny (model P w) A (.call (.ref f) args) (CR CX outer P w H s Q E) s

section
variable {P : Program} {w : World} {K : PySem.W.Frag} {mg : Str → Option Value} {base : Heap}
theorem FnG.of {CX : CXT} {k : Nat} {f : Addr} {fd : FuncData} {ps : List Str} {sp : Sp} (F : FnOk P w K mg base CX k f fd ps sp) :
    FnG P w K mg base CX k f fd ps sp := ⟨F.len, fun A _ => F.run A⟩
/-- the rule for such a def, no exception leaves it -/
theorem okG {x qual : Str} {st : Stmt} {f : Addr} {fd : FuncData} {N ps : List Str} {k : Nat} {sp : Sp} (F : Fun K x qual st f fd)
    (S : FnScope N ps (defScope st)) (len : ∀ vs H Q E, sp vs H Q E → vs.length = ps.length)
    (hbody : ∀ (cdv : Value) (A : Around), A.guards = some [] → ∀ (outer : List Env) (s : Shared) (H : Hp) (vs : List V) (Q : VK) (E : XK),
      Room k (A.deeper (envOfC qual (defScope st) s.heap.objs.size f cdv)) → sp vs H Q E →
      ∃ t, PSs (cxOf CX0 P w K mg base N qual (defScope st) f cdv A outer s H E).nox (defBody st) t ∧
        t { nx := fun _ H' => Q .non H', rt := Q } (start N vs) H) :
    FnG P w K mg base CX0 (k + 1) f fd ps sp := by
  obtain ⟨oc, od, kV, doc, pm, an, cdv, ct, osl, rfl, lk, hcd⟩ := F.ex
  refine ⟨len, fun A hg outer s H args us vs Q E hr e0 hb r hsp => ?_⟩
  obtain ⟨t, h, q⟩ := hbody cdv A hg outer s H vs Q E (hr.deeper _) hsp
  exact body_run lk hcd S (len _ _ _ _ hsp) hr e0 hb r h.nox q
end

section
variable {X : Cx} {CX : CXT} {k : Nat} {f : Addr} {fd : FuncData} {ps : List Str} {sp : Sp} {dvs : List V} {ds : List Value} {E : XK}
  {x : Str} {p pos : Pos} {e : Expr} {es : List Expr} {t : TA}
/-- a call of such a def -/
theorem pe_callG (hgd : X.A.guards = some []) (F : FnG X.prog X.w X.K X.mg X.base CX k f fd ps sp) (hr : Room k X.A) (hg : Gl X x)
    (hm : X.mg x = some (.ref f)) (hk : PySem.W.keepIn X.K (.ref f) = true) (hb : Binds X.K fd ps ds) (hd : Vals dvs ds)
    (hx : Passes CX X E) (ha : PA X (e :: es) t) (hdb : (x == ("__debug__" : Str)) = false := by decide)
    (he : starEach (e :: es) X.env = (false, eval e X.env) :: starEach es X.env := by rfl)
    (hpl : (backTo pos (starEach es X.env)).any (·.1) = false := by rfl) :
    PE X (.Call (.Name x p) (e :: es) [] pos) (tCall sp dvs E t) := by
  refine ⟨fun pins s σ H Q I h => wpAny_Call_Name_kw (ld_glob I hg hm ?_ hdb)⟩
  refine PySem.W.callWith_K (h₀ := X.base) I.ok.mod.kin hk ?_ he hpl
  refine thn (ha.run pos pins s σ H _ I h) ?_
  rintro us s1 ⟨vs, H1, J, r, q⟩
  have r2 := r.append hd
  have hl : (us ++ ds).length = ps.length := r2.length.symm.trans (F.len _ _ _ _ q)
  refine ⟨J.kIn, wpAny_call (codeAny_mono (F.run X.A hgd X.stack s1 H1 ⟨us, []⟩ _ _ Q E hr J.env0 (hb s1 us J.kIn hl) r2 q) ?_)⟩
  rintro (e | fl) s' hq
  · exact hx pins σ H1 s1 e s' J hq
  · cases fl with
    | ret u => exact J.after hq
    | next => exact hq.elim
    | brk => exact hq.elim
    | cont => exact hq.elim
end

/-! ### repr of data -/
def rRepr (K : PySem.W.Frag) : List V → Hp → VK → Prop := fun xs H Q => ∃ x d, xs = [x] ∧ Dp K H x d ∧ d.showable = true ∧ d.hasDict = false ∧
  d.depth ≤ 40 ∧ d.shown.length ≤ sizeLine ∧ Q (.str d.shown) H
theorem call_reprD {X : Cx} (hgd : X.A.guards = some []) (hu : X.A.units + 64 < cLine) : CallR X (.builtin "repr") (rRepr X.K) := by
  intro pins s σ H xs us Q I r h
  obtain ⟨x, d, rfl, hd, h1, h2, h3, h4, q⟩ := h
  obtain ⟨u, rfl, ru⟩ := vals1 r
  obtain ⟨as, rd⟩ := Dp.reads I d x u hd ru
  cases hd with
  | non =>
    cases ru
    exact PySem.P.repr_of_none ⟨.str _, H, I.tok _, ⟨_, rfl⟩, q⟩
  | bl b =>
    cases ru
    exact PySem.P.repr_of_bool ⟨.str _, H, I.tok _, ⟨_, rfl⟩, q⟩
  | int i =>
    obtain ⟨t, rfl⟩ := ru
    exact PySem.P.repr_of_int (by simpa [PyData.showable] using h1) ⟨.str _, H, I.tok _, ⟨_, rfl⟩, q⟩
  | str z =>
    obtain ⟨t, rfl⟩ := ru
    exact PySem.P.repr_of_str ⟨.str _, H, I.tok _, ⟨_, rfl⟩, q⟩ h4
  | lst hs ha =>
    cases ru
    exact repr_of_reads' rd h1 (fun z => absurd (z.symm.trans h2) (by decide)) hgd (by omega) (fun _ _ e => e)
      (fun h' u tk kp => ⟨.str _, H, I.kept kp, ⟨_, rfl⟩, q⟩) h4
  | tup hs ha =>
    cases ru
    exact repr_of_reads' rd h1 (fun z => absurd (z.symm.trans h2) (by decide)) hgd (by omega) (fun _ _ e => e)
      (fun h' u tk kp => ⟨.str _, H, I.kept kp, ⟨_, rfl⟩, q⟩) h4

end Ga

set_option maxRecDepth 100000
set_option maxHeartbeats 4000000
namespace Ga
open PySem PySem.Spec PyProof.Rows L2

/-- the law's call behind the top, from an abstract heap that tracks the script at most -/
theorem call_at {P : Program} {w : World} {K : PySem.W.Frag} {mg mb : Str → Option Value} {k : Nat} {fa a : Addr} {fd : FuncData} {x : Str}
    {sp : Sp} {s1 : Shared} {vs : List Value} {H : Hp} (KX : K.In s1.heap) (hns : s1.heap.Ns mainGlobals mg)
    (hb : s1.heap.Ns builtinsNs mb) (hbb : ∀ x : Str, x ≠ "__name__" → mb x = bootBuiltins x) (hlim : s1.heap.NoLimit) (hg : s1.gens = #[])
    (ha : s1.heap.get? a = some { cls := .type "list", data := .seq vs.toArray }) (hr : Room k callerA)
    (F : ∀ base : Heap, K.In base → base.Ns mainGlobals mg → FnG P w K mg base CX0 k fa fd [x] sp)
    (hbind : ∀ (s : Shared) (u : Value), BindsTo s fd ⟨[u], []⟩ [(x, u)])
    (hsp : sp [.ref a] H (fun v _ => v = .bl true) E0) (hO : Only H) (hok : HOk P w H s1.heap)
    (hA : ∀ b u, H b = some u → b = a ∧ K.lookup a = none) :
    codeAny (model P w) callerA (.call (.ref fa) ⟨[.ref a], []⟩)
      (fun r s' => r = .ok (.ret (.bool true)) ∧ OldK s1.heap s'.heap ∧ s'.os = s1.os ∧ AllBare s'.gens) s1 := by
  have other : ∀ {b : Addr} {o : Obj}, s1.heap.get? b = some o → (b = a → False) → (hidT s1.heap H).get? b = some o := by
    intro b o e n
    apply hidT_get e
    cases q : H b with
    | none => rfl
    | some u => exact (n (hA b u q).1).elim
  have spaces : ∀ {b : Addr} {m : Str → Option Value}, s1.heap.Ns b m → (hidT s1.heap H).Ns b m := by
    rintro b m ⟨o, es, ep, e, d, r⟩
    refine ⟨o, es, ep, other e fun z => ?_, d, r⟩
    subst z
    rw [ha] at e
    cases e
    cases d
  have hK : K.In (hidT s1.heap H) := by
    intro b o e
    apply hidT_get (KX b o e)
    cases q : H b with
    | none => rfl
    | some u =>
      obtain ⟨z, n⟩ := hA b u q
      subst z
      rw [n] at e
      cases e
  obtain ⟨mc, c1, c2⟩ := hlim
  have M : Mod K mg (hidT s1.heap H) := ⟨hK, spaces hns, ⟨mb, spaces hb, hbb⟩, mc, spaces c1, c2⟩
  have e0 : Env0 P w K mg (hidT s1.heap H) callerA [] s1 H :=
    { frames := rfl, mod := M, bs := fun b o => of_hidT, bsz := Nat.le_of_eq (hidT_size _ _), funs := trivial, frf := fun b z => (List.not_mem_nil z).elim,
      hok := hok, bare := .of_eq hg }
  have R := (F _ hK (spaces hns)).run callerA rfl [] s1 H ⟨[.ref a], []⟩ [.ref a] [.ref a] _ E0 hr e0 (hbind s1 _) (Paired.cons rfl .nil) hsp
  apply codeAny_mono R
  rintro (e | fl) s' h
  · exact h.elim
  · cases fl with
    | next => exact h.elim
    | brk => exact h.elim
    | cont => exact h.elim
    | ret u =>
      obtain ⟨v, H', os, bare, un, ok2, rv, rfl⟩ := h
      cases rv
      refine ⟨rfl, .of_keep fun b o e => ?_, os, bare⟩
      rcases hO b with n | ⟨ob, xs, y⟩
      · exact un.keep b o e n List.not_mem_nil List.not_mem_nil
      · have g1 := (hok b _ y).1
        have g2 := (ok2 b _ (un.frzs b ob _ y)).1
        rw [e] at g1
        cases g1
        exact g2

/-- what k_head leaves, from the promise of the law's def -/
theorem walk_G {l : PySem.W.OpenLaw} {n k : Nat} {q : Program} {loose : List Str} {XP : (Str → Option Value) → Heap → Prop}
    {YP : World → Heap → Prop} {d : DefRec} {K : Params → PySem.W.Frag} {sp : World → Sp} {x : Str}
    (hn : l.most = some n) (hz : n ≤ sizeLine) (hdf : d.params.defaults = []) (hr : Room k callerA)
    (hY : ∀ (w : World) (h : Heap), YP w h → (K w.params).In h)
    (F : ∀ (w : World) (mg : Str → Option Value) (fa : Addr) (h : Heap), (K w.params).In h → h.Ns mainGlobals mg → mg d.name = some (.ref fa) →
      ∃ fd : FuncData, (∀ (s : Shared) (u : Value), BindsTo s fd ⟨[u], []⟩ [(x, u)]) ∧ ∀ base : Heap, (K w.params).In base →
        base.Ns mainGlobals mg → FnG l.prog w (K w.params) mg base CX0 k fa fd [x] (sp w))
    (hsp : ∀ (w : World) (H : Hp) (a : Addr) (ns : List Int), ns.length ≤ n → Only H → SqL (K w.params) H a (ns.map V.int) →
      sp w [.ref a] H (fun v _ => v = .bl true) E0) :
    PySem.W.WalkO q loose XP YP l.row.toRowW d [] (fun f vs => PySem.call f vs) := by
  apply Att.attach_call hn hdf
  intro w s0 s1 mg mb fa o pm cd doc a vs ns G Y ho hd hcd hmg hobj hi hlen hg
  have KX := hY w _ Y
  obtain ⟨fd, hb, hF⟩ := F w mg fa _ KX G.T.g hmg
  have rv := vals_ints hi
  have hm : (ns.map V.int).length ≤ sizeLine := by rw [List.length_map]; omega
  cases hk : (K w.params).lookup a with
  | some ob =>
    have e := KX a ob hk
    rw [hobj] at e
    cases e
    refine call_at (H := fun _ => none) KX G.T.g G.T.b G.T.builtins G.T.nolimit hg hobj hr hF hb ?_ (fun _ => Or.inl rfl) (fun b u z => nomatch z) (fun b u z => nomatch z)
    refine hsp w _ a ns hlen (fun _ => Or.inl rfl) (Or.inr ⟨_, vs.toArray, _, hk, rfl, rfl, rfl, ?_, ?_⟩)
    · rw [List.size_toArray, hi.length]; omega
    · simpa using rv
  | none =>
    let ob : Obj := { cls := .type "list", data := .seq vs.toArray }
    let H : Hp := fun b => if b = a then some (.frz ob (.lst (ns.map V.int))) else none
    have at_a : ∀ b u, H b = some u → b = a ∧ u = .frz ob (.lst (ns.map V.int)) := by
      intro b u z
      by_cases hb : b = a
      · have z2 := (if_pos hb).symm.trans z
        cases z2
        exact ⟨hb, rfl⟩
      · have z2 := (if_neg hb).symm.trans z
        cases z2
    have only : Only H := by
      intro b
      by_cases hb : b = a
      · exact Or.inr ⟨ob, ns.map V.int, if_pos hb⟩
      · exact Or.inl (if_neg hb)
    refine call_at (H := H) KX G.T.g G.T.b G.T.builtins G.T.nolimit hg hobj hr hF hb ?_ only ?_ fun b u z => ⟨(at_a b u z).1, hk⟩
    · exact hsp w H a ns hlen only (Or.inl (Or.inr ⟨ob, if_pos rfl⟩))
    · intro b u z
      obtain ⟨rfl, rfl⟩ := at_a b u z
      exact ⟨hobj, hm, vs, _, rv, hobj⟩
end Ga

set_option maxRecDepth 100000
set_option maxHeartbeats 4000000
namespace Ga
open PySem PySem.Spec PyProof.Rows L2 TL

theorem same_upd {H : Hp} {p : Addr} {o : HO} (h : H p = none) : Same H (upd H p o) := fun b x e => by
  rw [upd_ne (ne_of_none e h)]; exact e
theorem _root_.L2.Same.mut {H H' : Hp} {p : Addr} {o : HO} (s : Same H H') (h : H p = none) : Same H (upd H' p o) := fun b x e => by
  rw [upd_ne (ne_of_none e h)]; exact s b x e
theorem _root_.L2.Same.lst {H H' : Hp} {p : Addr} {xs : List V} (s : Same H H') (h : H p = some (.lst xs)) : H' p = some (.lst xs) := s _ _ h
theorem _root_.L2.Same.seqT {K : PySem.W.Frag} {H H' : Hp} {a : Addr} {xs : List V} (e : Same H H') (h : SqT K H a xs) : SqT K H' a xs := by
  rcases h with (h | ⟨o, h⟩) | h
  · exact .inl (.inl (e _ _ h))
  · exact .inl (.inr ⟨o, e _ _ h⟩)
  · exact .inr h
theorem sqL {K : PySem.W.Frag} {H : Hp} {a : Addr} {xs : List V} (h : H a = some (.lst xs)) : SqL K H a xs := .inl (.inl h)
theorem sqT {K : PySem.W.Frag} {H : Hp} {a : Addr} {xs : List V} (h : H a = some (.tup xs)) : SqT K H a xs := .inl (.inl h)
theorem wipe_set (σ : L2.St) (i : Nat) (v : Option V) : wipe ((wipe σ [i]).set i v) [i] = wipe σ [i] := by
  show ((σ.set i none).set i v).set i none = σ.set i none
  rw [List.set_set, List.set_set]
theorem size_tl (z : Str) : z.cps.size = (tl z).length := by simp [tl]
theorem get_tl {z : Str} {i c : Nat} (h : z.cps[i]? = some c) : (tl z)[i]? = some c := by simpa [tl] using h
theorem take_map_succ {α : Type} {f : α → V} {l : List α} {i : Nat} {c : α} (h : l[i]? = some c) : (l.take (i + 1)).map f = (l.take i).map f ++ [f c] := by
  rw [List.take_add_one, h, List.map_append]; rfl

section
variable {K : PySem.W.Frag} {σ : L2.St} {H : Hp} {Q : VK} {te ta tb : TE}
/-- a comprehension [e for c in text] whose element is a value of the sign -/
theorem lc_str {z : Str} {i j : Nat} {f : Nat → V} (hz : (tl z).length ≤ 100000) (hj : σ[j]? = some (some (.str z)))
    (he : ∀ c ∈ tl z, ∀ (H2 : Hp) (R : VK), Same H H2 → (∀ H3, Same H2 H3 → R (f c) H3) → te ((wipe σ [i]).set i (some (.str ⟨#[c]⟩))) H2 R)
    (hq : ∀ D H', Same H H' → H D = none → H' D = some (.lst ((tl z).map f)) → Q (.ref D) H') :
    tLc (iStr (tVar j)) (gName i) tYes te [i] σ H Q := by
  refine ⟨_, hj, z, rfl, fun D nD => ?_⟩
  refine lc_it (walk_str (z := z)) (fun m H' => Same H H' ∧ H' D = some (.lst (((tl z).take m).map f))) ⟨same_upd nD, upd_same⟩ (fun _ _ _ _ => trivial) ?_ ?_
  · rintro m x H2 H3 hm ⟨s, d⟩ ⟨rfl, c, hc, rfl⟩
    have hg := get_tl hc
    refine ⟨wipe_set _ _ _, ?_⟩
    dsimp only [tYes]
    rw [if_pos rfl]
    refine he c (List.mem_of_getElem? hg) _ _ s fun H4 s4 => ?_
    refine ⟨_, s4 _ _ d, ?_, (s.trans s4).mut nD, ?_⟩
    · rw [List.length_map, List.length_take]
      exact Nat.lt_of_le_of_lt (Nat.le_trans (Nat.min_le_right _ _) hz) (by decide)
    · rw [upd_same, take_map_succ hg]
  · rintro H2 ⟨s, d⟩
    rw [size_tl, List.take_length] at d
    exact hq D _ s nD d
/-- the same over a list, a tuple -/
theorem lc_seq {xs : List V} {i : Nat} {f : V → V} {J : It} (w : Walk J xs.length (fun H' => Same H H') (YAt xs)) (hz : xs.length ≤ 100000)
    (he : ∀ c ∈ xs, ∀ (H2 : Hp) (R : VK), Same H H2 → (∀ H3, Same H2 H3 → R (f c) H3) → te ((wipe σ [i]).set i (some c)) H2 R)
    (hq : ∀ D H', Same H H' → H D = none → H' D = some (.lst (xs.map f)) → Q (.ref D) H') (D : Addr) (nD : H D = none) :
    ∃ W : Nat → Nat → Hp → Prop, (∃ m, W 0 m (upd H D (.lst []))) ∧ ∀ i' m H', W i' m H' →
      (J.stop i' H' ∧ Q (.ref D) H') ∨ (J.go i' H' ∧ ∃ Nx : Hp → Prop, (∀ H', Nx H' → ∃ m', m' < m ∧ W (i' + 1) m' H') ∧ ∀ x H2, J.yld i' H' x H2 → gName i x (wipe σ [i]) H2 fun σ2 H2 => wipe σ2 [i] = wipe σ [i] ∧ tYes σ2 H2 fun b H3 =>
        if b = true then te σ2 H3 fun y H4 => ∃ acc, H4 D = some (.lst acc) ∧ acc.length < sizeLine ∧ Nx (upd H4 D (.lst (acc ++ [y]))) else Nx H3) := by
  refine lc_it w (fun m H' => Same H H' ∧ H' D = some (.lst ((xs.take m).map f))) ⟨same_upd nD, upd_same⟩ (fun _ _ _ q => q.1) ?_ ?_
  · rintro m x H2 H3 hm ⟨s, d⟩ ⟨rfl, hg⟩
    refine ⟨wipe_set _ _ _, ?_⟩
    dsimp only [tYes]
    rw [if_pos rfl]
    refine he x (List.mem_of_getElem? hg) _ _ s fun H4 s4 => ?_
    refine ⟨_, s4 _ _ d, ?_, (s.trans s4).mut nD, ?_⟩
    · rw [List.length_map, List.length_take]
      exact Nat.lt_of_le_of_lt (Nat.le_trans (Nat.min_le_right _ _) hz) (by decide)
    · rw [upd_same, take_map_succ hg]
  · rintro H2 ⟨s, d⟩
    rw [List.take_length] at d
    exact hq D _ s nD d
theorem same_walkL {a : Addr} {xs : List V} (h : SqL K H a xs) : Walk (Itl K a) xs.length (fun H' => Same H H') (YAt xs) :=
  walk_list.mono (fun _ s => s.seq h) fun _ _ _ _ _ _ y => y
theorem same_walkT {a : Addr} {xs : List V} (h : SqT K H a xs) : Walk (Itt K a) xs.length (fun H' => Same H H') (YAt xs) :=
  walk_tup.mono (fun _ s => s.seqT h) fun _ _ _ _ _ _ y => y
/-- all([e for c in text]) -/
theorem all_str {z : Str} {i j : Nat} {p : Nat → Bool} (hz : (tl z).length ≤ 100000) (hj : σ[j]? = some (some (.str z)))
    (he : ∀ c ∈ tl z, ∀ (H2 : Hp) (R : VK), Same H H2 → (∀ H3, Same H2 H3 → R (.bl (p c)) H3) → te ((wipe σ [i]).set i (some (.str ⟨#[c]⟩))) H2 R)
    (hq : ∀ H', Same H H' → Q (.bl ((tl z).all p)) H') :
    tCB (rAll K) (tCons (tLc (iStr (tVar j)) (gName i) tYes te [i]) tNil) σ H Q := by
  show tLc (iStr (tVar j)) (gName i) tYes te [i] σ H fun x H1 => rAll K [x] H1 Q
  refine lc_str (f := fun c => .bl (p c)) hz hj he fun D H' s nD e => ?_
  refine ⟨D, (tl z).map p, rfl, sqL (by rw [e, List.map_map]; rfl), ?_⟩
  rw [List.all_map]
  exact hq _ s
/-- all([e for c in xs]), xs a list or a tuple -/
theorem all_list {a : Addr} {xs : List V} {i : Nat} {p : V → Bool} {tl0 : TE} (hl : ∀ R : VK, R (.ref a) H → tl0 σ H R) (hs : SqL K H a xs) (hz : xs.length ≤ 100000)
    (he : ∀ c ∈ xs, ∀ (H2 : Hp) (R : VK), Same H H2 → (∀ H3, Same H2 H3 → R (.bl (p c)) H3) → te ((wipe σ [i]).set i (some c)) H2 R)
    (hq : ∀ H', Same H H' → Q (.bl (xs.all p)) H') :
    tCB (rAll K) (tCons (tLc (iList K tl0) (gName i) tYes te [i]) tNil) σ H Q := by
  refine hl _ ⟨a, rfl, ⟨xs, hs⟩, fun D nD => ?_⟩
  refine lc_seq (f := fun c => .bl (p c)) (Q := fun x H1 => rAll K [x] H1 Q) (same_walkL hs) hz he (fun D H' s nD e => ?_) D nD
  refine ⟨D, xs.map p, rfl, sqL (by rw [e, List.map_map]; rfl), ?_⟩
  rw [List.all_map]
  exact hq _ s
theorem all_tup {a : Addr} {xs : List V} {i : Nat} {p : V → Bool} {tl0 : TE} (hl : ∀ R : VK, R (.ref a) H → tl0 σ H R) (hs : SqT K H a xs) (hz : xs.length ≤ 100000)
    (he : ∀ c ∈ xs, ∀ (H2 : Hp) (R : VK), Same H H2 → (∀ H3, Same H2 H3 → R (.bl (p c)) H3) → te ((wipe σ [i]).set i (some c)) H2 R)
    (hq : ∀ H', Same H H' → Q (.bl (xs.all p)) H') :
    tCB (rAll K) (tCons (tLc (iTup K tl0) (gName i) tYes te [i]) tNil) σ H Q := by
  refine hl _ ⟨a, rfl, ⟨xs, hs⟩, fun D nD => ?_⟩
  refine lc_seq (f := fun c => .bl (p c)) (Q := fun x H1 => rAll K [x] H1 Q) (same_walkT hs) hz he (fun D H' s nD e => ?_) D nD
  refine ⟨D, xs.map p, rfl, sqL (by rw [e, List.map_map]; rfl), ?_⟩
  rw [List.all_map]
  exact hq _ s
theorem var_is {i : Nat} {v : V} (h : σ[i]? = some (some v)) : ∀ R : VK, R v H → tVar i σ H R := fun R q => ⟨v, h, q⟩
end
end Ga

set_option maxRecDepth 100000
set_option maxHeartbeats 4000000
namespace Ga
open PySem PySem.Spec PyProof.Rows L2 TL
theorem spl_le (S : List Nat) : ∀ (l : List Nat) (k : Nat) (acc p : List Nat), p ∈ spl S k acc l → p.length ≤ acc.length + l.length
  | [], k, acc, p, h => by
    rw [spl_nil] at h
    cases List.mem_singleton.mp h
    exact Nat.le_add_right _ _
  | c :: r, 0, acc, p, h => by
    cases e : pre S (c :: r) with
    | true =>
      rw [spl_hit e] at h
      rcases List.mem_cons.mp h with rfl | h
      · exact Nat.le_add_right _ _
      · have := spl_le S r _ _ p h
        simp at this ⊢
        omega
    | false =>
      rw [spl_miss e] at h
      have := spl_le S r _ _ p h
      simp at this ⊢
      omega
  | c :: r, k + 1, acc, p, h => by
    have := spl_le S r k acc p h
    simp at this ⊢
    omega
theorem spl_len (S : List Nat) : ∀ (l : List Nat) (k : Nat) (acc : List Nat), (spl S k acc l).length ≤ l.length + 1
  | [], k, acc => by rw [spl_nil]; exact Nat.le_refl _
  | c :: r, 0, acc => by
    cases e : pre S (c :: r) with
    | true =>
      rw [spl_hit e]
      have := spl_len S r (S.length - 1) []
      simp
      omega
    | false =>
      rw [spl_miss e]
      have := spl_len S r 0 (acc ++ [c])
      simp
      omega
  | c :: r, k + 1, acc => by
    have := spl_len S r k acc
    show (spl S k acc r).length ≤ _
    simp
    omega
theorem spl_ne (S : List Nat) : ∀ (l : List Nat) (k : Nat) (acc : List Nat), spl S k acc l ≠ []
  | [], k, acc => by rw [spl_nil]; exact List.cons_ne_nil _ _
  | c :: r, 0, acc => by
    cases e : pre S (c :: r) with
    | true => rw [spl_hit e]; exact List.cons_ne_nil _ _
    | false => rw [spl_miss e]; exact spl_ne S r _ _
  | c :: r, k + 1, acc => spl_ne S r k acc
theorem spl_mem (S : List Nat) : ∀ (l : List Nat) (k : Nat) (acc p : List Nat), p ∈ spl S k acc l → ∀ c ∈ p, c ∈ acc ∨ c ∈ l
  | [], k, acc, p, h => by
    rw [spl_nil] at h
    cases List.mem_singleton.mp h
    exact fun c hc => .inl hc
  | d :: r, 0, acc, p, h => by
    cases e : pre S (d :: r) with
    | true =>
      rw [spl_hit e] at h
      rcases List.mem_cons.mp h with rfl | h
      · exact fun c hc => .inl hc
      · intro c hc
        rcases spl_mem S r _ _ p h c hc with h1 | h1
        · cases h1
        · exact .inr (List.mem_cons_of_mem _ h1)
    | false =>
      rw [spl_miss e] at h
      intro c hc
      rcases spl_mem S r _ _ p h c hc with h1 | h1
      · rcases List.mem_append.mp h1 with h2 | h2
        · exact .inl h2
        · cases List.mem_singleton.mp h2
          exact .inr List.mem_cons_self
      · exact .inr (List.mem_cons_of_mem _ h1)
  | d :: r, k + 1, acc, p, h => fun c hc => by
    rcases spl_mem S r k acc p h c hc with h1 | h1
    · exact .inl h1
    · exact .inr (List.mem_cons_of_mem _ h1)
abbrev sl : Str := "/"
theorem tl_sl : tl sl = [47] := by decide +kernel
theorem split_eq (x : Str) : (Txt.split x sl).map tl = spl (tl sl) 0 [] (tl x) := split_spl x sl (by rw [tl_sl]; exact List.cons_ne_nil _ _) (kind_ok (by decide +kernel))
theorem split_le {x p : Str} (h : p ∈ Txt.split x sl) : (tl p).length ≤ (tl x).length := by
  have h2 : tl p ∈ (Txt.split x sl).map tl := List.mem_map_of_mem h
  rw [split_eq] at h2
  have := spl_le _ _ _ _ _ h2
  simp at this
  omega
theorem splitLen (x : Str) : (Txt.split x sl).length ≤ (tl x).length + 1 := by
  have h := congrArg List.length (split_eq x)
  rw [List.length_map] at h
  rw [h]
  exact spl_len _ _ _ _
theorem split_ne (x : Str) : Txt.split x sl ≠ [] := fun e => by
  have h := split_eq x
  rw [e] at h
  exact spl_ne _ _ _ _ h.symm
theorem starts_pre (x y : Str) (hy : tl y ≠ []) : Txt.startswith x y = pre (tl y) (tl x) := by
  have h := at_iff (x := x) (y := y) hy 0
  rw [List.drop_zero] at h
  rw [Bool.eq_iff_iff, ← h]
  unfold Txt.startswith
  rw [Bool.and_eq_true, decide_eq_true_eq]
  exact Iff.rfl
/-- a path lies inside a place -/
def inside (path place : Str) : Bool := decide (place = "") || pre (tl (place ++ sl)) (tl path)
theorem tl_ps (place : Str) : tl (place ++ sl) = tl place ++ [47] := by rw [tl_append, tl_sl]
theorem inside_starts (path place : Str) : Txt.startswith path (place ++ sl) = pre (tl (place ++ sl)) (tl path) :=
  starts_pre _ _ (by rw [tl_ps]; simp)
theorem tl_cut (z : Str) (n : Nat) : tl (cutS z none (some (n : Int))) = (tl z).take n := by
  unfold cutS
  rw [HT.sIx_none, show HT.sIx z.length z.length (some (n : Int)) = min n z.length from HT.sIx_nat z.length z.length n, tl_mk, List.drop_zero, Nat.sub_zero]
  rw [len_tl]
  exact (List.take_eq_take_min).symm
theorem inside_cut (path place : Str) : decide (V.str (cutS path none (some ((place.length : Int) + 1))) = V.str (place ++ sl)) = pre (tl (place ++ sl)) (tl path) := by
  have e1 : ((place.length : Int) + 1) = ((place.length + 1 : Nat) : Int) := by omega
  have e2 : (tl (place ++ sl)).length = place.length + 1 := by rw [tl_ps, List.length_append, ← len_tl]; rfl
  rw [Bool.eq_iff_iff, decide_eq_true_eq, e1]
  unfold pre
  rw [e2, beq_iff_eq, ← tl_cut]
  exact ⟨fun h => by rw [V.str.inj h], fun h => by rw [ext_tl h]⟩
end Ga

set_option maxRecDepth 100000
set_option maxHeartbeats 4000000
namespace Ga
open PySem PySem.Spec PyProof.Rows L2 TL
/-- all but the object at B stays -/
def Kp (B : Addr) (H H' : Hp) : Prop := ∀ b o, b ≠ B → H b = some o → H' b = some o
theorem Kp.refl (B : Addr) (H : Hp) : Kp B H H := fun _ _ _ h => h
theorem Kp.trans {B : Addr} {H H1 H2 : Hp} (a : Kp B H H1) (b : Kp B H1 H2) : Kp B H H2 := fun c o n h => b c o n (a c o n h)
theorem Kp.same {B : Addr} {H H1 : Hp} (a : Same H H1) : Kp B H H1 := fun c o _ h => a c o h
theorem Kp.new {B l : Addr} {H H1 : Hp} {o : HO} (h : H l = none) (a : Kp B (upd H l o) H1) : Kp B H H1 := fun c u n e =>
  a c u n (by rw [upd_ne (ne_of_none e h)]; exact e)
theorem Kp.back {B l : Addr} {H H1 : Hp} {o : HO} (a : Kp B H H1) (h : H l = none) : Kp B H (upd H1 l o) := fun c u n e => by
  rw [upd_ne (ne_of_none e h)]; exact a c u n e
theorem Kp.seqL {K : PySem.W.Frag} {B a : Addr} {H H' : Hp} {xs : List V} (k : Kp B H H') (n : a ≠ B) (h : SqL K H a xs) : SqL K H' a xs := by
  rcases h with (h | ⟨o, h⟩) | h
  · exact .inl (.inl (k _ _ n h))
  · exact .inl (.inr ⟨o, k _ _ n h⟩)
  · exact .inr h
theorem Kp.seqT {K : PySem.W.Frag} {B a : Addr} {H H' : Hp} {xs : List V} (k : Kp B H H') (n : a ≠ B) (h : SqT K H a xs) : SqT K H' a xs := by
  rcases h with (h | ⟨o, h⟩) | h
  · exact .inl (.inl (k _ _ n h))
  · exact .inl (.inr ⟨o, k _ _ n h⟩)
  · exact .inr h
/-- the box of the law at B: its digits, how many are drawn -/
structure Box (H : Hp) (B D : Addr) : Prop where
  ex : ∃ (ds : List Int) (i : Int), H B = some (.lst [.ref D, .int i]) ∧ 0 ≤ i ∧ D ≠ B ∧ H D = some (.lst (ds.map V.int))
theorem Box.same {H H' : Hp} {B D : Addr} (b : Box H B D) (s : Same H H') : Box H' B D := by
  obtain ⟨ds, i, h1, h2, h3, h4⟩ := b.ex
  exact ⟨ds, i, s _ _ h1, h2, h3, s _ _ h4⟩
theorem Box.ne {H : Hp} {B D l : Addr} (b : Box H B D) (h : H l = none) : l ≠ B := fun e => by
  obtain ⟨ds, i, h1, h2, h3, h4⟩ := b.ex
  rw [← e, h] at h1
  cases h1
theorem Box.neD {H : Hp} {B D l : Addr} (b : Box H B D) (h : H l = none) : l ≠ D := fun e => by
  obtain ⟨ds, i, h1, h2, h3, h4⟩ := b.ex
  rw [← e, h] at h4
  cases h4
theorem Box.put {H : Hp} {B D l : Addr} {o : HO} (b : Box H B D) (h1 : l ≠ B) (h2 : l ≠ D) : Box (upd H l o) B D := by
  obtain ⟨ds, i, g1, g2, g3, g4⟩ := b.ex
  exact ⟨ds, i, by rw [upd_ne h1.symm]; exact g1, g2, g3, by rw [upd_ne h2.symm]; exact g4⟩
theorem Box.new {H : Hp} {B D l : Addr} {o : HO} (b : Box H B D) (h : H l = none) : Box (upd H l o) B D := b.same (same_upd h)
/-- a draw below m -/
def spDraw : Sp := fun vs H Q _ => ∃ (B D : Addr) (m : Int), vs = [.ref B, .int m] ∧ 0 < m ∧ Box H B D ∧ ∀ (r : Int) (H' : Hp), 0 ≤ r → r < m → Kp B H H' → Box H' B D → Q (.int r) H'
/-- a value out of the box -/
def spBox (R : Hp → V → Hp → Prop) : Sp := fun vs H Q _ => ∃ B D : Addr, vs = [.ref B] ∧ Box H B D ∧ ∀ (v : V) (H' : Hp), R H v H' → Kp B H H' → Box H' B D → Q v H'

/-! ### displays of constants -/
def constsOf : List Expr → Option (List V)
  | [] => some []
  | .Constant (.str z) _ _ :: r => (constsOf r).map (V.str z :: ·)
  | .Constant (.int i) _ _ :: r => (constsOf r).map (V.int i :: ·)
  | _ => none
def tVals (vs : List V) : TA := fun _ H Q => Q vs H
theorem pa_consts {X : Cx} : ∀ {es : List Expr} {vs : List V}, constsOf es = some vs → PA X es (tVals vs)
  | [], vs, h => by
    cases h
    exact pa_nil
  | .Constant (.str z) k p :: r, vs, h => by
    have h2 : (constsOf r).map (V.str z :: ·) = some vs := h
    cases e : constsOf r with
    | none => rw [e] at h2; cases h2
    | some l =>
      rw [e] at h2
      cases h2
      exact pa_cons pe_str (pa_consts e)
  | .Constant (.int i) k p :: r, vs, h => by
    have h2 : (constsOf r).map (V.int i :: ·) = some vs := h
    cases e : constsOf r with
    | none => rw [e] at h2; cases h2
    | some l =>
      rw [e] at h2
      cases h2
      exact pa_cons pe_int (pa_consts e)
/-! ### text * number -/
def rMulS : R2 := fun x y H Q => ∃ (z : Str) (n : Int), x = .str z ∧ y = .int n ∧ 0 ≤ n ∧ n ≤ 1000 ∧ (tl z).length ≤ 1000 ∧ ∀ r : Str, tl r = (List.replicate n.toNat (tl z)).flatten → Q (.str r) H
theorem flat_arr (z : Array Nat) : ∀ (n : Nat) (acc : Array Nat), ((List.replicate n z).foldl (· ++ ·) acc).toList = acc.toList ++ (List.replicate n z.toList).flatten
  | 0, acc => by simp
  | n + 1, acc => by
    rw [List.replicate_succ, List.foldl_cons, flat_arr z n, List.replicate_succ, List.flatten_cons, Array.toList_append, List.append_assoc]
theorem flat_len {α : Type} (l : List α) : ∀ n : Nat, (List.replicate n l).flatten.length = n * l.length
  | 0 => by simp
  | n + 1 => by rw [List.replicate_succ, List.flatten_cons, List.length_append, flat_len l n, Nat.succ_mul, Nat.add_comm]
theorem op_mulS {X : Cx} : OpR X (binaryOp .Mult) rMulS := by
  intro pins s σ H x y v u Q I rx ry h
  obtain ⟨z, n, rfl, rfl, h0, h1, hz, q⟩ := h
  obtain ⟨t, rfl⟩ := rx
  obtain ⟨t2, rfl⟩ := ry
  have hl : z.length = (tl z).length := len_tl z
  have e63 : (2 : Int) ^ 63 = 9223372036854775808 := by decide
  refine PySem.P.mul_str ?_ (fun a b => ?_) (fun a b => ?_) ?_
  · rw [decide_eq_false (by omega), decide_eq_false (by omega)]
    rfl
  · have : (2 ^ 63 - 1 : Int) / n ≥ (2 ^ 63 - 1 : Int) / 1000 := by
      rw [e63]
      apply Int.le_ediv_of_mul_le (by omega)
      have : (9223372036854775808 - 1 : Int) / 1000 = 9223372036854775 := by decide
      rw [this]
      have := Int.mul_le_mul_of_nonneg_left h1 (show (0 : Int) ≤ 9223372036854775 by decide)
      omega
    have e2 : (2 ^ 63 - 1 : Int) / 1000 = 9223372036854775 := by decide
    omega
  · have : z.length * n.toNat ≤ 1000 * 1000 := Nat.mul_le_mul (by omega) (by omega)
    have s1 : sizeLine = 16777216 := by decide
    exact decide_eq_false (by omega)
  · split
    · have e0 : n.toNat = 0 := by omega
      refine ⟨by decide, .str Str.empty, H, I.tok _, ⟨_, rfl⟩, q _ ?_⟩
      rw [e0]
      rfl
    · split
      · rename_i g1 g2
        refine ⟨.str z, H, I, ⟨_, rfl⟩, q z ?_⟩
        rw [Bool.or_eq_true, beq_iff_eq, beq_iff_eq] at g2
        rcases g2 with g2 | g2
        · rw [g2]
          show tl z = tl z ++ []
          rw [List.append_nil]
        · have e0 : tl z = [] := List.length_eq_zero_iff.mp (by rw [← hl]; exact g2)
          have := flat_len (tl z) n.toNat
          rw [e0] at this ⊢
          exact (List.length_eq_zero_iff.mp (by simpa using this)).symm
      · have e : tl ⟨(List.replicate n.toNat z.cps).foldl (· ++ ·) #[]⟩ = (List.replicate n.toNat (tl z)).flatten := flat_arr z.cps n.toNat #[]
        have s1 : sizeLine = 16777216 := by decide
        refine ⟨?_, .str _, H, I.tok _, ⟨_, rfl⟩, q _ e⟩
        rw [len_tl, e, flat_len]
        have : n.toNat * (tl z).length ≤ 1000 * 1000 := Nat.mul_le_mul (by omega) (by omega)
        omega
/-! ### picks out of a written list -/
section
variable {K : PySem.W.Frag} {σ : L2.St} {H : Hp} {Q : VK} {i : Nat} {B D : Addr} {n : Int} {vs : List V}
theorem draw_is (h0 : 0 < n) (hB : σ[i]? = some (some (.ref B))) (bx : Box H B D) (hq : ∀ (r : Int) (H' : Hp), 0 ≤ r → r < n → Kp B H H' → Box H' B D → Q (.int r) H') :
    tCall spDraw [] E0 (tCons (tVar i) (tCons (tC (.int n)) tNil)) σ H Q := ⟨_, hB, B, D, n, rfl, h0, bx, hq⟩
theorem pick_at {l : Addr} (hn : n = (vs.length : Int)) (h0 : 0 < n) (hl : H l = some (.lst vs)) (ne : l ≠ B) (hB : σ[i]? = some (some (.ref B))) (bx : Box H B D)
    (hq : ∀ v ∈ vs, ∀ H', Kp B H H' → Box H' B D → Q v H') :
    tCall spDraw [] E0 (tCons (tVar i) (tCons (tC (.int n)) tNil)) σ H fun y H2 => rIxL K (.ref l) y H2 Q := by
  refine draw_is h0 hB bx fun r H' r0 rn kp bx' => ?_
  have hr : r.toNat < vs.length := by omega
  have er : r = ((r.toNat : Nat) : Int) := by omega
  refine ⟨l, vs, r, vs[r.toNat], rfl, rfl, sqL (kp l _ ne hl), ?_, hq _ (List.getElem_mem hr) H' kp bx'⟩
  exact at_of er (List.getElem?_eq_getElem hr)
theorem pick (hn : n = (vs.length : Int)) (h0 : 0 < n) (hz : vs.length ≤ 1000) (hB : σ[i]? = some (some (.ref B))) (bx : Box H B D)
    (hq : ∀ v ∈ vs, ∀ H', Kp B H H' → Box H' B D → Q v H') :
    tOp (rIxL K) (tLst (tVals vs)) (tCall spDraw [] E0 (tCons (tVar i) (tCons (tC (.int n)) tNil))) σ H Q := by
  refine ⟨Nat.le_of_lt (small1000 hz), fun l nl => ?_⟩
  exact pick_at hn h0 upd_same (bx.ne nl) hB (bx.new nl) fun v hv H' kp b => hq v hv H' (kp.new nl) b
end
end Ga

set_option maxRecDepth 100000
set_option maxHeartbeats 4000000
namespace Ga
open PySem PySem.Spec PyProof.Rows L2 TL
section
variable {K : PySem.W.Frag} {σ : L2.St} {H : Hp} {Q : VK} {B Dg : Addr} {te : TE}
/-- [e for k in range(n)], e drawn out of the box -/
theorem lc_rng_box {n i : Nat} {R : V → Prop} {Qd : Hp → Prop} {D : Addr} (nD : H D = none) (bx : Box H B Dg) (hz : n ≤ 100000)
    (he : ∀ (m : Nat) (H2 : Hp) (Q2 : VK), m < n → Box H2 B Dg → Kp B H H2 → (∀ v H3, R v → Kp B H2 H3 → Box H3 B Dg → Q2 v H3) → te ((wipe σ [i]).set i (some (.int (0 + m)))) H2 Q2)
    (hq : ∀ H' vs, Kp B H H' → Box H' B Dg → H' D = some (.lst vs) → vs.length = n → (∀ v ∈ vs, R v) → Qd H') :
    ∃ W : Nat → Nat → Hp → Prop, (∃ m, W 0 m (upd H D (.lst []))) ∧ ∀ i' m H', W i' m H' →
      ((Itr 0 n).stop i' H' ∧ Qd H') ∨ ((Itr 0 n).go i' H' ∧ ∃ Nx : Hp → Prop, (∀ H', Nx H' → ∃ m', m' < m ∧ W (i' + 1) m' H') ∧ ∀ x H2, (Itr 0 n).yld i' H' x H2 → gName i x (wipe σ [i]) H2 fun σ2 H2 => wipe σ2 [i] = wipe σ [i] ∧ tYes σ2 H2 fun b H3 =>
        if b = true then te σ2 H3 fun y H4 => ∃ acc, H4 D = some (.lst acc) ∧ acc.length < sizeLine ∧ Nx (upd H4 D (.lst (acc ++ [y]))) else Nx H3) := by
  have neD : D ≠ B := bx.ne nD
  refine lc_it (walk_range (lo := 0) (n := n)) (fun m H' => Kp B H H' ∧ Box H' B Dg ∧ ∃ vs, H' D = some (.lst vs) ∧ vs.length = m ∧ ∀ v ∈ vs, R v)
    ⟨fun b o _ e => same_upd nD b o e, bx.new nD, [], upd_same, rfl, fun _ h => nomatch h⟩ (fun _ _ _ _ => trivial) ?_ ?_
  · rintro m x H2 H3 hm ⟨kp, b2, vs, hD, hl, hR⟩ ⟨rfl, rfl⟩
    refine ⟨wipe_set _ _ _, ?_⟩
    dsimp only [tYes]
    rw [if_pos rfl]
    refine he m H3 _ hm b2 kp fun v H4 rv kp4 b4 => ?_
    refine ⟨vs, kp4 _ _ neD hD, Nat.lt_of_le_of_lt (show vs.length ≤ 100000 by omega) (by decide), (kp.trans kp4).back nD, b4.put neD (bx.neD nD), vs ++ [v], upd_same, by rw [List.length_append, hl]; rfl, ?_⟩
    · intro u hu
      rcases List.mem_append.mp hu with h | h
      · exact hR u h
      · cases List.mem_singleton.mp h
        exact rv
  · rintro H2 ⟨kp, b2, vs, hD, hl, hR⟩
    exact hq H2 vs kp b2 hD hl hR
end
theorem ixL {X : Cx} {K : PySem.W.Frag} (h : X.K = K) : IxR X (rIxL K) := by
  subst h
  exact ix_list
/-! ### lists of texts as data -/
theorem canAll : ∀ l : List Str, (∀ z ∈ l, PyData.strOk z = true) → PyData.canLayAll0 (l.map PyData.str) = true
  | [], _ => rfl
  | z :: r, h => by
    show (PyData.strOk z && PyData.canLayAll0 (r.map PyData.str)) = true
    rw [h z List.mem_cons_self, canAll r fun y hy => h y (List.mem_cons_of_mem _ hy)]
    rfl
theorem depthAll0 : ∀ l : List Str, PyData.depthAll (l.map PyData.str) = 0
  | [] => rfl
  | z :: r => by
    show max 0 (PyData.depthAll (r.map PyData.str)) = 0
    rw [depthAll0 r]
    rfl
theorem shaped_strs {l : List Str} (h : ∀ z ∈ l, PyData.strOk z = true) : SeqAt.shaped (.list (l.map PyData.str)) = true := by
  unfold SeqAt.shaped
  rw [show PyData.canLay0 (.list (l.map PyData.str)) = PyData.canLayAll0 (l.map PyData.str) from rfl, canAll l h,
    show PyData.depth (.list (l.map PyData.str)) = PyData.depthAll (l.map PyData.str) + 1 from rfl, depthAll0]
  rfl
theorem dpAll_strs {K : PySem.W.Frag} {H : Hp} : ∀ l : List Str, DpAll K H (l.map V.str) (l.map PyData.str)
  | [] => .nil
  | z :: r => .cons (.str z) (dpAll_strs r)
theorem eqv_nil : ∀ l : List PyData, PyData.eqv (.list l) (.list []) = l.isEmpty
  | [] => rfl
  | _ :: _ => rfl
end Ga

set_option maxRecDepth 100000
set_option maxHeartbeats 4000000
/-! Gs: set(xs) of a list of texts, as many as there are. -/
namespace Ga
open PySem PySem.Spec PyProof.Rows L2 TL
/-- how many different ones stand among the first i -/
def cnt (xs : List Str) : Nat → Nat
  | 0 => 0
  | i + 1 => if xs.getD i Str.empty ∈ xs.take i then cnt xs i else cnt xs i + 1
theorem cnt_le (xs : List Str) : ∀ i, cnt xs i ≤ i
  | 0 => Nat.le_refl _
  | i + 1 => by
    have := cnt_le xs i
    unfold cnt
    split <;> omega
theorem getD_get {xs : List Str} {i : Nat} (h : i < xs.length) : xs.getD i Str.empty = xs[i] := by
  rw [List.getD_eq_getElem?_getD, List.getElem?_eq_getElem h]; rfl
theorem take_snoc {xs : List Str} {i : Nat} (h : i < xs.length) : xs.take (i + 1) = xs.take i ++ [xs.getD i Str.empty] := by
  rw [getD_get h, List.take_add_one, List.getElem?_eq_getElem h]; rfl
theorem cnt_nodup (xs : List Str) : ∀ i, i ≤ xs.length → (cnt xs i = i ↔ (xs.take i).Nodup)
  | 0, _ => ⟨fun _ => List.nodup_nil, fun _ => rfl⟩
  | i + 1, hi => by
    have ih := cnt_nodup xs i (by omega)
    have hle := cnt_le xs i
    rw [take_snoc hi, List.nodup_append]
    unfold cnt
    by_cases hm : xs.getD i Str.empty ∈ xs.take i
    · rw [if_pos hm]
      refine ⟨fun e => by omega, fun ⟨_, _, h⟩ => absurd rfl (h _ hm _ List.mem_cons_self)⟩
    · rw [if_neg hm]
      refine ⟨fun e => ⟨ih.mp (by omega), by simp, fun a ha b hb e2 => hm ?_⟩, fun ⟨h, _, _⟩ => by rw [ih.mpr h]⟩
      rw [← List.mem_singleton.mp hb, ← e2]
      exact ha
theorem TL_strs : ∀ {ys : List Str} {us : List Value}, Vals (ys.map V.str) us → StrsAre us ys
  | [], _, .nil => .nil
  | y :: r, _, .cons h t => by
    obtain ⟨k, rfl⟩ := h
    exact .cons y k (TL_strs t)
abbrev inTake (xs : List Str) (i : Nat) : Str → Bool := fun k => decide (k ∈ xs.take i)
section
variable {prog : Program} {w : World} {A : Around} {R : Result → Shared → Prop} {J : Addr} {fp wr : List Addr} {G : Array GenState → Array GenState → Prop}
  {n : Nat} {P : Nat → Value → Prop} {St : Nat → Shared → Prop}
theorem txt_at : ∀ {us : List Value} {xs : List Str}, StrsAre us xs → ∀ (i : Nat) (v : Value), us[i]? = some v → ∃ t, v = .str (xs.getD i Str.empty) t := by
  intro us xs h
  induction h with
  | nil => intro i v e; simp at e
  | cons x t r ih =>
    intro i v e
    cases i with
    | zero => exact ⟨t, by simp at e; rw [← e]; rfl⟩
    | succ i =>
      obtain ⟨u, q⟩ := ih i v (by simpa using e)
      exact ⟨u, q⟩
theorem upd_loop (W : WalksS prog w A.in1 J fp wr G n P St) (Z : Addr) (nf : Z ∉ fp) (xs : List Str) (hx : xs.length = n)
    (hv : ∀ i v, P i v → ∃ t, v = .str (xs.getD i Str.empty) t) (hb : n + 1 < scanBound) (m : Nat) :
    ∀ (i : Nat) (s : Shared), n - i = m → i ≤ n → St i s → s.heap.SetOf (PySem.strKind prog w) Z (inTake xs i) (cnt xs i) →
      (∀ s', Moved (Z :: wr) G s s' → s'.heap.SetOf (PySem.strKind prog w) Z (inTake xs n) (cnt xs n) → R (.ok (.ret .none)) s') →
      codeAny (model prog w) A (.builtin "set.update.loop" ⟨[.ref Z, .ref J], []⟩) R s := by
  have nw : Z ∉ wr := fun z => nf (W.sub _ z)
  have more : ∀ b ∈ wr, b ∈ Z :: wr := fun b => List.mem_cons_of_mem _
  induction m with
  | zero =>
    intro i s e1 e2 st SZ fin
    obtain rfl : i = n := by omega
    apply codeAny_builtin PyProof.Rows.F.entry_set_update_loop
    rw [Around.under_plainId PyProof.Rows.F.plain_set_update_loop]
    change wpAny _ A.in1 (pyNext (.ref J) >>= _) _ _ s
    apply wpAny_bind
    refine W.done s _ _ st fun s' mv => ?_
    refine wpAny_pure (fin s' (mv.mono more) ?_)
    obtain ⟨o, es, ep, t, ho, r⟩ := SZ
    exact ⟨o, es, ep, t, mv.heap Z _ nw ho, r⟩
  | succ m ih =>
    intro i s e1 e2 st SZ fin
    have lt : i < n := by omega
    apply codeAny_builtin PyProof.Rows.F.entry_set_update_loop
    rw [Around.under_plainId PyProof.Rows.F.plain_set_update_loop]
    change wpAny _ A.in1 (pyNext (.ref J) >>= _) _ _ s
    apply wpAny_bind
    refine W.item i s _ _ lt st fun v s' pv' st' mv => ?_
    obtain ⟨t, rfl⟩ := hv i v pv'
    have SZ' : s'.heap.SetOf (PySem.strKind prog w) Z (inTake xs i) (cnt xs i) := by
      obtain ⟨o, es, ep, tb, ho, r⟩ := SZ
      exact ⟨o, es, ep, tb, mv.heap Z _ nw ho, r⟩
    change wpAny _ A.in1 (holding [Value.str (xs.getD i Str.empty) t] (setAdd Z (.str (xs.getD i Str.empty) t)) >>= _) _ _ s'
    apply wpAny_bind
    apply wpAny_holding
    unfold setAdd
    apply wpAny_holding
    apply wpAny_bind
    refine (PySem.strKind prog w).pyHash (k := xs.getD i Str.empty) (strKind_is _ _ _ _) ?_
    have room : cnt xs i + 1 < scanBound := by have := cnt_le xs i; omega
    refine wpAny_setAddHashed_of (knd := PySem.strKind prog w) (s := { s' with toks := s'.toks + 1 }) (strKind_is _ _ _ _) rfl SZ' room fun h' sb S2 => ?_
    have S3 : h'.SetOf (PySem.strKind prog w) Z (inTake xs (i + 1)) (cnt xs (i + 1)) := by
      refine SetOf_congr S2 (fun k => ?_) ?_
      · show (decide (k ∈ xs.take i) || decide (k = xs.getD i Str.empty)) = decide (k ∈ xs.take (i + 1))
        rw [take_snoc (by omega), Bool.eq_iff_iff, Bool.or_eq_true, decide_eq_true_eq, decide_eq_true_eq, decide_eq_true_eq, List.mem_append, List.mem_singleton]
      · show (if decide (xs.getD i Str.empty ∈ xs.take i) = true then cnt xs i else cnt xs i + 1) = cnt xs (i + 1)
        simp only [decide_eq_true_eq]
        rfl
    have apart : ∀ b ∈ fp, b ≠ Z := fun b hb e => nf (e ▸ hb)
    refine wpAny_pure ⟨plainId_quiet PyProof.Rows.F.plain_set_update_loop _, ih (i + 1) _ (by omega) lt ?_ S3 fun s2 mv2 SN => ?_⟩
    · exact W.frame _ s' _ _ st' (Nat.le_succ _) fun b hb o e => (sb.2 b (apart b hb)).trans e
    · exact fin s2 (Moved.trans W.gtrans ((mv.mono more).then_heap (Nat.le_succ _) fun b o hb e => (sb.2 b fun z => hb (z ▸ List.mem_cons_self)).trans e) mv2) SN
end
section
open PyProof.Rows
variable {prog : Program} {w : World} {A : Around} {E : Value → Shared → Prop} {s : Shared}
set_option maxHeartbeats 6400000 in
/-- set(xs) -/
theorem set_txt {l : Addr} {its : Array Value} {xs : List Str} {Q : Value → Shared → Prop} (hh : A.handled = none) (hl : s.heap.IsList l its)
    (hx : StrsAre its.toList xs) (hb : its.size + 1 < scanBound)
    (fin : ∀ (h' : Heap) (tk : Nat), h'.SetOf (PySem.strKind prog w) s.heap.objs.size (inTake xs its.size) (cnt xs its.size) →
      (∀ b o, b < s.heap.objs.size → s.heap.get? b = some o → h'.get? b = some o) → Q (.ref s.heap.objs.size) { s with heap := h', toks := tk }) :
    wpAny (model prog w) A (call (.type "set") [.ref l]) Q E s := by
  obtain ⟨c0, tl0, mro0⟩ := PySem.F.called_set.mro
  have made := PySem.F.called_set.made
  have subs := PySem.F.called_set.sub
  have ntyp := PySem.F.called_set.notType
  have cans := PySem.F.called_set.canCreate
  have tcal := PySem.F.typeCall_set_1 (.ref l)
  have len : xs.length = its.size := by rw [← Array.length_toList]; exact (hx.length).symm
  apply wpAny_call
  apply codeAny_of_tree
  change wpAny _ _ (callAny (.type "set") _) _ _ _
  refine wpAny_pure ⟨Code.quiet_builtin _ (by decide +kernel), codeAny_builtin PySem.F.entry_type_call ?_⟩
  rw [Around.under_plain (weight_type_call_type "set" [.ref l] []) rfl]
  repeat (any_goals (first | assumption | wp_step))
  let Z : Addr := s.heap.objs.size
  let fresh : Bool → Obj := fun led => { cls := .type "set", dict := none, data := .set #[] 0 (.fresh 0 0 led) }
  refine codeAny_mono (code_set_new_1 (.ref l) (E := E) (Q₁ := fun ob s1 => ∃ led : Bool, ob = .ref Z ∧ s1 = { s with heap := s.heap.push (fresh led) })
    fun led => ⟨led, rfl, rfl⟩) ?_
  rintro (e | fl) s1 hr
  · exact hr
  cases fl with
  | next => exact hr.elim
  | brk => exact hr.elim
  | cont => exact hr.elim
  | ret ob =>
    obtain ⟨led, rfl, rfl⟩ := hr
    have atZ : (s.heap.push (fresh led)).get? Z = some (fresh led) := Heap.get?_push_size _ rfl
    have tyZ : Shared.TypeIs { s with heap := s.heap.push (fresh led) } (.ref Z) "set" := ⟨_, atZ, rfl⟩
    have ini := PySem.F.called_set.init.lookup
    have bnd := PySem.F.called_set.init.bind (.ref Z)
    repeat (any_goals (first | assumption | wp_step))
    refine codeAny_mono (codeAny_call_builtin (R := wants (fun r s2 => r = .none ∧ ∃ h' tk, s2 = { s with heap := h', toks := tk } ∧
        h'.SetOf (PySem.strKind prog w) Z (inTake xs its.size) (cnt xs its.size) ∧ (∀ b o, b < Z → s.heap.get? b = some o → h'.get? b = some o)) E)
      PySem.F.called_set.init.plain PySem.F.entry_set_init (check_set_init_1 tyZ ?_)) ?_
    · obtain ⟨⟨cl, dd, da, sl⟩, hol, hcl, nl, hdl⟩ := hl
      simp only at hcl hdl
      subst hcl
      subst hdl
      have hol1 : (s.heap.push (fresh led)).get? l = some { cls := .type "list", dict := dd, data := .seq its nl, slots := sl } := Heap.get?_push_of_some _ hol
      have n1 := PySem.F.sub_list_set
      have n2 := PySem.F.sub_list_frozenset
      have n3 : (Value.type "list" == Value.type "dict") = false := by decide
      have isl : (s.heap.push (fresh led)).IsList l its := ⟨_, hol1, rfl, nl, rfl⟩
      unfold Builtin.«set.__init__» noKeywords Builtin.Frozenset.updateFrom
      generalize hPI : pyIter = PI
      wp_walk
      subst hPI
      apply wpAny_pyIter_list isl
      apply wpAny_bind
      apply wpAny_runValue
      have lZ : l < Z := Heap.lt_size hol
      have size1 : (s.heap.push (fresh led)).objs.size = Z + 1 := Heap.size_push _ _
      have calm : A.in1.in1.in1.handled = none := by simp [hh]
      have neJ : l ≠ (s.heap.push (fresh led)).objs.size := by rw [size1]; exact Nat.ne_of_lt (Nat.lt_succ_of_lt lZ)
      have notin : Z ∉ [(s.heap.push (fresh led)).objs.size, l] := by
        rw [size1]
        simp only [List.mem_cons, List.not_mem_nil, or_false, not_or]
        exact ⟨Nat.ne_of_lt (Nat.lt_succ_self _), Nat.ne_of_gt lZ⟩
      refine upd_loop (Walks.list calm _ l neJ its).toS Z notin xs len (fun i v hv => txt_at hx i v (by rw [Array.getElem?_toList]; exact hv)) hb (its.size - 0) 0 _
        (by omega) (Nat.zero_le _) ⟨⟨_, Heap.get?_push_size _ rfl, rfl, rfl⟩, isl.push _⟩ ?zero ?last
      case zero =>
        have g := Heap.get?_push_of_some ({ cls := .type "list_iterator", data := .fields #[.ref l, .int 0 0] } : Obj) atZ
        exact SetOf_congr ((setObjOf_fresh (knd := PySem.strKind prog w) led).setOf g (by unfold scanBound; omega)) (fun _ => rfl) rfl
      case last =>
        rintro ⟨h', g', d', tk', os'⟩ mv SN
        obtain rfl : g' = s.gens := mv.gens
        obtain rfl : d' = s.drawn := mv.drawn
        obtain rfl : os' = s.os := mv.os
        change wpAny _ _ _ _ _ _
        apply wpAny_pure
        change wpAny _ _ (ret Value.none) _ _ _
        refine wpAny_pure ⟨rfl, h', tk', rfl, SN, fun b o hb e => mv.heap b o ?_ (Heap.get?_push_of_some _ (Heap.get?_push_of_some _ e))⟩
        simp only [List.mem_cons, List.not_mem_nil, or_false, not_or]
        rw [size1]
        exact ⟨Nat.ne_of_lt hb, Nat.ne_of_lt (Nat.lt_succ_of_lt hb)⟩
    · rintro (e | fl2) s2 hr2
      · exact hr2
      cases fl2 with
      | next => exact hr2.elim
      | brk => exact hr2.elim
      | cont => exact hr2.elim
      | ret r =>
        obtain ⟨rfl, h', tk, rfl, SN, kp⟩ := hr2
        repeat (any_goals (first | assumption | wp_step))
        exact fin _ _ SN kp
end
/-- len(set(xs)) of a list of texts -/
def tLenSetT (K : PySem.W.Frag) (ta : TE) : TE := fun σ H Q => ta σ H fun x H1 => ∃ (l : Addr) (xs : List Str), x = .ref l ∧ SqL K H1 l (xs.map V.str) ∧ xs.length ≤ 4000 ∧ Q (.int (cnt xs xs.length : Nat)) H1
theorem pe_lenSetT {X : Cx} {a : Expr} {ta : TE} {p p2 q pos : Pos} (hg : Gl X "len") (hm : X.mg "len" = none) (gs : Gl X "set") (ms : X.mg "set" = none)
    (ha : PE X a ta) (hc : X.calm = true := by rfl) (na : starEach [a] X.env = (false, eval a X.env) :: starEach [] X.env := by rfl) :
    PE X (.Call (.Name "len" p) [.Call (.Name "set" p2) [a] [] q] [] pos) (tLenSetT X.K ta) := by
  refine ⟨fun pins s σ H Q I h => Call_ (ld_blt I hg hm boot_len ?_)⟩
  refine callWith_builtin1 (args_cons (Call_ (ld_blt I gs ms boot_set ?_)) rfl) rfl rfl
  refine callWith_type1 (args_cons (thn (ha.run pins s σ H _ I h) ?_) na) na rfl
  rintro v s1 ⟨x, H1, I1, r1, l, xs, rfl, hq, hl, q1⟩
  apply args_nil
  cases r1
  obtain ⟨its, r, pl, hz⟩ := I1.list hq
  have size : its.toArray.size = xs.length := by rw [List.size_toArray, ← r.length, List.length_map]
  refine set_txt (I1.ok.hd hc) pl.isList (by simpa using TL_strs r) (by rw [size]; unfold scanBound; omega) fun h' tk hS hk => ?_
  apply args_nil
  rw [size] at hS
  obtain ⟨o, es, ep, t, ho, hex, hd, _, _, _, hf, hn⟩ := hS
  have I2 : Inv X pins σ H1 { s1 with heap := h', toks := tk } := I1.kept fun b o e => hk b o (Heap.lt_size e) e
  have := cnt_le xs xs.length
  exact call_len_set ho hex hd hf (by rw [hn]; omega) ⟨.int (cnt xs xs.length : Nat), H1, I2.tok _, ⟨_, by rw [hn]⟩, q1⟩
end Ga

set_option maxRecDepth 100000
set_option maxHeartbeats 4000000
/-! Gt: rows of (path, lines), comprehensions over them, tables of them. -/
namespace Ga
open PySem PySem.Spec PyProof.Rows L2 TL
/-- all tuples stay -/
def SameT (H H' : Hp) : Prop := ∀ b xs, (H b = some (.tup xs) → H' b = some (.tup xs)) ∧ ∀ o, H b = some (.frz o (.tup xs)) → H' b = some (.frz o (.tup xs))
theorem SameT.refl (H : Hp) : SameT H H := fun _ _ => ⟨id, fun _ => id⟩
theorem SameT.trans {H H1 H2 : Hp} (a : SameT H H1) (b : SameT H1 H2) : SameT H H2 := fun c xs => ⟨fun h => (b c xs).1 ((a c xs).1 h), fun o h => (b c xs).2 o ((a c xs).2 o h)⟩
theorem _root_.L2.Same.t {H H' : Hp} (s : Same H H') : SameT H H' := fun b xs => ⟨fun h => s _ _ h, fun o h => s _ _ h⟩
/-- what is written here is no tuple -/
def NoTup : HO → Bool
  | .tup _ => false
  | .frz _ (.tup _) => false
  | _ => true
theorem SameT.put {H : Hp} {a : Addr} {u v : HO} (h : H a = some u) (n : NoTup u = true) : SameT H (upd H a v) := fun b xs => by
  refine ⟨fun e => ?_, fun o e => ?_⟩
  all_goals
    have ne : b ≠ a := fun z => by
      subst z
      rw [h] at e
      cases e
      cases n
    rw [upd_ne ne]
    exact e
theorem SameT.new {H : Hp} {a : Addr} {v : HO} (h : H a = none) : SameT H (upd H a v) := (same_upd h).t
theorem SameT.box {H H' : Hp} {B D : Addr} (k : Kp B H H') (bx : Box H B D) : SameT H H' := fun b xs => by
  obtain ⟨ds, i, h1, _⟩ := bx.ex
  refine ⟨fun e => ?_, fun o e => ?_⟩
  all_goals
    refine k b _ (fun z => ?_) e
    rw [z, h1] at e
    cases e
section
variable {K : PySem.W.Frag} {H H' : Hp}
theorem SameT.sq {a : Addr} {xs : List V} (e : SameT H H') (h : SqT K H a xs) : SqT K H' a xs := by
  rcases h with (h | ⟨o, h⟩) | h
  · exact .inl (.inl ((e a xs).1 h))
  · exact .inl (.inr ⟨o, (e a xs).2 o h⟩)
  · exact .inr h
abbrev File := Str × List Str
/-- the lines of a file, a tuple of texts -/
def LinesAt (K : PySem.W.Frag) (H : Hp) (v : V) (l : List Str) : Prop := ∃ a, v = .ref a ∧ SqT K H a (l.map V.str)
/-- a row: (path, lines) -/
def RowAt (K : PySem.W.Frag) (H : Hp) (v : V) (f : File) : Prop := ∃ t w, v = .ref t ∧ SqT K H t [.str f.1, w] ∧ LinesAt K H w f.2
theorem LinesAt.st {v : V} {l : List Str} (h : LinesAt K H v l) (e : SameT H H') : LinesAt K H' v l := by
  obtain ⟨a, rfl, h⟩ := h
  exact ⟨a, rfl, e.sq h⟩
theorem RowAt.st {v : V} {f : File} (h : RowAt K H v f) (e : SameT H H') : RowAt K H' v f := by
  obtain ⟨t, w, rfl, h, l⟩ := h
  exact ⟨t, w, rfl, e.sq h, l.st e⟩
def dL (l : List Str) : PyData := .tuple (l.map PyData.str)
def dF (f : File) : PyData := .tuple [.str f.1, dL f.2]
theorem LinesAt.dp {v : V} {l : List Str} (h : LinesAt K H v l) : Dp K H v (dL l) := by
  obtain ⟨a, rfl, h⟩ := h
  exact .tup h (dpAll_strs l)
theorem RowAt.dp {v : V} {f : File} (h : RowAt K H v f) : Dp K H v (dF f) := by
  obtain ⟨t, w, rfl, h, l⟩ := h
  exact .tup h (.cons (.str _) (.cons l.dp .nil))
abbrev RowsAt (K : PySem.W.Frag) (H : Hp) (vs : List V) (fs : List File) : Prop := Paired (RowAt K H) vs fs
theorem RowsAt.dp {vs : List V} {fs : List File} (h : RowsAt K H vs fs) : DpAll K H vs (fs.map dF) := by
  induction h with
  | nil => exact .nil
  | cons a _ ih => exact .cons a.dp ih
theorem RowsAt.st {vs : List V} {fs : List File} (h : RowsAt K H vs fs) (e : SameT H H') : RowsAt K H' vs fs := h.mono fun _ _ r => r.st e
theorem paired_get {α β : Type} {F : α → β → Prop} : ∀ {l : List α} {m : List β}, Paired F l m → ∀ (i : Nat) (a : α), l[i]? = some a → ∃ b, m[i]? = some b ∧ F a b
  | _, _, .nil, i, a, e => by simp at e
  | _, _, .cons h t, 0, a, e => by
    cases e
    exact ⟨_, rfl, h⟩
  | _, _, .cons h t, i + 1, a, e => paired_get t i a (by simpa using e)
theorem paired_get2 {α β : Type} {F : α → β → Prop} : ∀ {l : List α} {m : List β}, Paired F l m → ∀ (i : Nat) (b : β), m[i]? = some b → ∃ a, l[i]? = some a ∧ F a b
  | _, _, .nil, i, a, e => by simp at e
  | _, _, .cons h t, 0, a, e => by
    cases e
    exact ⟨_, rfl, h⟩
  | _, _, .cons h t, i + 1, a, e => paired_get2 t i a (by simpa using e)
theorem paired_mem {α β : Type} {F : α → β → Prop} {l : List α} {m : List β} (h : Paired F l m) {a : α} (e : a ∈ l) : ∃ b ∈ m, F a b := by
  obtain ⟨i, hi⟩ := List.getElem?_of_mem e
  obtain ⟨b, hb, f⟩ := paired_get h i a hi
  exact ⟨b, List.mem_of_getElem? hb, f⟩
theorem paired_take {α β : Type} {F : α → β → Prop} : ∀ {l : List α} {m : List β}, Paired F l m → ∀ n, Paired F (l.take n) (m.take n)
  | _, _, .nil, n => by simp; exact .nil
  | _, _, .cons h t, 0 => .nil
  | _, _, .cons h t, n + 1 => .cons h (paired_take t n)
/-! ### comprehensions over a list or a tuple of anything -/
variable {σ : L2.St}
theorem filter_take_succ {α : Type} {p : α → Bool} {l : List α} {i : Nat} {c : α} (h : l[i]? = some c) : (l.take (i + 1)).filter p = (l.take i).filter p ++ if p c = true then [c] else [] := by
  rw [List.take_add_one, h, List.filter_append]
  cases hp : p c <;> simp [hp]
theorem lc_rel {α : Type} {J : It} {xs : List V} {as : List α} {g : TG} {tt : TT} {te : TE} {vs : List Nat} {R : Hp → α → V → Prop} {p : α → Bool} {Qd : Hp → Prop} {D : Addr} (nD : H D = none) (w : Walk J xs.length (fun H' => Same H H') (YAt xs)) (hal : xs.length = as.length) (hz : xs.length ≤ 100000)
    (hR : ∀ {H1 H2 : Hp} {c : α} {y : V}, SameT H1 H2 → R H1 c y → R H2 c y)
    (he : ∀ (i : Nat) (c : V) (a : α), xs[i]? = some c → as[i]? = some a → ∀ (H2 : Hp) (Rk : VK) (Rn : Hp → Prop), Same H H2 → (∀ y H3, p a = true → Same H2 H3 → R H3 a y → Rk y H3) → (∀ H3, p a = false → Same H2 H3 → Rn H3) →
      g c (wipe σ vs) H2 fun σ2 H3 => wipe σ2 vs = wipe σ vs ∧ tt σ2 H3 fun b H4 => if b = true then te σ2 H4 Rk else Rn H4)
    (hq : ∀ H' ys, Same H H' → H' D = some (.lst ys) → Paired (R H') (as.filter p) ys → Qd H') :
    ∃ W : Nat → Nat → Hp → Prop, (∃ m, W 0 m (upd H D (.lst []))) ∧ ∀ i' m H', W i' m H' →
      (J.stop i' H' ∧ Qd H') ∨ (J.go i' H' ∧ ∃ Nx : Hp → Prop, (∀ H', Nx H' → ∃ m', m' < m ∧ W (i' + 1) m' H') ∧ ∀ x H2, J.yld i' H' x H2 → g x (wipe σ vs) H2 fun σ2 H2 => wipe σ2 vs = wipe σ vs ∧ tt σ2 H2 fun b H3 =>
        if b = true then te σ2 H3 fun y H4 => ∃ acc, H4 D = some (.lst acc) ∧ acc.length < sizeLine ∧ Nx (upd H4 D (.lst (acc ++ [y]))) else Nx H3) := by
  refine lc_it w (fun m H' => Same H H' ∧ ∃ ys, H' D = some (.lst ys) ∧ Paired (R H') ((as.take m).filter p) ys) ⟨same_upd nD, [], upd_same, by simp; exact .nil⟩ (fun _ _ _ q => q.1) ?_ ?_
  · rintro m x H2 H3 hm ⟨s, ys, d, pr⟩ ⟨rfl, hg⟩
    obtain ⟨a, ha⟩ : ∃ a, as[m]? = some a := ⟨_, List.getElem?_eq_getElem (by omega)⟩
    refine he m x a hg ha H3 _ _ s (fun y H4 px s4 r => ?_) (fun H4 px s4 => ?_)
    · refine ⟨ys, s4 _ _ d, ?_, (s.trans s4).mut nD, ys ++ [y], upd_same, ?_⟩
      · rw [← pr.length]
        refine Nat.lt_of_le_of_lt (Nat.le_trans (List.length_filter_le _ _) (Nat.le_trans ?_ hz)) (by decide)
        rw [List.length_take, hal]
        exact Nat.min_le_right _ _
      · rw [filter_take_succ ha, if_pos px]
        have st : SameT H4 (upd H4 D (.lst (ys ++ [y]))) := .put (s4 _ _ d) rfl
        exact Paired.snoc (pr.mono fun _ _ q => hR (s4.t.trans st) q) (hR st r)
    · refine ⟨s.trans s4, ys, s4 _ _ d, ?_⟩
      rw [filter_take_succ ha, px, if_neg Bool.false_ne_true, List.append_nil]
      exact pr.mono fun _ _ q => hR s4.t q
  · rintro H2 ⟨s, ys, d, pr⟩
    rw [hal, List.take_length] at pr
    exact hq H2 ys s d pr
/-- {k: v for target in tuple or list} : keys are texts of R -/
theorem dc_rel {α : Type} {J : It} {xs : List V} {as : List α} {g : TG} {tt : TT} {tk tv : TE} {vs : List Nat} {R : Hp → α → Key × V → Prop} {p : α → Bool} {Qd : Hp → Prop} {D : Addr} (nD : H D = none) (w : Walk J xs.length (fun H' => Same H H') (YAt xs)) (hal : xs.length = as.length) (hz : xs.length ≤ 100000)
    (hR : ∀ {H1 H2 : Hp} {c : α} {y : Key × V}, SameT H1 H2 → R H1 c y → R H2 c y) (ky : α → Key) (hky : ∀ {H1 : Hp} {c : α} {y : Key × V}, R H1 c y → y.1 = ky c) (hnd : ((as.filter p).map ky).Nodup)
    (he : ∀ (i : Nat) (c : V) (a : α), xs[i]? = some c → as[i]? = some a → ∀ (H2 : Hp) (Rk : V → V → Hp → Prop) (Rn : Hp → Prop), Same H H2 → (∀ y H3, p a = true → Same H2 H3 → R H3 a y → Rk (kV y.1) y.2 H3) → (∀ H3, p a = false → Same H2 H3 → Rn H3) →
      g c (wipe σ vs) H2 fun σ2 H3 => wipe σ2 vs = wipe σ vs ∧ tt σ2 H3 fun b H4 => if b = true then tk σ2 H4 fun y H5 => tv σ2 H5 fun z H6 => Rk y z H6 else Rn H4)
    (hq : ∀ H' ys, Same H H' → H' D = some (.dK ys) → Paired (R H') (as.filter p) ys → Qd H') :
    ∃ W : Nat → Nat → Hp → Prop, (∃ m, W 0 m (upd H D (.dK []))) ∧ ∀ i' m H', W i' m H' →
      (J.stop i' H' ∧ Qd H') ∨ (J.go i' H' ∧ ∃ Nx : Hp → Prop, (∀ H', Nx H' → ∃ m', m' < m ∧ W (i' + 1) m' H') ∧ ∀ x H2, J.yld i' H' x H2 → g x (wipe σ vs) H2 fun σ2 H2 => wipe σ2 vs = wipe σ vs ∧ tt σ2 H2 fun b H3 =>
        if b = true then tk σ2 H3 fun y H4 => tv σ2 H4 fun z H5 => ∃ kvs k, y = kV k ∧ H5 D = some (.dK kvs) ∧ kvs.length < sizeLine ∧ Nx (upd H5 D (.dK (putK kvs k z))) else Nx H3) := by
  have keyOf : ∀ {H1 : Hp} {l : List α} {ys : List (Key × V)}, Paired (R H1) l ys → ys.map (·.1) = l.map ky := by
    intro H1 l ys h
    induction h with
    | nil => rfl
    | cons a _ ih => rw [List.map_cons, List.map_cons, ih, hky a]
  refine ⟨fun i m H' => m = xs.length - i ∧ i ≤ xs.length ∧ Same H H' ∧ ∃ ys, H' D = some (.dK ys) ∧ Paired (R H') ((as.take i).filter p) ys, ⟨xs.length, by simp, Nat.zero_le _, same_upd nD, [], upd_same, by simp; exact .nil⟩, ?_⟩
  rintro i m H2 ⟨rfl, hi, s, ys, d, pr⟩
  by_cases hlt : i < xs.length
  · refine .inr ⟨w.goes i H2 hlt s, fun H' => i + 1 ≤ xs.length ∧ Same H H' ∧ ∃ ys, H' D = some (.dK ys) ∧ Paired (R H') ((as.take (i + 1)).filter p) ys, fun H' q => ⟨xs.length - (i + 1), by omega, rfl, q.1, q.2⟩, fun x H3 y => ?_⟩
    obtain ⟨rfl, hg⟩ := w.yields i H2 x H3 hlt s y
    obtain ⟨a, ha⟩ : ∃ a, as[i]? = some a := ⟨_, List.getElem?_eq_getElem (by omega)⟩
    refine he i x a hg ha H3 (fun a b H5 => ∃ kvs k, a = kV k ∧ H5 D = some (.dK kvs) ∧ kvs.length < sizeLine ∧ _) _ s (fun y H4 px s4 r => ?_) (fun H4 px s4 => ?_)
    · have hl : ys.length ≤ i := by
        rw [← pr.length]
        refine Nat.le_trans (List.length_filter_le _ _) ?_
        rw [List.length_take]
        exact Nat.min_le_left _ _
      have hn : valV ys y.1 = none := by
        cases e : valV ys y.1 with
        | none => rfl
        | some v =>
          have m1 := valV_in e
          rw [keyOf pr, hky r] at m1
          exfalso
          have nd2 : (((as.take (i + 1)).filter p).map ky).Nodup := hnd.sublist (List.Sublist.map ky (List.Sublist.filter p (List.take_sublist _ _)))
          rw [filter_take_succ ha, if_pos px, List.map_append, List.nodup_append] at nd2
          exact nd2.2.2 _ m1 _ (List.mem_singleton.mpr rfl) rfl
      refine ⟨ys, y.1, rfl, s4 _ _ d, Nat.lt_of_le_of_lt (Nat.le_trans hl (Nat.le_trans hi hz)) (by decide), hlt, (s.trans s4).mut nD, ys ++ [y], ?_, ?_⟩
      · rw [upd_same, putK_new _ hn]
      · rw [filter_take_succ ha, if_pos px]
        have st : SameT H4 (upd H4 D (.dK (putK ys y.1 y.2))) := .put (s4 _ _ d) rfl
        exact Paired.snoc (pr.mono fun _ _ q => hR (s4.t.trans st) q) (hR st r)
    · refine ⟨hlt, s.trans s4, ys, s4 _ _ d, ?_⟩
      rw [filter_take_succ ha, px, if_neg Bool.false_ne_true, List.append_nil]
      exact pr.mono fun _ _ q => hR s4.t q
  · have e : i = xs.length := by omega
    rw [e, hal, List.take_length] at pr
    exact .inl ⟨e ▸ w.stops H2 s, hq H2 ys s d pr⟩
/-- [e for a in xs for b in xs], e a truth of a and b -/
theorem wipe2 {i j : Nat} {v : Option V} (ij : i ≠ j) : wipe ((wipe σ [i, j]).set i v) [i, j] = wipe σ [i, j] := by
  show ((((σ.set j none).set i none).set i v).set j none).set i none = (σ.set j none).set i none
  rw [List.set_set, List.set_comm _ _ ij, List.set_set, List.set_set]
theorem lc2_bl {J J1 : It} {xs : List V} {wi1 : TI} {te : TE} {i j : Nat} {p : V → V → Bool} {Qd : Hp → Prop} {D : Addr} (nD : H D = none) (w : Walk J xs.length (fun H' => Same H H') (YAt xs)) (w1 : Walk J1 xs.length (fun H' => Same H H') (YAt xs)) (hz : xs.length ≤ 300) (ij : i ≠ j)
    (hi : ∀ (c : V) (H2 : Hp) (R : It → Hp → Prop), c ∈ xs → Same H H2 → R J1 H2 → wi1 ((wipe σ [i, j]).set i (some c)) H2 R)
    (he : ∀ a ∈ xs, ∀ b ∈ xs, ∀ (H2 : Hp) (R : VK), Same H H2 → (∀ H3, Same H2 H3 → R (.bl (p a b)) H3) → te ((wipe ((wipe σ [i, j]).set i (some a)) [j]).set j (some b)) H2 R)
    (hq : ∀ H', Same H H' → H' D = some (.lst ((xs.flatMap fun a => xs.map fun b => p a b).map V.bl)) → Qd H') :
    ∃ W : Nat → Nat → Hp → Prop, (∃ m, W 0 m (upd H D (.lst []))) ∧ ∀ i' m H', W i' m H' →
      (J.stop i' H' ∧ Qd H') ∨ (J.go i' H' ∧ ∃ Nx : Hp → Prop, (∀ H', Nx H' → ∃ m', m' < m ∧ W (i' + 1) m' H') ∧ ∀ x H2, J.yld i' H' x H2 → gName i x (wipe σ [i, j]) H2 fun σ2 H2 => wipe σ2 [i, j] = wipe σ [i, j] ∧ tYes σ2 H2 fun b H3 =>
        if b = true then wi1 σ2 H3 fun J1 H4 => ∃ W1 : Nat → Nat → Hp → Prop, (∃ m, W1 0 m H4) ∧ ∀ j' k H, W1 j' k H →
          (J1.stop j' H ∧ Nx H) ∨ (J1.go j' H ∧ ∃ Nx1 : Hp → Prop, (∀ H', Nx1 H' → ∃ k', k' < k ∧ W1 (j' + 1) k' H') ∧ ∀ x H', J1.yld j' H x H' → gName j x (wipe σ2 [j]) H' fun σ3 H5 => wipe σ3 [j] = wipe σ2 [j] ∧ tYes σ3 H5 fun b H6 =>
            if b = true then te σ3 H6 fun y H7 => ∃ acc, H7 D = some (.lst acc) ∧ acc.length < sizeLine ∧ Nx1 (upd H7 D (.lst (acc ++ [y]))) else Nx1 H6)
        else Nx H3) := by
  let row : V → List V := fun a => xs.map fun b => .bl (p a b)
  have lenRow : ∀ l : List V, (l.flatMap row).length = l.length * xs.length := by
    intro l
    induction l with
    | nil => simp
    | cons a r ih =>
      rw [List.flatMap_cons, List.length_append, ih, List.length_cons, Nat.succ_mul, Nat.add_comm]
      simp [row]
  refine ⟨fun a m H' => m = xs.length - a ∧ a ≤ xs.length ∧ Same H H' ∧ H' D = some (.lst ((xs.take a).flatMap row)), ⟨xs.length, by simp, Nat.zero_le _, same_upd nD, by rw [upd_same]; rfl⟩, ?_⟩
  rintro a m H2 ⟨rfl, ha, s, d⟩
  by_cases hlt : a < xs.length
  · refine .inr ⟨w.goes a H2 hlt s, fun H' => a + 1 ≤ xs.length ∧ Same H H' ∧ H' D = some (.lst ((xs.take (a + 1)).flatMap row)), fun H' q => ⟨xs.length - (a + 1), by omega, rfl, q.1, q.2⟩, fun x H3 y => ?_⟩
    obtain ⟨rfl, hg⟩ := w.yields a H2 x H3 hlt s y
    have hx := List.mem_of_getElem? hg
    refine ⟨?_, ?_⟩
    · exact wipe2 ij
    · dsimp only [tYes]
      rw [if_pos rfl]
      refine hi x H3 _ hx s ⟨fun b k H' => k = xs.length - b ∧ b ≤ xs.length ∧ Same H H' ∧ H' D = some (.lst ((xs.take a).flatMap row ++ (xs.take b).map fun c => .bl (p x c))), ⟨xs.length, by simp, Nat.zero_le _, s, by rw [d]; simp⟩, ?_⟩
      rintro b k H4 ⟨rfl, hb, s4, d4⟩
      by_cases hlb : b < xs.length
      · refine .inr ⟨w1.goes b H4 hlb s4, fun H' => b + 1 ≤ xs.length ∧ Same H H' ∧ H' D = some (.lst ((xs.take a).flatMap row ++ (xs.take (b + 1)).map fun c => .bl (p x c))), fun H' q => ⟨xs.length - (b + 1), by omega, rfl, q.1, q.2⟩, fun z H5 y5 => ?_⟩
        obtain ⟨rfl, hg5⟩ := w1.yields b H4 z H5 hlb s4 y5
        refine ⟨wipe_set _ _ _, ?_⟩
        dsimp only [tYes]
        rw [if_pos rfl]
        refine he x hx z (List.mem_of_getElem? hg5) H5 _ s4 fun H6 s6 => ?_
        refine ⟨_, s6 _ _ d4, ?_, hlb, (s4.trans s6).mut nD, ?_⟩
        · rw [List.length_append, lenRow, List.length_map, List.length_take, List.length_take]
          have h1 : min a xs.length ≤ 300 := Nat.le_trans (Nat.min_le_right _ _) hz
          have h2 : min b xs.length ≤ 300 := Nat.le_trans (Nat.min_le_right _ _) hz
          have h3 : min a xs.length * xs.length ≤ 300 * 300 := Nat.mul_le_mul h1 hz
          have : sizeLine = 16777216 := by decide
          omega
        · rw [upd_same, List.append_assoc, take_map_succ (f := fun c => V.bl (p x c)) hg5]
      · have e : b = xs.length := by omega
        subst e
        refine .inl ⟨w1.stops H4 s4, hlt, s4, ?_⟩
        rw [d4, List.take_add_one, hg, List.take_length, List.flatMap_append]
        simp [row]
  · have e : a = xs.length := by omega
    subst e
    rw [List.take_length] at d
    refine .inl ⟨w.stops H2 s, hq H2 s ?_⟩
    rw [d, List.map_flatMap]
    simp [row, Function.comp_def]
end
section
variable {X : Cx} {K : PySem.W.Frag}
theorem piL (h : X.K = K) {tg l : Expr} {tl : TE} (hl : PE X l tl) : PI X tg l (iList K tl) := by
  subst h
  exact pi_list hl
theorem piT (h : X.K = K) {tg l : Expr} {tl : TE} (hl : PE X l tl) : PI X tg l (iTup K tl) := by
  subst h
  exact pi_tup hl
theorem peF (h : X.K = K) {e : Expr} {f : Str} {ta : TE} {pos : Pos} (he : PE X e ta) (hb : attributeBase e f X.env (eval e X.env) = eval e X.env := by rfl) : PE X (.Attribute e f pos) (tFld K ta f) := by
  subst h
  exact pe_fld he hb
theorem pgT (h : X.K = K) {es : List Expr} {k : Nat} {t : TGs} {n : Nat} {pos : Pos} (hc : X.calm = true) (hg : PGs X es t)
    (hn : (assignEach es X.env).length = n := by rfl) (hst : (assignEach es X.env).findIdx? (·.1) = none := by rfl) : PG X (.Tuple es k pos) (gTup K n t) := by
  subst h
  exact pg_tup hc hg hn hst
theorem ixT (h : X.K = K) : IxR X (rIxT K) := by
  subst h
  exact ix_tup
/-- tuple(xs) -/
def rTupOf (K : PySem.W.Frag) : List V → Hp → VK → Prop := fun xs H Q => ∃ p ys, xs = [.ref p] ∧ ((SqL K H p ys ∧ ∀ l, H l = none → Q (.ref l) (upd H l (.tup ys))) ∨ (SqT K H p ys ∧ Q (.ref p) H))
theorem callTup (h : X.K = K) : CallR X (.type "tuple") (rTupOf K) := by
  subst h
  exact call_tuple_of
/-- a list or a tuple in slot i, walked -/
theorem src {H : Hp} {i : Nat} {a : Addr} {vs : List V} (h : SqL K H a vs ∨ SqT K H a vs) : ∃ (wi : TI) (J : It), (∀ (X : Cx) (tg l : Expr), X.K = K → PE X l (tVar i) → PI X tg l wi) ∧
    (∀ (σ : L2.St) (H2 : Hp) (R : It → Hp → Prop), Same H H2 → σ[i]? = some (some (.ref a)) → R J H2 → wi σ H2 R) ∧ ∀ H2, Same H H2 → Walk J vs.length (fun H' => Same H2 H') (YAt vs) := by
  rcases h with h | h
  · exact ⟨iList K (tVar i), Itl K a, fun X tg l e p => piL e p, fun σ H2 R s e r => ⟨_, e, a, rfl, ⟨_, s.seq h⟩, r⟩, fun H2 s => same_walkL (s.seq h)⟩
  · exact ⟨iTup K (tVar i), Itt K a, fun X tg l e p => piT e p, fun σ H2 R s e r => ⟨_, e, a, rfl, ⟨_, s.seqT h⟩, r⟩, fun H2 s => same_walkT (s.seqT h)⟩
/-- a comprehension over a walk -/
theorem lcR {α : Type} {H : Hp} {σ : L2.St} {Q : VK} {wi : TI} {J : It} {xs : List V} {as : List α} {g : TG} {tt : TT} {te : TE} {vs : List Nat} {R : Hp → α → V → Prop} {p : α → Bool} (hwi : ∀ R : It → Hp → Prop, R J H → wi σ H R)
    (w : Walk J xs.length (fun H' => Same H H') (YAt xs)) (hal : xs.length = as.length) (hz : xs.length ≤ 100000) (hR : ∀ {H1 H2 : Hp} {c : α} {y : V}, SameT H1 H2 → R H1 c y → R H2 c y)
    (he : ∀ (i : Nat) (c : V) (a : α), xs[i]? = some c → as[i]? = some a → ∀ (H2 : Hp) (Rk : VK) (Rn : Hp → Prop), Same H H2 → (∀ y H3, p a = true → Same H2 H3 → R H3 a y → Rk y H3) → (∀ H3, p a = false → Same H2 H3 → Rn H3) →
      g c (wipe σ vs) H2 fun σ2 H3 => wipe σ2 vs = wipe σ vs ∧ tt σ2 H3 fun b H4 => if b = true then te σ2 H4 Rk else Rn H4)
    (hq : ∀ D H' ys, Same H H' → H D = none → H' D = some (.lst ys) → Paired (R H') (as.filter p) ys → Q (.ref D) H') : tLc wi g tt te vs σ H Q :=
  hwi _ fun D nD => lc_rel (R := R) (p := p) (Qd := fun H1 => Q (.ref D) H1) nD w hal hz hR he fun H' ys s d pr => hq D H' ys s nD d pr
theorem dcR {α : Type} {H : Hp} {σ : L2.St} {Q : VK} {wi : TI} {J : It} {xs : List V} {as : List α} {g : TG} {tt : TT} {tk tv : TE} {vs : List Nat} {R : Hp → α → Key × V → Prop} {p : α → Bool} (hwi : ∀ R : It → Hp → Prop, R J H → wi σ H R)
    (w : Walk J xs.length (fun H' => Same H H') (YAt xs)) (hal : xs.length = as.length) (hz : xs.length ≤ 100000)
    (hR : ∀ {H1 H2 : Hp} {c : α} {y : Key × V}, SameT H1 H2 → R H1 c y → R H2 c y) (ky : α → Key) (hky : ∀ {H1 : Hp} {c : α} {y : Key × V}, R H1 c y → y.1 = ky c) (hnd : ((as.filter p).map ky).Nodup)
    (he : ∀ (i : Nat) (c : V) (a : α), xs[i]? = some c → as[i]? = some a → ∀ (H2 : Hp) (Rk : V → V → Hp → Prop) (Rn : Hp → Prop), Same H H2 → (∀ y H3, p a = true → Same H2 H3 → R H3 a y → Rk (kV y.1) y.2 H3) → (∀ H3, p a = false → Same H2 H3 → Rn H3) →
      g c (wipe σ vs) H2 fun σ2 H3 => wipe σ2 vs = wipe σ vs ∧ tt σ2 H3 fun b H4 => if b = true then tk σ2 H4 fun y H5 => tv σ2 H5 fun z H6 => Rk y z H6 else Rn H4)
    (hq : ∀ D H' ys, Same H H' → H D = none → H' D = some (.dK ys) → Paired (R H') (as.filter p) ys → Q (.ref D) H') : tDc wi g tt tk tv vs σ H Q :=
  hwi _ fun D nD => dc_rel (R := R) (p := p) (Qd := fun H1 => Q (.ref D) H1) nD w hal hz hR ky hky hnd he fun H' ys s d pr => hq D H' ys s nD d pr
theorem filterY {α : Type} {xs : List α} : xs.filter (fun _ => true) = xs := by simp
theorem paired_map {α β : Type} {f : α → β} : ∀ {l : List α} {m : List β}, Paired (fun a b => b = f a) l m → m = l.map f
  | _, _, .nil => rfl
  | _, _, .cons h t => by rw [h, paired_map t]; rfl
/-- ... each element a value of its own -/
theorem lcF {α : Type} {H : Hp} {σ : L2.St} {Q : VK} {wi : TI} {J : It} {xs : List V} {as : List α} {g : TG} {te : TE} {vs : List Nat} {f : α → V} (hwi : ∀ R : It → Hp → Prop, R J H → wi σ H R)
    (w : Walk J xs.length (fun H' => Same H H') (YAt xs)) (hal : xs.length = as.length) (hz : xs.length ≤ 100000)
    (he : ∀ (i : Nat) (c : V) (a : α), xs[i]? = some c → as[i]? = some a → ∀ (H2 : Hp) (Rk : VK), Same H H2 → (∀ H3, Same H2 H3 → Rk (f a) H3) → g c (wipe σ vs) H2 fun σ2 H3 => wipe σ2 vs = wipe σ vs ∧ te σ2 H3 Rk)
    (hq : ∀ D H', Same H H' → H D = none → H' D = some (.lst (as.map f)) → Q (.ref D) H') : tLc wi g tYes te vs σ H Q := by
  refine lcR (R := fun _ a y => y = f a) (p := fun _ => true) hwi w hal hz (fun _ h => h) (fun i c a hc ha H2 Rk Rn s k _ => ?_) fun D H' ys s nD d pr => ?_
  · have := he i c a hc ha H2 Rk s fun H3 s3 => k _ H3 rfl s3 rfl
    exact this
  · rw [filterY] at pr
    rw [paired_map pr] at d
    exact hq D H' s nD d
theorem lcF1 {α : Type} {H : Hp} {σ : L2.St} {J : It} {xs : List V} {as : List α} {g : TG} {te : TE} {vs : List Nat} {f : α → V} {Qd : Hp → Prop} {D : Addr} (nD : H D = none)
    (w : Walk J xs.length (fun H' => Same H H') (YAt xs)) (hal : xs.length = as.length) (hz : xs.length ≤ 100000)
    (he : ∀ (i : Nat) (c : V) (a : α), xs[i]? = some c → as[i]? = some a → ∀ (H2 : Hp) (Rk : VK), Same H H2 → (∀ H3, Same H2 H3 → Rk (f a) H3) → g c (wipe σ vs) H2 fun σ2 H3 => wipe σ2 vs = wipe σ vs ∧ te σ2 H3 Rk)
    (hq : ∀ H', Same H H' → H' D = some (.lst (as.map f)) → Qd H') :
    ∃ W : Nat → Nat → Hp → Prop, (∃ m, W 0 m (upd H D (.lst []))) ∧ ∀ i' m H', W i' m H' →
      (J.stop i' H' ∧ Qd H') ∨ (J.go i' H' ∧ ∃ Nx : Hp → Prop, (∀ H', Nx H' → ∃ m', m' < m ∧ W (i' + 1) m' H') ∧ ∀ x H2, J.yld i' H' x H2 → g x (wipe σ vs) H2 fun σ2 H2 => wipe σ2 vs = wipe σ vs ∧ tYes σ2 H2 fun b H3 =>
        if b = true then te σ2 H3 fun y H4 => ∃ acc, H4 D = some (.lst acc) ∧ acc.length < sizeLine ∧ Nx (upd H4 D (.lst (acc ++ [y]))) else Nx H3) := by
  refine lc_rel (R := fun _ a y => y = f a) (p := fun _ => true) nD w hal hz (fun _ h => h) (fun i c a hc ha H2 Rk Rn s k _ => ?_) fun H' ys s d pr => ?_
  · exact he i c a hc ha H2 Rk s fun H3 s3 => k _ H3 rfl s3 rfl
  · rw [filterY] at pr
    rw [paired_map pr] at d
    exact hq H' s d
/-- for path, lines in rows: the target of a row -/
theorem g_row {H : Hp} {σ : L2.St} {i j : Nat} {c : V} {f : File} {Q : L2.St → Hp → Prop} (h : RowAt K H c f) (hq : ∀ w, LinesAt K H w f.2 → Q ((σ.set i (some (.str f.1))).set j (some w)) H) :
    gTup K 2 (gCons (gName i) (gCons (gName j) gNil)) c σ H Q := by
  obtain ⟨t, w, rfl, ht, hl⟩ := h
  exact ⟨t, _, rfl, ht, rfl, _, _, rfl, _, _, rfl, rfl, hq w hl⟩
/-- the keys of a locked dict, walked -/
theorem same_walkK {H : Hp} {d : Addr} {o : Obj} {kvs : List (Key × V)} (h : H d = some (.frz o (.dK kvs))) : Walk (Itk d o kvs) (kvs.map fun kv => kV kv.1).length (fun H' => Same H H') (YAt (kvs.map fun kv => kV kv.1)) := by
  rw [List.length_map]
  refine walk_keys.mono (fun _ s => s _ _ h) fun i H1 x H2 _ _ y => ?_
  obtain ⟨e, k, v, e1, e2⟩ := y
  exact ⟨e, by rw [List.getElem?_map, e1, e2]; rfl⟩
theorem unlock {H H' : Hp} {d : Addr} {u : HO} {od : Obj} (s : Same (upd H d (.frz od u)) H') (h : H d = some u) : Same H (upd H' d u) := fun b o e => by
  by_cases hb : b = d
  · rw [hb, upd_same, ← h, ← hb, e]
  · rw [upd_ne hb]
    exact s b o (by rw [upd_ne hb]; exact e)
theorem same_at {H H' : Hp} (s : Same H H') {b : Addr} (n : H' b = none) : H b = none := by
  cases e : H b with
  | none => rfl
  | some o => rw [s _ _ e] at n; cases n
theorem passF {X : Cx} : Passes (L2.CX X.prog X.w) X (fun _ _ _ => False) := fun _ _ _ _ _ _ _ h => by
  obtain ⟨_, _, _, _, _, _, _, _, _, _, _, _, z⟩ := h
  exact z.elim
end
end Ga

set_option maxRecDepth 100000
set_option maxHeartbeats 4000000
/-! Go: files in the order of their paths. -/
namespace Ga
open PySem PySem.Spec PyProof.Rows L2 TL
/-- x is not behind y -/
def leS (x y : Str) : Prop := ltCps y.cps.toList x.cps.toList = false
instance (x y : Str) : Decidable (leS x y) := inferInstanceAs (Decidable (_ = _))
theorem leS_iff {x y : Str} : leS x y ↔ tl x ≤ tl y := by
  unfold leS
  rw [ltCps_eq, decide_eq_false_iff_not]
  exact Iff.rfl
theorem leS_total (x y : Str) : leS x y ∨ leS y x := by
  rw [leS_iff, leS_iff]
  exact List.le_total _ _
theorem leS_trans {x y z : Str} (a : leS x y) (b : leS y z) : leS x z := by
  rw [leS_iff] at *
  exact List.le_trans a b
theorem leS_anti {x y : Str} (a : leS x y) (b : leS y x) : x = y := by
  rw [leS_iff] at *
  have e : tl x = tl y := List.le_antisymm a b
  cases x with
  | mk x =>
    cases y with
    | mk y =>
      have e2 : x.toList = y.toList := e
      rw [Array.toList_inj.mp e2]
theorem leS_refl (x : Str) : leS x x := (leS_total x x).elim id id
theorem perm_eq {α : Type} {r : α → α → Prop} (anti : ∀ a b, r a b → r b a → a = b) : ∀ {l m : List α}, l.Perm m → l.Pairwise r → m.Pairwise r → l = m
  | [], m, p, _, _ => p.nil_eq
  | a :: l, [], p, _, _ => p.symm.nil_eq.symm
  | a :: l, b :: m, p, h1, h2 => by
    have c1 := List.pairwise_cons.mp h1
    have c2 := List.pairwise_cons.mp h2
    have e : a = b := by
      have m1 : a ∈ b :: m := p.mem_iff.mp List.mem_cons_self
      have m2 : b ∈ a :: l := p.mem_iff.mpr List.mem_cons_self
      rcases List.mem_cons.mp m1 with e | m1
      · exact e
      · rcases List.mem_cons.mp m2 with e | m2
        · exact e.symm
        · exact anti _ _ (c1.1 _ m2) (c2.1 _ m1)
    subst e
    rw [perm_eq anti (List.Perm.cons_inv p) c1.2 c2.2]
theorem rising_pw : ∀ (p : Str) (l : List Str), risingS p l = true → (p :: l).Pairwise leS
  | p, [], _ => List.pairwise_singleton _ _
  | p, x :: r, h => by
    obtain ⟨h1, h2⟩ := Bool.and_eq_true_iff.mp h
    have ih := rising_pw x r h2
    have px : leS p x := by
      unfold leS
      cases e : ltCps x.cps.toList p.cps.toList with
      | false => rfl
      | true => rw [e] at h1; cases h1
    refine List.pairwise_cons.mpr ⟨fun y hy => ?_, ih⟩
    rcases List.mem_cons.mp hy with rfl | hy
    · exact px
    · exact leS_trans px ((List.pairwise_cons.mp ih).1 y hy)
theorem sorted_pw : ∀ {l : List Str}, sortedS l = true → l.Pairwise leS
  | [], _ => List.Pairwise.nil
  | x :: r, h => rising_pw x r h
/-- put in its place -/
def insF (f : File) : List File → List File
  | [] => [f]
  | g :: r => if leS f.1 g.1 then f :: g :: r else g :: insF f r
def srtF : List File → List File
  | [] => []
  | f :: r => insF f (srtF r)
theorem insF_perm (f : File) : ∀ l : List File, (insF f l).Perm (f :: l)
  | [] => List.Perm.refl _
  | g :: r => by
    unfold insF
    split
    · exact List.Perm.refl _
    · exact ((insF_perm f r).cons g).trans (List.Perm.swap f g r)
theorem srtF_perm : ∀ l : List File, (srtF l).Perm l
  | [] => List.Perm.refl _
  | f :: r => (insF_perm f (srtF r)).trans ((srtF_perm r).cons f)
abbrev leF (f g : File) : Prop := leS f.1 g.1
theorem insF_pw (f : File) : ∀ {l : List File}, l.Pairwise leF → (insF f l).Pairwise leF
  | [], _ => List.pairwise_singleton _ _
  | g :: r, h => by
    have c := List.pairwise_cons.mp h
    unfold insF
    split
    · rename_i e
      refine List.pairwise_cons.mpr ⟨fun y hy => ?_, h⟩
      rcases List.mem_cons.mp hy with rfl | hy
      · exact e
      · exact leS_trans e (c.1 y hy)
    · rename_i e
      refine List.pairwise_cons.mpr ⟨fun y hy => ?_, insF_pw f c.2⟩
      rcases List.mem_cons.mp ((insF_perm f r).mem_iff.mp hy) with rfl | hy
      · exact (leS_total _ _).resolve_left e
      · exact c.1 y hy
theorem srtF_pw : ∀ l : List File, (srtF l).Pairwise leF
  | [] => List.Pairwise.nil
  | f :: r => insF_pw f (srtF_pw r)
theorem srtF_len (l : List File) : (srtF l).length = l.length := (srtF_perm l).length_eq
/-- the one way to sort them -/
theorem sorted_is {ys : List Str} {fs : List File} (p : ys.Perm (fs.map (·.1))) (h : sortedS ys = true) : ys = (srtF fs).map (·.1) :=
  perm_eq (fun _ _ => leS_anti) (p.trans ((srtF_perm fs).symm.map _)) (sorted_pw h) (List.pairwise_map.mpr (srtF_pw fs))
theorem file_eq : ∀ {l : List File}, (l.map (·.1)).Nodup → ∀ {f g : File}, f ∈ l → g ∈ l → f.1 = g.1 → f = g := by
  intro l
  induction l with
  | nil => intro _ f g h; cases h
  | cons a l ih =>
    intro nd f g hf hg e
    have nd2 := List.nodup_cons.mp nd
    rcases List.mem_cons.mp hf with rfl | hf1
    · rcases List.mem_cons.mp hg with rfl | hg1
      · rfl
      · exact (nd2.1 (List.mem_map.mpr ⟨g, hg1, e.symm⟩)).elim
    · rcases List.mem_cons.mp hg with rfl | hg1
      · exact (nd2.1 (List.mem_map.mpr ⟨f, hf1, e⟩)).elim
      · exact ih nd2.2 hf1 hg1 e
/-- files of different paths are sorted in one way only -/
theorem sortedF_is {gs fs : List File} (p : gs.Perm fs) (nd : (fs.map (·.1)).Nodup) (h : gs.Pairwise leF) : gs = srtF fs := by
  have eqp : gs.map (·.1) = (srtF fs).map (·.1) := perm_eq (fun _ _ => leS_anti) ((p.trans (srtF_perm fs).symm).map _) (List.pairwise_map.mpr h) (List.pairwise_map.mpr (srtF_pw fs))
  have key : ∀ {f g : File}, f ∈ fs → g ∈ fs → f.1 = g.1 → f = g := fun hf hg e => file_eq nd hf hg e
  have : ∀ {l m : List File}, (∀ f ∈ l, f ∈ fs) → (∀ f ∈ m, f ∈ fs) → l.map (·.1) = m.map (·.1) → l = m := by
    intro l
    induction l with
    | nil => intro m _ _ e; cases m with | nil => rfl | cons _ _ => cases e
    | cons a l ih =>
      intro m h1 h2 e
      cases m with
      | nil => cases e
      | cons b m =>
        have e1 := List.cons.inj e
        rw [key (h1 a List.mem_cons_self) (h2 b List.mem_cons_self) e1.1, ih (fun f hf => h1 f (List.mem_cons_of_mem _ hf)) (fun f hf => h2 f (List.mem_cons_of_mem _ hf)) e1.2]
  exact this (fun f hf => p.mem_iff.mp hf) (fun f hf => (srtF_perm fs).mem_iff.mp hf) eqp
end Ga

set_option maxRecDepth 100000
set_option maxHeartbeats 4000000
/-! Gw: rows sorted: no two have the same path. -/
namespace Ga
open PySem PySem.Spec PyProof.Rows L2 TL SrtO Srt
/-- a tuple whose first item is this text -/
def RowO (h : Heap) (v : Value) (x : Str) : Prop := ∃ a o t u n, v = .ref a ∧ h.get? a = some o ∧ o.cls = .type "tuple" ∧ o.data = .seq #[.str x t, u] n
theorem RowO.keeps {h h' : Heap} {v : Value} {x : Str} (p : RowO h v x) (k : ∀ b o, h.get? b = some o → o.cls = .type "tuple" → h'.get? b = some o) : RowO h' v x := by
  obtain ⟨a, o, t, u, n, e, ho, hc, hd⟩ := p
  exact ⟨a, o, t, u, n, e, k _ _ ho hc, hc, hd⟩
abbrev ltS (x y : Str) : Bool := decide (x.cps.toList < y.cps.toList)
theorem ltS_no {x y : Str} : ltS x y = false ↔ leS y x := by
  unfold leS
  rw [ltCps_eq]
theorem swo_rows (k : Value → Str) : Swo fun v u => ltS (k v) (k u) := by
  refine ⟨fun x y h => ?_, fun x y z h1 h2 => ?_⟩
  · rw [ltS_no]
    refine (leS_total _ _).resolve_right fun z => ?_
    rw [← ltS_no, h] at z
    cases z
  · rw [ltS_no] at *
    exact leS_trans h1 h2
section
variable {prog : Program} {w : World} {A : Around} {E : Value → Shared → Prop} {s : Shared}
theorem row_cmp {vs : List Value} {k : Value → Str} (hp : ∀ v ∈ vs, RowO s.heap v (k v)) (inj : ∀ v ∈ vs, ∀ u ∈ vs, k v = k u → v = u) : Cmp prog w A s (tuples' true) (fun p => p.1 ∈ vs) (lt2 fun v u => ltS (k v) (k u)) := by
  intro p q hm hm'
  have h1 := hp _ hm
  have h2 := hp _ hm'
  have ij := inj _ hm _ hm'
  show wpAny (model prog w) A (keyLt' (tuples' true) p.1 q.1) (fun r s' => s' = s ∧ r = ltS (k p.1) (k q.1)) (fun _ _ => False) s
  generalize k p.1 = x at h1 ij ⊢
  generalize k q.1 = y at h2 ij ⊢
  obtain ⟨a, o, t, u, n, e, ho, hc, hd⟩ := h1
  obtain ⟨a', o', t', u', n', e', ho', hc', hd'⟩ := h2
  rw [e, e'] at ij ⊢
  refine PySem.W.kat_lt ho hd ho' hd' ?_
  show PySem.W.KatLex prog w A true (decide (2 < 2)) _ [(.str x t, .str y t'), (u, u')] 0 s
  refine PySem.W.kat_cons (SeqAt.EqAt.str_str x t y t' prog w _ _ ?_)
  refine PySem.W.kat_go (fun e1 => ?_) (fun e1 => ?_)
  · have ex : x = y := by simpa using e1
    have ea := Value.ref.inj (ij ex)
    subst ea
    rw [ho] at ho'
    cases ho'
    rw [hd] at hd'
    have eu : u = u' := by
      have z := Data.seq.inj hd'
      have z2 := congrArg Array.toList z.1
      exact (List.cons.inj (List.cons.inj z2).2).1
    subst eu
    refine PySem.W.kat_yes (PySem.W.kat_cons (SeqAt.EqAt.same u prog w _ _ ?_))
    refine PySem.W.kat_go (fun _ => PySem.W.kat_yes (PySem.W.kat_nil ⟨rfl, ?_⟩)) fun z => nomatch z
    rw [ex]
    exact (ltS_no.mpr (leS_refl y)).symm
  · exact PySem.W.kat_no (oneLt_str ⟨rfl, rfl⟩)
theorem firstsR {h : Heap} : ∀ {vs : List Value}, (∀ v ∈ vs, ∃ x, RowO h v x) → ∃ fs : List Value, PySem.W.KatTups h vs fs ∧ fs.length = vs.length ∧ ∀ f ∈ fs, ∃ x t, f = Value.str x t
  | [], _ => ⟨[], PySem.W.KatTups.nil, rfl, fun _ hm => by cases hm⟩
  | v :: vs, hp => by
    obtain ⟨fs, h1, h2, h3⟩ := firstsR (vs := vs) fun v' hm => hp v' (List.mem_cons_of_mem _ hm)
    obtain ⟨x, a, o, t, u, n, e, ho, hc, hd⟩ := hp v List.mem_cons_self
    subst e
    refine ⟨.str x t :: fs, PySem.W.KatTups.cons ho hc hd rfl h1, congrArg Nat.succ h2, fun f hm => ?_⟩
    rcases List.mem_cons.mp hm with rfl | hm
    · exact ⟨x, t, rfl⟩
    · exact h3 f hm
theorem rows_sortable {a : Addr} {vs : List Value} {k : Value → Str} (h0 : 0 < vs.length) (hp : ∀ v ∈ vs, RowO s.heap v (k v)) (inj : ∀ v ∈ vs, ∀ u ∈ vs, k v = k u → v = u) (ha : ∀ o, s.heap.get? a = some o → o.cls ≠ .type "tuple") :
    SortableO prog w A s a vs fun v u => ltS (k v) (k u) := by
  intro h' keep
  have hp' : ∀ v ∈ vs, RowO h' v (k v) := fun v hm => (hp v hm).keeps fun b o e c => keep b o (fun z => ha o (z ▸ e) c) e
  obtain ⟨fs, h1, h2, h3⟩ := firstsR fun v hm => ⟨_, hp' v hm⟩
  refine ⟨tuples' true, fun Q E hq => ?_, row_cmp hp' inj⟩
  refine PySem.W.kat_kind (T := .type "str") h1 (by omega) (fun f hm => ?_) (by rfl) ?_
  · obtain ⟨x, t, rfl⟩ := h3 f hm
    exact PySem.W.Looks.now
  · have e : (Value.type "str" != Value.type "tuple") = true := by first | decide +kernel | rfl | decide
    rw [e]
    exact hq
/-- sorted of a tuple: its items are put into a list first -/
theorem collectT {l : Addr} {vs : List Value} {Q : List Value → Shared → Prop} (hl : s.heap.IsTuple l vs.toArray) (hz : vs.length ≤ sizeLine)
    (h : Q vs { s with heap := (s.heap.push (seqObj "list" #[] 0)).update s.heap.objs.size (Obj.mapSeq (· ++ vs.toArray)) }) : wpAny (model prog w) A (collect (.ref l)) Q E s := by
  obtain ⟨o, ho, hc, n, hd⟩ := hl
  have ho' : (s.heap.push (seqObj "list" #[] 0)).get? l = some o := Heap.get?_push_of_some _ ho
  have hN : (s.heap.push (seqObj "list" #[] 0)).get? s.heap.objs.size = some (seqObj "list" #[] 0) := Heap.get?_push_size _ rfl
  unfold collect
  refine wpAny_bind (wpAny_runValue (codeAny_builtin entry_proto_collect' ?_))
  refine wpAny_bind (wpAny_newList (wpAny_pure ⟨Code.quiet_builtin _ (by decide +kernel), codeAny_builtin entry_list_iadd' ?_⟩))
  show wpAny _ _ (Builtin.List.listExtendWith (.ref s.heap.objs.size) (.ref l) (.ref s.heap.objs.size)) _ _ { s with heap := s.heap.push (seqObj "list" #[] 0) }
  unfold Builtin.List.listExtendWith
  refine wpAny_bind (wpAny_typeOf (T := "tuple") ⟨o, ho', hc⟩ ?_)
  rw [if_pos (by rw [Bool.or_eq_true]; exact .inr rfl)]
  refine wpAny_bind (listItems_at ho' hd (wpAny_bind (listItems_at (xs := #[]) (n := 0) hN rfl ?_)))
  rw [if_neg (by simp)]
  refine wpAny_bind (listUpdate_at (xs := #[]) (n := 0) hN rfl ?_ (Nat.zero_le _) (by show (#[] ++ vs.toArray).size ≤ sizeLine + 1; simp only [Array.size_append, List.size_toArray, List.length_nil]; omega))
  refine wpAny_pure ?_
  refine wpAny_bind (wpAny_load (get?_update_seq hN _) ?_)
  show wpAny _ _ (pure ((#[] : Array Value) ++ vs.toArray).toList) Q E _
  rw [show ((#[] : Array Value) ++ vs.toArray).toList = vs by simp]
  exact wpAny_pure h
theorem sortedT_ord {l : Addr} {vs : List Value} {ltv : Value → Value → Bool} {Q : Value → Shared → Prop} (O : Swo ltv) (hl : s.heap.IsTuple l vs.toArray) (hz : vs.length ≤ sizeLine)
    (hS : 2 ≤ vs.length → ∀ (h₁ : Heap) (a : Addr), h₁.get? a = some (seqObj "list" vs.toArray 0) → (∀ b o, s.heap.get? b = some o → b ≠ a ∧ h₁.get? b = some o) → SortableO prog w A.in1.in1 { s with heap := h₁ } a vs ltv)
    (h : ∀ out : List Value, Srtd ltv out → Stb ltv out vs → Q (.ref (s.heap.objs.size + 1)) { s with heap := sortedAll s.heap vs out.toArray }) :
    wpAny (model prog w) A (call (.builtin "sorted") [.ref l]) Q E s := by
  refine Calls.call_function_entry kind_sorted plain_sorted entry_sorted (args_sorted1 _) ?_
  unfold Builtin.«sorted»
  refine wpAny_bind (m := checkCount "sorted" 1 1 _) (wpAny_pure ?_)
  refine wpAny_bind (collectT hl hz ?_)
  refine wpAny_bind (wpAny_newList ?_ hz)
  let g : Heap := (s.heap.push (seqObj "list" #[] 0)).update s.heap.objs.size (Obj.mapSeq (· ++ vs.toArray))
  have hsz : g.objs.size = s.heap.objs.size + 1 := by show (Heap.update _ _ _).objs.size = _; rw [Heap.size_update, size_push']
  have hoL : (g.push (seqObj "list" vs.toArray 0)).get? (s.heap.objs.size + 1) = some (seqObj "list" vs.toArray 0) := by
    rw [← hsz]
    exact Heap.get?_push_size _ rfl
  have kk : ∀ b o, s.heap.get? b = some o → b ≠ s.heap.objs.size + 1 ∧ (g.push (seqObj "list" vs.toArray 0)).get? b = some o := fun b o q => by
    have lt := Heap.lt_size q
    refine ⟨Nat.ne_of_lt (Nat.lt_succ_of_lt lt), Heap.get?_push_of_some _ ((Heap.get?_update_ne _ _ _ _ (Nat.ne_of_lt lt)).trans (Heap.get?_push_of_some _ q))⟩
  show wpAny _ _ _ _ _ { s with heap := g.push (seqObj "list" vs.toArray 0) }
  rw [show ((s.heap.push (seqObj "list" #[] 0)).update s.heap.objs.size (Obj.mapSeq (· ++ vs.toArray))).objs.size = s.heap.objs.size + 1 from hsz]
  refine wpAny_bind (wpAny_holding (wpAny_call_entry slot_list_sort ⟨_, hoL, rfl⟩ entry_list_sort (list_sort_ord O hoL hz (fun h2 => hS h2 _ _ hoL kk) fun out hs hb => ⟨_, rfl, ?_⟩) (args_list_sort _)))
  exact wpAny_pure ⟨_, rfl, h out hs hb⟩
end
/-! ### the rows themselves -/
theorem perm_paired {α β : Type} {R : α → β → Prop} : ∀ {l l' : List α}, l'.Perm l → ∀ {m : List β}, Paired R l m → ∃ m', m'.Perm m ∧ Paired R l' m' := by
  intro l l' p
  induction p with
  | nil => intro m h; cases h; exact ⟨[], List.Perm.refl _, .nil⟩
  | cons x p ih =>
    intro m h
    cases h with
    | cons a t =>
      obtain ⟨m', p1, p2⟩ := ih t
      exact ⟨_ :: m', p1.cons _, .cons a p2⟩
  | swap x y l =>
    intro m h
    cases h with
    | cons a t =>
      cases t with
      | cons b u => exact ⟨_ :: _ :: _, List.Perm.swap _ _ _, .cons b (.cons a u)⟩
  | trans p1 p2 ih1 ih2 =>
    intro m h
    obtain ⟨m1, q1, r1⟩ := ih2 h
    obtain ⟨m2, q2, r2⟩ := ih1 r1
    exact ⟨m2, q2.trans q1, r2⟩
theorem pw_paired {α β : Type} {R : α → β → Prop} {r : α → α → Prop} {q : β → β → Prop} (h : ∀ a b c d, R a c → R b d → r a b → q c d) : ∀ {l : List α} {m : List β}, Paired R l m → l.Pairwise r → m.Pairwise q
  | _, _, .nil, _ => List.Pairwise.nil
  | _, _, .cons (a := a) a0 t, p => by
    obtain ⟨p1, p2⟩ := List.pairwise_cons.mp p
    refine List.pairwise_cons.mpr ⟨fun d hd => ?_, pw_paired (q := q) h t p2⟩
    obtain ⟨b, hb, e⟩ : ∃ b ∈ _, R b d := by
      obtain ⟨i, hi⟩ := List.getElem?_of_mem hd
      obtain ⟨b, hb, f⟩ := paired_get2 t i d hi
      exact ⟨b, List.mem_of_getElem? hb, f⟩
    exact h _ _ _ _ a0 e (p1 b hb)
open Classical in
/-- the first item, where there is one -/
noncomputable def pathOf (h : Heap) (v : Value) : Str := if e : ∃ x, RowO h v x then e.choose else ""
theorem RowO.inj {h : Heap} {v : Value} {x y : Str} (a : RowO h v x) (b : RowO h v y) : x = y := by
  obtain ⟨p, o, t, u, n, e, ho, _, hd⟩ := a
  obtain ⟨p', o', t', u', n', e', ho', _, hd'⟩ := b
  rw [e] at e'
  cases e'
  rw [ho] at ho'
  cases ho'
  rw [hd] at hd'
  have z := congrArg Array.toList (Data.seq.inj hd').1
  have z2 := (List.cons.inj z).1
  cases z2
  rfl
theorem pathOf_is {h : Heap} {v : Value} {x : Str} (a : RowO h v x) : pathOf h v = x := by
  unfold pathOf
  have e : ∃ x, RowO h v x := ⟨x, a⟩
  rw [dif_pos e]
  exact e.choose_spec.inj a
theorem row_obj {X : Cx} {pins : List (Addr × Obj)} {σ : L2.St} {H : Hp} {s : Shared} (I : Inv X pins σ H s) {v : V} {u : Value} {f : File} (h : RowAt X.K H v f) (r : RelV v u) : RowO s.heap u f.1 := by
  obtain ⟨t, w, rfl, ht, _⟩ := h
  obtain ⟨its, rv, ⟨o, ho, hc, n, hd⟩, _⟩ := I.tuple ht
  obtain ⟨u1, u2, rfl, ri, _⟩ := vals2 rv
  obtain ⟨t1, rfl⟩ := ri
  cases r
  exact ⟨t, o, t1, u2, n, rfl, ho, hc, hd⟩
/-- sorted(rows), rows a list or a tuple, no two of the same path: a new list -/
def rSortF (K : PySem.W.Frag) : List V → Hp → VK → Prop := fun vs H Q => ∃ (a : Addr) (ws : List V) (gs : List File), vs = [.ref a] ∧ (SqL K H a ws ∨ SqT K H a ws) ∧ RowsAt K H ws gs ∧ (gs.map (·.1)).Nodup ∧ gs.length ≤ 1000 ∧
  ∀ p ys, H p = none → RowsAt K (upd H p (.lst ys)) ys (srtF gs) → Q (.ref p) (upd H p (.lst ys))
theorem call_sortF {X : Cx} {K : PySem.W.Frag} (hK : X.K = K) : CallR X (.builtin "sorted") (rSortF K) := by
  subst hK
  intro pins s σ H xs us Q I r h
  obtain ⟨a, ws, gs, rfl, hS, hR, nd, hl, q⟩ := h
  obtain ⟨u, rfl, ru⟩ := vals1 r
  obtain rfl : u = Value.ref a := ru
  obtain ⟨its, rv, hz, hrun⟩ : ∃ its : List Value, Vals ws its ∧ ws.length ≤ sizeLine ∧ (s.heap.IsList a its.toArray ∨ s.heap.IsTuple a its.toArray) := by
    rcases hS with hS | hS
    · obtain ⟨its, rv, hi, hz⟩ := I.list hS
      exact ⟨its, rv, hz, .inl hi.isList⟩
    · obtain ⟨its, rv, hi, hz⟩ := I.tuple hS
      exact ⟨its, rv, hz, .inr hi⟩
  have hz2 : its.length ≤ sizeLine := by rw [← rv.length]; exact hz
  -- each item is a row
  have both : Paired (fun (u : Value) (f : File) => RowO s.heap u f.1 ∧ RowAt X.K H (backV u) f ∧ ∃ t, u = .ref t) its gs := by
    clear hz hrun hz2 q nd hl hS
    induction rv generalizing gs with
    | nil => cases hR; exact .nil
    | cons r _ ih =>
      cases hR with
      | cons h t =>
        refine .cons ⟨row_obj I h r, ?_⟩ (ih _ t)
        obtain ⟨t0, w0, rfl, e⟩ := id h
        cases r
        exact ⟨h, t0, rfl⟩
  have hp : ∀ v ∈ its, RowO s.heap v (pathOf s.heap v) := fun v hv => by
    obtain ⟨f, _, e, _⟩ := paired_mem both hv
    rw [pathOf_is e]
    exact e
  have inj : ∀ v ∈ its, ∀ u ∈ its, pathOf s.heap v = pathOf s.heap u → v = u := fun v hv u hu e => by
    obtain ⟨i, hi⟩ := List.getElem?_of_mem hv
    obtain ⟨j, hj⟩ := List.getElem?_of_mem hu
    obtain ⟨f, hf, e1, _⟩ := paired_get both i v hi
    obtain ⟨g, hg, e2, _⟩ := paired_get both j u hj
    rw [pathOf_is e1, pathOf_is e2] at e
    have e3 : (gs.map (·.1))[i]? = some f.1 := by rw [List.getElem?_map, hf]; rfl
    have e4 : (gs.map (·.1))[j]? = some f.1 := by rw [List.getElem?_map, hg, e]; rfl
    have ij : i = j := nodup_ix nd e3 e4
    rw [ij, hj] at hi
    exact (Option.some.inj hi).symm
  have fin : ∀ out : List Value, Srtd (fun v u => ltS (pathOf s.heap v) (pathOf s.heap u)) out → Stb (fun v u => ltS (pathOf s.heap v) (pathOf s.heap u)) out its →
      EP X pins σ Q (.ref (s.heap.objs.size + 1)) { s with heap := sortedAll s.heap its out.toArray } := fun out h1 h2 => by
    obtain ⟨gs', p1, p2⟩ := perm_paired h2.perm both
    have pw : gs'.Pairwise leF := pw_paired (fun v u f g ef eg z => by
      have z : ltS (pathOf s.heap u) (pathOf s.heap v) = false := z
      rw [pathOf_is ef.1, pathOf_is eg.1] at z
      exact ltS_no.mp z) p2 h1
    have eg := sortedF_is p1 nd pw
    subst eg
    have refs : ∀ u ∈ out, ∃ t, u = Value.ref t := fun u hu => by
      obtain ⟨f, _, _, _, t, e⟩ := paired_mem p2 hu
      exact ⟨t, e⟩
    obtain ⟨n, hn⟩ := sortedAll_at s.heap its out.toArray
    have nw : H (s.heap.objs.size + 1) = none := I.hok.fresh (Nat.le_succ _)
    have hl2 : (out.map backV).length ≤ sizeLine := by rw [List.length_map, h2.perm.length_eq]; exact hz2
    have J : Inv X pins σ (upd H (s.heap.objs.size + 1) (.lst (out.map backV))) { s with heap := sortedAll s.heap its out.toArray } :=
      I.laid (t' := s.toks) (fun b o e => sortedAll_old e) (Nat.le_succ _) ⟨hl2, out, n, vals_back refs, hn⟩
    refine ⟨.ref (s.heap.objs.size + 1), _, J, rfl, q _ _ nw ?_⟩
    have rows : ∀ {l : List Value} {m : List File}, Paired (fun (u : Value) (f : File) => RowO s.heap u f.1 ∧ RowAt X.K H (backV u) f ∧ ∃ t, u = .ref t) l m → RowsAt X.K H (l.map backV) m := by
      intro l m h
      induction h with
      | nil => exact .nil
      | cons a _ ih => exact .cons a.2.1 ih
    exact (rows p2).st (same_upd nw).t
  have sortable : 2 ≤ its.length → ∀ (h₁ : Heap) (b : Addr), h₁.get? b = some (seqObj "list" its.toArray 0) → (∀ c o, s.heap.get? c = some o → c ≠ b ∧ h₁.get? c = some o) →
      SortableO X.prog X.w X.A.in1.in1 { s with heap := h₁ } b its (fun v u => ltS (pathOf s.heap v) (pathOf s.heap u)) := fun h2 h₁ b hb kk => by
    refine rows_sortable (s := { s with heap := h₁ }) (by omega) (fun v hm => (hp v hm).keeps fun c o e _ => (kk c o e).2) inj fun o e => ?_
    have e' : some o = some (seqObj "list" its.toArray 0) := e.symm.trans hb
    cases e'
    intro c
    exact absurd (Value.type.inj c) (by decide)
  rcases hrun with hi | hi
  · exact sorted_ord (swo_rows _) hi hz2 sortable fin
  · exact sortedT_ord (swo_rows _) hi hz2 sortable fin
end Ga

set_option maxRecDepth 100000
set_option maxHeartbeats 4000000
/-! Gx: an own exception's __init__ that says super().__init__(..) first. -/
namespace Ga
open PySem PySem.Spec PyProof.Rows L2 TL NdefX
/-- what the top has left of such an __init__ -/
structure SupIn (P : Program) (K : PySem.W.Frag) (f C : Addr) (F : NF) (fd : FuncData) : Prop where
  ex : ∃ (oc ccl cl : Value) (od cdd cld : Option Addr) (osl ccs csl : Array (Option Value)) (doc pm ctv : Value) (vs : Array Value) (file : Str) (tf : Tok) (cc : Addr), fd = F.fd doc pm ctv ∧
    K.lookup f = some ⟨oc, od, .func (F.fd doc pm ctv), osl⟩ ∧ PySem.W.codeIn K (.ref F.c) F.qual = true ∧ K.lookup F.c = some ⟨ccl, cdd, .fields vs, ccs⟩ ∧ vs[2]? = some (.str file tf) ∧
    ((P.main.file : Str) == file) = true ∧ F.cl = [(("__class__" : Str), cc)] ∧ K.lookup cc = some ⟨cl, cld, .cell (some (.ref C)), csl⟩
/-- what the written part says of its class -/
structure SupC (K : PySem.W.Frag) (C : Addr) : Prop extends OexC K C where
  self : PySem.W.mroIn K C (.ref C) = some true
  sup : PySem.W.ks_superIn K C C "__init__" = some (some (.builtin "ValueError.__init__"))
  ve : PySem.W.subIn K (.ref C) (.type "ValueError") = some true
  any : PySem.W.nsIn K cStatics "thirdparty.any" = some none
/-- what its text says -/
structure SupT (P : Program) (F : NF) (N ps : List Str) (ar : Arg) : Prop where
  scope : NScope N ps ["__class__"] F.scope
  head : (F.params.posonlyargs ++ F.params.args).head? = some ar
  name : ps[0]? = some ar.arg
  ks : F.scope.names.lookup ("super" : Str) = some .globalImplicit
  top : (P.main.scope.names.lookup ("super" : Str)).isSome = false
section
variable {P : Program} {w : World} {K : PySem.W.Frag} {mg : Str → Option Value} {base : Heap}
theorem ok_sup {k : Nat} {f C : Addr} {F : NF} {fd : FuncData} {N ps : List Str} {sp : Sp} {ar : Arg} {e : Expr} {es : List Expr} {rest : List Stmt} {p0 p1 p2 p3 p4 : Pos}
    (SI : SupIn P K f C F fd) (SC : SupC K C) (ST : SupT P F N ps ar) (hsuper : mg "super" = none)
    (hbody : F.body = .Expr (.Call (.Attribute (.Call (.Name "super" p0) [] [] p1) "__init__" p2) (e :: es) [] p3) p4 :: rest)
    (len : ∀ vs H Q E, sp vs H Q E → vs.length = ps.length)
    (hi : ∀ L, interactive (envF F f L) = false) (hsw : ∀ L, swapsWith (.Call (.Attribute (.Call (.Name "super" p0) [] [] p1) "__init__" p2) (e :: es) [] p3) none p4.line (envF F f L) = pure false)
    (hev : ∀ L, ∃ pl : Sem Bool, eval (.Call (.Attribute (.Call (.Name "super" p0) [] [] p1) "__init__" p2) (e :: es) [] p3) (envF F f L) = (do
      let ov ← attributeBase (.Call (.Name "super" p0) [] [] p1) "__init__" (envF F f L) (eval (.Call (.Name "super" p0) [] [] p1) (envF F f L))
      standAt p2.atName
      let (f', first) ← holding [ov] (getMethod ov "__init__" pl)
      callWith p3 f' first (backTo p3 (starEach (e :: es) (envF F f L))) []))
    (he : ∀ L, starEach (e :: es) (envF F f L) = (false, eval e (envF F f L)) :: starEach es (envF F f L)) (hpl : ∀ L, (backTo p3 (starEach es (envF F f L))).any (·.1) = false)
    (hb : ∀ (A : Around) (outer : List Env) (s : Shared) (H : Hp) (vs : List V) (Q : VK) (E : XK), Room k (A.deeper (envF F f s.heap.objs.size)) → sp vs H Q E →
      ∃ (a : Addr) (tA : TA) (t : TS), vs[0]? = some (.ref a) ∧ H a = some (exo a C none) ∧ PA (ncx CX0 P w K mg base N F f A outer s H E) (e :: es) tA ∧ PSs (ncx CX0 P w K mg base N F f A outer s H E) rest t ∧
        tA (startF N vs [none]) H fun ws H1 => ws.length ≤ 1000 ∧ H1 a = some (exo a C none) ∧ t { nx := fun _ H' => Q .non H', rt := Q } (startF N vs [none]) H1) :
    FnOk P w K mg base CX0 (k + 1) f fd ps sp := by
  obtain ⟨oc, ccl, cl, od, cdd, cld, osl, ccs, csl, doc, pm, ctv, vs2, file, tf, cc, rfl, lk, hcd, lc, hvs, hfile, hcl, lcell⟩ := SI.ex
  obtain ⟨nm, qn, N', bs, bm, sn, sub, ab, col, dd, k0, k1, k2, k3, k5, hC, hbm⟩ := SC.cls
  have S := ST.scope
  refine ⟨len, fun A outer s H args us vs Q E hr e0 hbi r hsp => ?_⟩
  have hl := len _ _ _ _ hsp
  have keep : ∀ b o, base.get? b = some o → s.heap.get? b = some o := fun b o e => (e0.bs b o e).1
  have KX := e0.mod.kin.keeps keep
  have lim := e0.mod.nolimit.keeps keep
  have CC : CellsAt F.cl ["__class__"] [none] s.heap H := by
    rw [hcl]
    have one : ∀ {y : Str} {c : Addr}, List.lookup y [(("__class__" : Str), cc)] = some c → y = "__class__" ∧ c = cc := by
      intro y c e
      by_cases q : y = "__class__"
      · subst q
        simp [List.lookup] at e
        exact ⟨rfl, e.symm⟩
      · have q2 : (y == ("__class__" : Str)) = false := by simpa using q
        simp [List.lookup, q2] at e
    refine ⟨rfl, fun y c e => ?_, fun x y c e1 e2 => (one e1).1.trans (one e2).1.symm, fun i y e => ?_⟩
    · obtain ⟨rfl, rfl⟩ := one e
      exact ⟨(e0.bs _ _ (e0.mod.kin _ _ lcell)).2, _, _, KX _ _ lcell, rfl⟩
    · cases i with
      | zero =>
        cases e
        exact ⟨cc, by simp [List.lookup], fun v z => by cases z⟩
      | succ i => cases e
  refine ks_codeAny_call_defAt (fd := F.fd doc pm ctv) (body := F.body) (binds := ps.zip us) hr.depth (KX _ _ lk) rfl lim (PySem.W.codeRec_of KX hcd) rfl hbi S.nocell (fun y hy => S.par y.1 (List.of_mem_zip (a := y.1) (b := y.2) hy).1) (fun h₁ hns kp => ?_) S.co S.gen S.kind
  have I : Inv (ncx CX0 P w K mg base N F f A outer s H E) [] (startF N vs [none]) H { s with heap := h₁, toks := s.toks + (ps.zip us).length } := inv_startN S hr.hd e0 hl r CC hns kp
  obtain ⟨a, tA, t, hv0, ea, hA, hR, hq⟩ := hb A outer s H vs Q E (hr.deeper _) hsp
  show _root_.PySem.wpAt (model P w) (A.deeper (envF F f s.heap.objs.size)) (.func F.body (envF F f s.heap.objs.size)) (execs F.body (envF F f s.heap.objs.size)) _ _ _
  have X1 : K.In h₁ := I.kIn
  obtain ⟨u0, hu0, ru0⟩ := r.get hv0
  obtain rfl : u0 = Value.ref a := ru0
  have hself : (ps.zip us).reverse.lookup ar.arg = some (.ref a) := by
    have ndP : ps.Nodup := by
      have q : (ps ++ [("__class__" : Str)]).Nodup := by
        rw [← S.pre]
        exact S.nd.sublist (List.take_sublist _ N)
      exact (List.nodup_append.mp q).1
    exact zip_look ndP ST.name hu0
  have hka : F.scope.names.lookup ar.arg = some .local := S.par _ (List.mem_of_getElem? ST.name)
  have hkc : F.scope.names.lookup ("__class__" : Str) = some .free := S.frk _ (by simp)
  rw [hbody]
  obtain ⟨pl, hpl1⟩ := hev s.heap.objs.size
  refine ks_wpAt_execs_cons (ks_wpAt_Expr_any (ks_wpAt_MethodCall (pl := pl) ?_ hpl1) (hi _) (hsw _))
  refine ks_wpAt_super_base (env := envF F f s.heap.objs.size) ST.ks hkc (by decide) rfl (X1 _ _ lk) rfl ST.head rfl (X1 _ _ lc) rfl hvs hfile ST.top ?_
  obtain ⟨mb, hb1, hb2⟩ := I.mod.blt
  refine PySem.W.ks_loadName_global S.kind ST.ks (Calls.loadGlobal_builtin (env := envF F f s.heap.objs.size) (I.mod.glob.keeps I.bk) hsuper (hb1.keeps I.bk) ((hb2 _ (by decide)).trans (show bootBuiltins "super" = some (.type "super") by decide +kernel)) ⟨rfl, ?_⟩)
  refine wpAny_loadName_free S.kind hkc (c := cc) (by show F.cl.lookup _ = _; rw [hcl]; simp [List.lookup]) ⟨_, X1 _ _ lcell, rfl⟩ ?_
  refine wpAny_loadName_local S.kind hka hns hself ?_
  obtain ⟨t1, ho⟩ := exo_at I.hok ea
  have hc1 := X1 _ _ hC
  refine ks_wpAny_isType_cls hc1 rfl ⟨rfl, ?_⟩
  refine ks_wpAny_call_super hc1 rfl ho rfl (fun c z => by cases z) (PySem.W.looks_mroIn X1 SC.self) (fun h2 hso kp2 => ?_)
  have X2 : K.In h2 := X1.keeps kp2
  have I2 := I.kept (t' := s.toks + (ps.zip us).length) kp2
  have ho2 := kp2 _ _ ho
  have hsupA := SC.sup
  have I0 : PySem.W.InstAt h2 a _ C none := ⟨ho2, rfl, rfl, trivial⟩
  have hIn : PySem.W.Looks (model P w) h2 (isInstance (.ref a) (.type "ValueError")) true := I0.type.andThen (PySem.W.looks_subIn X2 SC.ve)
  have hcl1 : PySem.W.clsIn K C = some { name := nm, bases := bs, mro := .ref C :: bm, ns := N', qualname := qn, hasDict := true, slotNames := sn, subclasses := sub, abstract := ab, collection := col, hasDel := false } := by unfold PySem.W.clsIn; rw [hC] <;> rfl
  unfold PySem.W.ks_superIn at hsupA
  rw [hcl1] at hsupA
  refine PySem.W.kxs_getMethod PySem.W.kxs_ValueError hso (PySem.W.looks_opaque X2 SC.any) (l₀ := .ref C :: bm) ?_ rfl X2 hsupA hIn (PySem.W.ks_ne X2 I0 hcl1) (by decide) ?_
  · exact fun A Q E s k q => wpAny_bind ((PySem.W.looks_clsIn X2 hcl1) A _ E s k (wpAny_pure q))
  let u : Addr := h2.objs.size
  have hu : (h2.push (PySem.W.kxs_mw "ValueError.__init__" a)).get? u = some (PySem.W.kxs_mw "ValueError.__init__" a) := Heap.get?_push_at rfl rfl
  have I3 := I2.kept (h' := h2.push (PySem.W.kxs_mw "ValueError.__init__" a)) (t' := s.toks + (ps.zip us).length + 1) (fun b o z => Heap.get?_push_of_some _ z)
  have I4 : Inv (ncx CX0 P w K mg base N F f A outer s H E) [(u, PySem.W.kxs_mw "ValueError.__init__" a)] _ H _ := I3.pins_of fun p hp => by
    obtain rfl := List.mem_singleton.mp hp
    have f0 := I2.fpOk (b := u) (Nat.le_refl _) (I2.hok.fresh (Nat.le_refl _))
    exact ⟨hu, f0.1, f0.2.1, f0.2.2.1, fun v z => by cases z⟩
  show wpAny (model P w) _ (callWith p3 (.ref u) [] (backTo p3 (starEach (e :: es) (envF F f s.heap.objs.size))) []) _ _ _
  rw [he]
  refine PySem.W.kxs_callWith (i := "ValueError.__init__") (x := a) (by show (false || (backTo p3 (starEach es (envF F f s.heap.objs.size))).any (·.1)) = false; rw [hpl]; rfl) (PySem.Calls.evalArgs_plain ?_)
  have A1 := hA.run p3 _ _ _ _ _ I4 hq
  rw [show starEach (e :: es) (ncx CX0 P w K mg base N F f A outer s H E).env = _ from he _] at A1
  refine thn A1 fun ws s2 hws => ?_
  obtain ⟨vs', H1, I5, r5, hz, ea1, q⟩ := hws
  have hu5 := (I5.pin (u, PySem.W.kxs_mw "ValueError.__init__" a) (List.mem_append_right _ (List.mem_singleton.mpr rfl))).1
  refine ⟨hu5, ?_⟩
  have hlen : ws.length ≤ sizeLine := by
    rw [← r5.length, sizeLine_eq]
    omega
  obtain ⟨t2, ho5⟩ := exo_at I5.hok ea1
  have hc5 := I5.kIn _ _ hC
  obtain ⟨hh, g, d, tk, os⟩ := s2
  show wpAny _ _ (call (.ref u) ws) _ _ _
  refine wpAny_call (codeAny_of_tree ?_)
  show wpAny _ (Around.in1 _) (callAny (.ref u) ⟨ws, []⟩) _ _ _
  simp only [callAny]
  refine wpAny_bind (wpAny_load hu5 ?_)
  simp only [PySem.W.kxs_mw, show (Value.type "method-wrapper" == Value.type "method" || Value.type "method-wrapper" == Value.type "builtin_function_or_method" || Value.type "method-wrapper" == Value.type "method-wrapper") = true by decide, if_true]
  refine PySem.W.KFB.if_so (by decide) ?_
  refine wpAny_bind (PySem.W.check_bound_init PySem.F.excBase_ValueError.toExcCallFacts hc5 ho5 rfl ?_)
  refine wpAny_bind (wpAny_pure (wpAny_pure ?_))
  refine ⟨plainId_quiet PySem.F.excBase_ValueError.init.plain _, codeAny_builtin PySem.F.excBase_ValueError.initEntry ?_⟩
  refine PySem.W.exc_init_tree (cls := .ref C) (t0 := t2) (dv := none) (c2 := .none) (c3 := .none) (b4 := .bool false) ho5 hlen (fun h' k6 e6 _ => ?_)
  have J := I5.write (t' := tk) (x := a) (e := a) (o := exo a C none) (by rw [ea1]; exact True.intro) (.inl rfl) k6 ⟨_, e6⟩ (exo_ok e6)
  have eu : upd H1 a (exo a C none) = H1 := by
    funext b
    by_cases hb : b = a
    · rw [hb, upd_same, ea1]
    · rw [upd_ne hb]
  rw [eu] at J
  have J2 : Inv (ncx CX0 P w K mg base N F f A outer s H E) [] (startF N vs [none]) H1 ⟨h', g, d, tk, os⟩ := J.pins_of fun p hp => by cases hp
  refine wpAt_of_wpAny (wpAny_mono (hR.run [] _ _ H1 _ J2 q) (fun fl s' hs => ?_) fun e s' hs => hs)
  have fin : ∀ {σ' : L2.St} {H' : Hp} {v : V} {u : Value}, Inv (ncx CX0 P w K mg base N F f A outer s H E) [] σ' H' s' → L2.RelV v u → Q v H' → CE outer P w H s Q u s' :=
    fun {σ' H' v u} J rv q => ⟨v, H', J.os, J.bare, J.base, J.hok, rv, q⟩
  cases fl with
  | ret u =>
    obtain ⟨v, σ', H', J, rv, q⟩ := hs
    exact fin J rv q
  | next =>
    obtain ⟨σ', H', J, q⟩ := hs
    exact fin (v := V.non) (u := Value.none) J rfl q
  | brk =>
    obtain ⟨_, _, _, q⟩ := hs
    exact False.elim q
  | cont =>
    obtain ⟨_, _, _, q⟩ := hs
    exact False.elim q
end
end Ga

set_option maxRecDepth 100000
set_option maxHeartbeats 4000000
/-! Gy: making an instance in a try; isinstance of a caught error that has its dict. -/
namespace Ga
open PySem PySem.Spec PyProof.Rows L2 TL
def tMakeS (C : Addr) (sp : Sp) (dvs : List V) (E : L2.St → XK) (t : TA) : TE := fun σ H Q => t σ H fun vs H1 => ∀ x dx, H1 x = none → H1 dx = none → dx ≠ x → sp (.ref x :: (vs ++ dvs)) (upd (upd H1 dx (.own x)) x (.ins C dx [])) (fun v H2 => v = .non ∧ Q (.ref x) H2) (E σ)
section
variable {X : Cx} {CX : CXT} {k : Nat} {f C : Addr} {fd : FuncData} {ps : List Str} {sp : Sp} {E : L2.St → XK} {x : Str} {p pos : Pos} {e : Expr} {es : List Expr} {t : TA} {dvs : List V} {ds : List Value}
theorem pe_makeS (M : Mk X.K C f) (F : FnOk X.prog X.w X.K X.mg X.base CX k f fd ps sp) (hr : Room (k + 1) X.A) (hg : Gl X x) (hm : X.mg x = some (.ref C)) (hb : Binds X.K fd ps ds) (hd : Vals dvs ds) (hx : ∀ σ, PassesAt CX X σ (E σ))
    (ha : PA X (e :: es) t) (hdb : (x == ("__debug__" : Str)) = false := by decide) (he : starEach (e :: es) X.env = (false, eval e X.env) :: starEach es X.env := by rfl) (hpl : (backTo pos (starEach es X.env)).any (·.1) = false := by rfl) :
    PE X (.Call (.Name x p) (e :: es) [] pos) (tMakeS C sp dvs E t) := by
  refine ⟨fun pins s σ H Q I h => ?_⟩
  refine wpAny_Call_Name_kw (ld_glob I hg hm ?_ hdb)
  refine PySem.W.callWith_K (h₀ := X.base) I.ok.mod.kin M.kp (thn (ha.run pos pins s σ H _ I h) fun us s1 ⟨vs, H1, I1, r, q⟩ => ⟨I1.kIn, ?_⟩) he hpl
  have n1 : H1 (s1.heap.objs.size + 1) = none := I1.hok.fresh (Nat.le_succ _)
  have n2 : H1 s1.heap.objs.size = none := I1.hok.fresh (Nat.le_refl _)
  have asked := q _ _ n1 n2 (Nat.ne_of_lt (Nat.lt_succ_self _))
  have J := Inv.made (C := C) I1
  have vals : Vals (V.ref (s1.heap.objs.size + 1) :: (vs ++ dvs)) (Value.ref (s1.heap.objs.size + 1) :: (us ++ ds)) := .cons rfl (r.append hd)
  have len : (Value.ref (s1.heap.objs.size + 1) :: us ++ ds).length = ps.length := vals.length.symm.trans (F.len _ _ _ _ asked)
  show wpAny _ _ (call (.ref C) us) _ _ _
  refine wpAny_call (make_map (f := f) I1.kIn M.makes M.init (beq_iff_eq.mp M.fn) (codeAny_mono (F.run _ X.stack _ _ ⟨Value.ref (s1.heap.objs.size + 1) :: us, []⟩ _ _ _ (E σ) (hr.make C us [])
    (J.env0.make C us []) (hb _ (Value.ref (s1.heap.objs.size + 1) :: us) J.kIn len) vals asked) fun r s' h' => ?_))
  match r, h' with
  | .error e, h' => exact hx σ pins _ _ e s' J h'
  | .ok (.ret u), h' =>
    obtain ⟨v, H', J2, rv, ev, q3⟩ := J.after h'
    subst ev
    exact ⟨rv, V.ref (s1.heap.objs.size + 1), H', J2, rfl, q3⟩
  | .ok .next, h' => exact h'.elim
  | .ok .brk, h' => exact h'.elim
  | .ok .cont, h' => exact h'.elim
end
/-- isinstance(e, c), e the exception that the suite holds, with its dict -/
def rIsX (K : PySem.W.Frag) (a : Addr) (cls : Value) (d : Option Addr) : List V → Hp → VK → Prop := fun xs H Q => ∃ (D dd : Addr) (fs : List (Str × V)) (c : V) (cv : Value) (b : Bool), cls = .ref D ∧ d = some dd ∧ H dd = some (.xd fs) ∧ ExcC K D ∧
  xs = [.ref a, c] ∧ (∀ u, RelV c u → u = cv) ∧ PySem.W.kitOne K (.ref D) cv = some b ∧ Q (.bl b) H
theorem call_isX {X : Cx} {a : Addr} {oe : Obj} {cls : Value} {d : Option Addr} {pn : List (Addr × Obj)} (hz : Zc cls d oe) (hf : ∃ vs, oe.data = .fields vs) : CallR (X.suite a ((a, oe) :: pn)) (.builtin "isinstance") (rIsX X.K a cls d) := by
  intro pins s σ H xs us Q I r h
  obtain ⟨D, dd, fs, c, cv, b, rfl, rfl, hdd, T, rfl, hcv, e, q⟩ := h
  cases r with
  | cons rx rr =>
    cases rr with
    | cons rt rr =>
      cases rr
      cases rx
      have ec := hcv _ rt
      subst ec
      have hget := (I.pin (a, oe) (List.mem_append_left _ List.mem_cons_self)).1
      obtain ⟨vs, hv⟩ := hf
      have hx : ObjOk X.prog X.w H s.heap dd (.xd fs) := I.hok dd _ hdd
      obtain ⟨mA, hns, _⟩ := hx
      obtain ⟨od, ho, _⟩ := lookIn_ns hns
      have J : PySem.W.InstAt s.heap a oe D (some od) := ⟨hget, hz.1, by unfold PySem.W.notCls; rw [hv] <;> rfl, by rw [hz.2]; exact ho⟩
      have hcl : (PySem.W.clsIn X.K D).isSome = true := by
        obtain ⟨cd, hc, _⟩ := PySem.W.any_some T.hd
        rw [hc]
        rfl
      exact PySem.W.kia_one (PySem.W.kitx_exc hcl T.hg T.hk T.hs T.ha T.hn T.ht T.hm) I.kIn J e (fun z => nomatch z) fun tk => ⟨.bl b, H, I.kept (t' := tk) fun _ _ z => z, rfl, q⟩
end Ga

set_option maxRecDepth 100000
set_option maxHeartbeats 4000000
/-! Gz: a tuple times 0 or 1. -/
namespace Ga
open PySem PySem.Spec PyProof.Rows L2 TL
theorem mul_one (l : Addr) (items : Array Value) (n : Nat) (dd : Option Addr) (sl : Array (Option Value)) (u : Tok) :
    Meets (Builtin.«tuple.__mul__» ⟨[.ref l, .int 1 u], []⟩) (fun _ R s => s.heap.get? l = some { cls := .type "tuple", dict := dd, data := .seq items n, slots := sl } ∧ R (.ok (.ret (.ref l))) s) :=
  .of_wp fun prog w A R s h => by
    obtain ⟨hp, g, d, tk, os⟩ := s
    obtain ⟨hl, h⟩ := h
    have f1 := AutoSeq1.idx_int
    have c1 : (items.isEmpty || (1 : Int) == 1) = true := by rw [Bool.or_eq_true]; exact .inr rfl
    have ty : (⟨hp, g, d, tk, os⟩ : Shared).TypeIs (.ref l) "tuple" := ⟨_, hl, rfl⟩
    wp_walk using wpAny_loadPart' hl
    repeat (first
      | (refine wpAny_ite_true (decide_eq_true c1) ?_; wp_walk using wpAny_loadPart' hl)
      | (refine wpAny_typeOf ty ?_; wp_walk using wpAny_loadPart' hl))
    all_goals first | exact ⟨_, rfl, h⟩ | exact h | skip
theorem mul_zero (l : Addr) (items : Array Value) (n : Nat) (dd : Option Addr) (sl : Array (Option Value)) (u : Tok) (hne : items.isEmpty = false) :
    Meets (Builtin.«tuple.__mul__» ⟨[.ref l, .int 0 u], []⟩) (fun _ R s => s.heap.get? l = some { cls := .type "tuple", dict := dd, data := .seq items n, slots := sl } ∧
      R (.ok (.ret (Value.ref s.heap.objs.size))) { s with heap := s.heap.push { cls := Value.type "tuple", data := Data.seq #[] }, toks := s.toks }) :=
  .of_wp fun prog w A R s h => by
    obtain ⟨hp, g, d, tk, os⟩ := s
    obtain ⟨hl, h⟩ := h
    have f1 := AutoSeq1.idx_int
    have c1 : (items.isEmpty || (0 : Int) == 1) = false := by rw [hne]; rfl
    have c2 : (decide ((0 : Int) ≤ 0) || items.isEmpty) = true := rfl
    wp_walk using wpAny_loadPart' hl
    repeat (first
      | (refine wpAny_ite_false (decide_eq_false (by rw [c1]; exact Bool.false_ne_true)) ?_; wp_walk using wpAny_loadPart' hl)
      | (refine wpAny_ite_true (decide_eq_true c2) ?_; wp_walk using wpAny_loadPart' hl))
    all_goals first | exact ⟨_, rfl, h⟩ | exact h | skip
/-- a tuple of some items, a few times -/
def rRepS (K : PySem.W.Frag) : R2 := fun x y H Q => ∃ l k xs, x = .ref l ∧ y = .int k ∧ SqT K H l xs ∧ xs ≠ [] ∧ 0 ≤ k ∧ k ≤ 1000 ∧ xs.length ≤ 1000 ∧ ∀ p H', Same H H' → SqT K H' p (List.replicate k.toNat xs).flatten → Q (.ref p) H'
theorem op_repS {X : Cx} {K : PySem.W.Frag} (hK : X.K = K) : OpR X (binaryOp .Mult) (rRepS K) := by
  subst hK
  intro pins s σ H x y v u Q I rx ry h
  obtain ⟨l, k, xs, rfl, rfl, hT, hne, h0, h1, hz, q⟩ := h
  by_cases h2 : 2 ≤ k
  · exact op_repT pins s σ H _ _ v u Q I rx ry ⟨l, k, xs, rfl, rfl, hT, hne, h2, h1, hz, fun p np => q p _ (same_upd np) (sqT upd_same)⟩
  · cases rx
    obtain ⟨t, rfl⟩ := ry
    obtain ⟨its, r, ⟨⟨cls, dd, data, sl⟩, ho, hc, n, hd⟩, hs⟩ := I.tuple hT
    simp only at hc hd
    subst hc hd
    have hi : its.toArray.isEmpty = false := by
      cases its with
      | nil => cases r; exact absurd rfl hne
      | cons a b => rfl
    rcases (show k = 0 ∨ k = 1 by omega) with rfl | rfl
    · refine wpAny_binaryOp_repeat_ref (T := "tuple") (U := "int") (by decide) ⟨_, ho, rfl⟩ (fun s' => typeIs_int s' 0 t) noFill_tuple_mul F.fills_int_mul F.slot_int_rmul repeat_tuple F.slot_int_index.lookup
        (call_meets F.slot_int_rmul (typeIs_int s 0 t) F.entry_int_rmul (F.args_int_rmul_2 _ _) (int_rmul_tuple 0 t l its.toArray n dd sl)
          ⟨ho, rfl, ⟨_, ho, rfl⟩, call_meets F.slot_tuple_mul ⟨_, ho, rfl⟩ F.entry_tuple_mul (F.args_tuple_mul_2 _ _) (mul_zero l its.toArray n dd sl t hi) ⟨ho, ?_⟩⟩)
      have nw := I.hok.fresh (Nat.le_refl s.heap.objs.size)
      refine ⟨.ref s.heap.objs.size, _, I.laid (t' := s.toks) (o := .tup []) (fun b ob q => Heap.get?_push_of_some _ q) (Nat.le_refl _) ?_, rfl, q _ _ (same_upd nw) (sqT upd_same)⟩
      exact ⟨Nat.zero_le _, [], .nil, IsTup.new _ _⟩
    · refine wpAny_binaryOp_repeat_ref (T := "tuple") (U := "int") (by decide) ⟨_, ho, rfl⟩ (fun s' => typeIs_int s' 1 t) noFill_tuple_mul F.fills_int_mul F.slot_int_rmul repeat_tuple F.slot_int_index.lookup
        (call_meets F.slot_int_rmul (typeIs_int s 1 t) F.entry_int_rmul (F.args_int_rmul_2 _ _) (int_rmul_tuple 1 t l its.toArray n dd sl)
          ⟨ho, rfl, ⟨_, ho, rfl⟩, call_meets F.slot_tuple_mul ⟨_, ho, rfl⟩ F.entry_tuple_mul (F.args_tuple_mul_2 _ _) (mul_one l its.toArray n dd sl t) ⟨ho, ?_⟩⟩)
      refine ⟨.ref l, H, I, rfl, q l H (.refl _) ?_⟩
      have : (List.replicate (1 : Int).toNat xs).flatten = xs := by simp
      rw [this]
      exact hT
end Ga

set_option maxRecDepth 100000
set_option maxHeartbeats 4000000
namespace KX
open PySem PySem.Spec PyProof.Rows L2 TL Ga
def top (i : Nat) : Stmt := PySem.Challenge.pw_sameanswers_k43_records_in_pieces.main.body.getD i (.Pass ⟨0, 0, 0, 0⟩)
/-- the statements of a class -/
def clsB : Stmt → List Stmt
  | .ClassDef _ _ _ b _ _ _ _ _ _ _ => b
  | _ => []
def meth (c : Stmt) (i : Nat) : Stmt := (clsB c).getD i (.Pass ⟨0, 0, 0, 0⟩)
/-- what the module's names hold -/
structure Tx (mg : Str → Option Value) : Prop where
  len : mg "len" = none
  all : mg "all" = none
  any : mg "any" = none
  ord : mg "ord" = none
  int : mg "int" = none
  range : mg "range" = none
  repr : mg "repr" = none
  tuple : mg "tuple" = none
  list : mg "list" = none
  dict : mg "dict" = none
  set : mg "set" = none
  sorted : mg "sorted" = none
  str : mg "str" = none
  isinstance : mg "isinstance" = none
  min : mg "min" = none
  max : mg "max" = none
  sum : mg "sum" = none
  bool : mg "bool" = none
  enumerate : mg "enumerate" = none
  zip : mg "zip" = none
  reversed : mg "reversed" = none
  abs : mg "abs" = none
  c_PERCENT : ∃ t, mg "PERCENT" = some (.int 37 t)
  c_PIECE : ∃ t, mg "PIECE" = some (.int 24 t)
  c_PIECES_MOST : ∃ t, mg "PIECES_MOST" = some (.int 255 t)
  c_MARK : ∃ t, mg "MARK" = some (.int 76 t)
  c_FIRST_CODE : ∃ t, mg "FIRST_CODE" = some (.int 32 t)
  c_LAST_CODE : ∃ t, mg "LAST_CODE" = some (.int 126 t)
  c_NEWLINE : ∃ t, mg "NEWLINE" = some (.int 10 t)
  c_SIGNS : ∃ t, mg "SIGNS" = some (.str " !\"#$ &'()*+,-./0123456789:;<=>?@ABCDEFGHIJKLMNOPQRSTUVWXYZ[\\]^_`abcdefghijklmnopqrstuvwxyz{|}~" t)
abbrev s_TrunkError : Stmt := top 1
abbrev s_OutOfRange : Stmt := top 2
abbrev sOorInit : Stmt := meth s_OutOfRange 0
abbrev s_count_pieces : Stmt := top 12
theorem sc_count_pieces : FnScope ["text"] ["text"] (defScope s_count_pieces) := ⟨rfl, rfl, rfl, by decide +kernel, rfl, by decide +kernel, by decide +kernel⟩
abbrev n_count_pieces : List Str := ["text"]
abbrev s_encode_piece : Stmt := top 13
theorem sc_encode_piece : FnScope ["index", "many", "number", "text", "codes", "sign", "zeros"] ["index", "many", "number", "text"] (defScope s_encode_piece) := ⟨rfl, rfl, rfl, by decide +kernel, rfl, by decide +kernel, by decide +kernel⟩
abbrev n_encode_piece : List Str := ["index", "many", "number", "text", "codes", "sign", "zeros"]
abbrev s_encode_record : Stmt := top 14
theorem sc_encode_record : FnScope ["number", "text", "many", "pieces", "k", "index", "piece"] ["number", "text"] (defScope s_encode_record) := ⟨rfl, rfl, rfl, by decide +kernel, rfl, by decide +kernel, by decide +kernel⟩
abbrev n_encode_record : List Str := ["number", "text", "many", "pieces", "k", "index", "piece"]
abbrev s_is_code : Stmt := top 15
theorem sc_is_code : FnScope ["code"] ["code"] (defScope s_is_code) := ⟨rfl, rfl, rfl, by decide +kernel, rfl, by decide +kernel, by decide +kernel⟩
abbrev n_is_code : List Str := ["code"]
abbrev s_sign_of : Stmt := top 16
theorem sc_sign_of : FnScope ["code"] ["code"] (defScope s_sign_of) := ⟨rfl, rfl, rfl, by decide +kernel, rfl, by decide +kernel, by decide +kernel⟩
abbrev n_sign_of : List Str := ["code"]
abbrev s_decode_piece : Stmt := top 17
theorem sc_decode_piece : FnScope ["block", "mark", "index", "many", "high", "low", "count", "rest", "codes", "code", "byte"] ["block"] (defScope s_decode_piece) := ⟨rfl, rfl, rfl, by decide +kernel, rfl, by decide +kernel, by decide +kernel⟩
abbrev n_decode_piece : List Str := ["block", "mark", "index", "many", "high", "low", "count", "rest", "codes", "code", "byte"]
abbrev sCell : Stmt := top 19
theorem scCell : FnScope ["script", "k"] ["script", "k"] (defScope sCell) := ⟨rfl, rfl, rfl, by decide +kernel, rfl, by decide +kernel, by decide +kernel⟩
abbrev nCell : List Str := ["script", "k"]
abbrev sDigits : Stmt := top 20
theorem scDigits : FnScope ["script", "first", "last", "digits", "k", "cell", "turn", "seed"] ["script", "first", "last"] (defScope sDigits) := ⟨rfl, rfl, rfl, by decide +kernel, rfl, by decide +kernel, by decide +kernel⟩
abbrev nDigits : List Str := ["script", "first", "last", "digits", "k", "cell", "turn", "seed"]
abbrev sDraw : Stmt := top 21
theorem scDraw : FnScope ["box", "many", "at"] ["box", "many"] (defScope sDraw) := ⟨rfl, rfl, rfl, by decide +kernel, rfl, by decide +kernel, by decide +kernel⟩
abbrev nDraw : List Str := ["box", "many", "at"]
abbrev s_L_pieces : Stmt := top 22
theorem sc_L_pieces : FnScope ["number", "text", "blocks", "many", "k", "part", "block", "sign"] ["number", "text"] (defScope s_L_pieces) := ⟨rfl, rfl, rfl, by decide +kernel, rfl, by decide +kernel, by decide +kernel⟩
abbrev n_L_pieces : List Str := ["number", "text", "blocks", "many", "k", "part", "block", "sign"]
abbrev s_L_stored_text : Stmt := top 23
theorem sc_L_stored_text : FnScope ["box", "many", "signs", "text", "turn"] ["box", "many"] (defScope s_L_stored_text) := ⟨rfl, rfl, rfl, by decide +kernel, rfl, by decide +kernel, by decide +kernel⟩
abbrev n_L_stored_text : List Str := ["box", "many", "signs", "text", "turn"]
abbrev s_L_encoded : Stmt := top 24
theorem sc_L_encoded : FnScope ["number", "text", "e"] ["number", "text"] (defScope s_L_encoded) := ⟨rfl, rfl, rfl, by decide +kernel, rfl, by decide +kernel, by decide +kernel⟩
abbrev n_L_encoded : List Str := ["number", "text", "e"]
abbrev sLaw : Stmt := top 25
theorem scLaw : FnScope ["script", "box", "turn", "number", "many", "text", "due", "blocks", "k", "told", "sign"] ["script"] (defScope sLaw) := ⟨rfl, rfl, rfl, by decide +kernel, rfl, by decide +kernel, by decide +kernel⟩
abbrev nLaw : List Str := ["script", "box", "turn", "number", "many", "text", "due", "blocks", "k", "told", "sign"]
end KX

set_option maxRecDepth 100000
set_option maxHeartbeats 4000000
/-! G1: word, *items = a tuple; a local name called with what a list holds. -/
namespace Ga
open PySem PySem.Spec PyProof.Rows L2 TL
/-- (x, *y) = a tuple: the head, and a new list of the rest -/
def gHead (K : PySem.W.Frag) (t : TGs) : TG := fun v σ H Q => ∃ a x xs, v = .ref a ∧ SqT K H a (x :: xs) ∧ xs.length ≤ 1000 ∧ ∀ D, H D = none → t [x, .ref D] σ (upd H D (.lst xs)) Q
/-- the targets without their stars -/
def bare : List Expr → List Expr
  | [] => []
  | .Starred e _ :: r => e :: bare r
  | e :: r => e :: bare r
theorem pg_head {X : Cx} {K : PySem.W.Frag} (hK : X.K = K) {es : List Expr} {k : Nat} {t : TGs} {pos : Pos} (hc : X.calm = true) (h : PGs X (bare es) t) (hm : (assignEach es X.env).map (·.2) = (assignEach (bare es) X.env).map (·.2) := by rfl)
    (hn : (assignEach es X.env).length = 2 := by rfl) (hst : (assignEach es X.env).findIdx? (·.1) = some 1 := by rfl) : PG X (.Tuple es k pos) (gHead K t) := by
  subst hK
  refine ⟨fun pins s σ H v u Q I r hw => ?_⟩
  obtain ⟨a, x, xs, rfl, hq, hl, hw⟩ := hw
  obtain rfl : u = Value.ref a := r
  obtain ⟨its, rv, ht, hz⟩ := I.tuple hq
  obtain ⟨u1, us, rfl, r1, r2⟩ : ∃ u1 us, its = u1 :: us ∧ RelV x u1 ∧ Vals xs us := by
    cases rv with
    | cons a b => exact ⟨_, _, rfl, a, b⟩
  have hh : X.A.handled = none := I.ok.hd hc
  have tup : PyProof.Rows.IsTup s.heap a (u1 :: us).toArray := ht
  have hul : us.length = xs.length := r2.length.symm
  have ne : a ≠ s.heap.objs.size := by
    obtain ⟨o, ho, _⟩ := ht
    exact Nat.ne_of_lt (Heap.lt_size ho)
  rw [PyProof.Rows.assign_Tuple]
  refine wpAny_bind (wpAny_standAt ?_)
  unfold unpack
  rw [hn, hst]
  refine wpAny_bind (wpAny_holding ?_)
  unfold unpackItems notIterableAtAll
  refine wpAny_bind (wpAny_bind (wpAny_specialOf tup.typeIs PyProof.Rows.slot_tuple_iter.lookup (wpAny_pure ?_)))
  rw [if_neg (by simp)]
  refine wpAny_bind (wpAny_holding (PyProof.Rows.iter_tuple tup ?_))
  refine wpAny_bind (wpAny_holding (PyProof.Rows.draw_tuple ne 1 0 _ _ ⟨_, Heap.get?_push_size _ rfl, rfl, rfl⟩ (tup.push _) (by simp) fun h1 it1 sb1 => ?_))
  have t1 : PyProof.Rows.IsTup h1 a (u1 :: us).toArray := (tup.push _).extBut sb1.extBut ne
  obtain ⟨oi, hoi, _⟩ := id it1
  obtain ⟨ot, hot, _⟩ := id t1
  show wpAny _ _ (if ([u1] : List Value).length < 1 then _ else _) _ _ _
  rw [if_neg (by simp)]
  refine wpAny_bind (wpAny_holding (PySem.W.kun_collect (s := { s with heap := h1 }) (T := "tuple_iterator") (.inr (.inr (.inr rfl))) (Walks.tuple (A := X.A.in1) hh s.heap.objs.size a ne (u1 :: us).toArray) (fun j u st => st.1.typeIs) (k := 1) (by simp) ⟨it1, t1⟩
    (Heap.lt_size hoi) (Heap.lt_size hot) (fun h2 tk hk => ?_) (by simp; rw [sizeLine_eq]; omega)))
  have he : ∀ b o, s.heap.get? b = some o → h2.get? b = some o := fun b o e => hk b o (Nat.ne_of_lt (Heap.lt_size e)) (sb1.extBut b o (Nat.ne_of_lt (Heap.lt_size e)) (Heap.get?_push_of_some _ e))
  show wpAny _ _ (if us.length < 0 then _ else _) _ _ _
  rw [if_neg (by simp)]
  show wpAny _ _ (newList (us.take (us.length - 0)) >>= fun d => pure ([u1] ++ [d] ++ us.drop (us.length - 0))) _ _ _
  rw [Nat.sub_zero, List.take_length, List.drop_length]
  have I2 : Inv X pins σ H { s with heap := h2, toks := tk } := I.kept he
  have hus : us.length ≤ sizeLine := by rw [hul]; exact Nat.le_trans hl (by decide)
  refine wpAny_bind (wpAny_newList (wpAny_pure ?_) hus)
  have new : ObjOk X.prog X.w (upd H h2.objs.size (.lst xs)) (h2.push (seqObj "list" us.toArray 0)) h2.objs.size (.lst xs) := ⟨by omega, us, 0, r2, Heap.get?_push_size _ rfl⟩
  have I3 : Inv X pins σ (upd H h2.objs.size (.lst xs)) { s with heap := h2.push (seqObj "list" us.toArray 0), toks := tk } :=
    I2.laid (t' := tk) (fun b o e => Heap.get?_push_of_some _ e) (Nat.le_refl _) new
  rw [hm]
  exact h.run pins _ σ _ [x, .ref h2.objs.size] [u1, .ref h2.objs.size] Q I3 (.cons r1 (.cons rfl .nil)) (hw _ (I2.hok.fresh (Nat.le_refl _)))
/-- a def that a slot may hold, of the promise sp -/
def tCallV (i : Nat) (Rl : Addr → Sp → Prop) (E : XK) (t : TA) : TE := fun σ H Q => ∃ f sp, σ[i]? = some (some (.ref f)) ∧ Rl f sp ∧ t σ H fun vs H1 => sp vs H1 Q E
section
variable {X : Cx} {CX : CXT} {k i : Nat} {x : Str} {p pos : Pos} {e : Expr} {es : List Expr} {t : TA} {E : XK}
/-- x(e, *y), x a local name -/
theorem pe_callV {Rl : Addr → Sp → Prop} (hR : ∀ f sp, Rl f sp → FnR X.prog X.w X.K X.mg X.base CX k f sp ∧ PySem.W.keepIn X.K (.ref f) = true) (hr : Room k X.A) (hN : X.N[i]? = some x) (hv : Vis X.env.scope x) (hx : Passes CX X E) (ha : PA X (e :: es) t)
    (hdb : (x == ("__debug__" : Str)) = false := by decide) (hcd : (x == ("__classdict__" : Str)) = false := by decide) (he : starEach (e :: es) X.env = (false, eval e X.env) :: starEach es X.env := by rfl) (hst : (backTo pos (starEach es X.env)).any (·.1) = true := by rfl) :
    PE X (.Call (.Name x p) (e :: es) [] pos) (tCallV i Rl E t) := by
  refine ⟨fun pins s σ H Q I h => ?_⟩
  obtain ⟨f, sp, hs, hf, ht⟩ := h
  obtain ⟨F, hk⟩ := hR f sp hf
  refine wpAny_Call_Name_kw (thn ((pe_var (pos := p) hN hv hdb hcd).run pins s σ H (fun v H1 => v = .ref f ∧ H1 = H) I ⟨.ref f, hs, rfl, rfl⟩) fun u s1 ⟨v, H1, I1, r1, q1⟩ => ?_)
  obtain ⟨rfl, rfl⟩ := q1
  obtain rfl : u = Value.ref f := r1
  refine PySem.W.callWith_S2 (h₀ := X.base) I.ok.mod.kin hk (thn (ha.run pos pins s1 σ _ _ I1 ht) fun us s2 ⟨vs, H2, I2, r, q⟩ => ⟨I2.kIn, ?_⟩) he hst
  exact wpAny_call (run_fnR F hr hx I2 r q)
end
end Ga

set_option maxRecDepth 100000
set_option maxHeartbeats 4000000
/-! J1: some words, *items = a list. -/
namespace Ga
open PySem PySem.Spec PyProof.Rows L2 TL
/-- (x, y, .., *z) = a list: i heads, and a new list of the rest -/
def gStarL (K : PySem.W.Frag) (i : Nat) (t : TGs) : TG := fun v σ H Q => ∃ a xs, v = .ref a ∧ SqL K H a xs ∧ i ≤ xs.length ∧ xs.length ≤ 1000 ∧ ∀ D, H D = none → t (xs.take i ++ [.ref D]) σ (upd H D (.lst (xs.drop i))) Q
theorem vals_take {xs : List V} {us : List Value} (r : Vals xs us) (i : Nat) : Vals (xs.take i) (us.take i) := by
  induction r generalizing i with
  | nil => simp; exact .nil
  | cons h t ih => cases i with
    | zero => exact .nil
    | succ i => exact .cons h (ih i)
theorem vals_drop {xs : List V} {us : List Value} (r : Vals xs us) (i : Nat) : Vals (xs.drop i) (us.drop i) := by
  induction r generalizing i with
  | nil => simp; exact .nil
  | cons h t ih => cases i with
    | zero => exact .cons h t
    | succ i => exact ih i
theorem pg_starL {X : Cx} {K : PySem.W.Frag} (hK : X.K = K) {es : List Expr} {k i : Nat} {t : TGs} {pos : Pos} (hc : X.calm = true) (h : PGs X (bare es) t) (hm : (assignEach es X.env).map (·.2) = (assignEach (bare es) X.env).map (·.2) := by rfl)
    (hn : (assignEach es X.env).length = i + 1 := by rfl) (hst : (assignEach es X.env).findIdx? (·.1) = some i := by rfl) : PG X (.Tuple es k pos) (gStarL K i t) := by
  subst hK
  refine ⟨fun pins s σ H v u Q I r hw => ?_⟩
  obtain ⟨a, xs, rfl, hq, hi, hl, hw⟩ := hw
  obtain rfl : u = Value.ref a := r
  obtain ⟨us, rv, hp, hz⟩ := I.list hq
  have ht : s.heap.IsList a us.toArray := by
    obtain ⟨o, n, e1, e2, _, e3⟩ := hp
    exact ⟨o, e1, e2, n, e3⟩
  have hh : X.A.handled = none := I.ok.hd hc
  have hul : us.length = xs.length := rv.length.symm
  have ne : a ≠ s.heap.objs.size := by
    obtain ⟨o, ho, _⟩ := ht
    exact Nat.ne_of_lt (Heap.lt_size ho)
  rw [PyProof.Rows.assign_Tuple]
  refine wpAny_bind (wpAny_standAt ?_)
  unfold unpack
  rw [hn, hst]
  refine wpAny_bind (wpAny_holding ?_)
  unfold unpackItems notIterableAtAll
  refine wpAny_bind (wpAny_bind (wpAny_specialOf ht.typeIs slot_list_iter.lookup (wpAny_pure ?_)))
  rw [if_neg (by simp)]
  refine wpAny_bind (wpAny_holding (wpAny_pyIter_list ht ?_))
  refine wpAny_bind (wpAny_holding (PySem.W.kun_draw ne i 0 _ _ ⟨_, Heap.get?_push_size _ rfl, rfl, rfl⟩ (ht.push _) (by simp; omega) fun h1 it1 sb1 => ?_))
  have t1 : h1.IsList a us.toArray := (ht.push _).extBut sb1.extBut ne
  rw [Nat.zero_add] at it1
  obtain ⟨oi, hoi, _⟩ := id it1
  obtain ⟨ot, hot, _⟩ := id t1
  rw [List.drop_zero]
  have hfl : (us.take i).length = i := by rw [List.length_take]; omega
  show wpAny _ _ (if (us.take i).length < i then _ else _) _ _ _
  rw [if_neg (by rw [hfl]; omega)]
  refine wpAny_bind (wpAny_holding (PySem.W.kun_collect (s := { s with heap := h1 }) (T := "list_iterator") (.inr (.inr (.inl rfl))) (Walks.list (A := X.A.in1) hh s.heap.objs.size a ne us.toArray) (fun j u st => st.1.typeIs) (k := i) (by simp; omega) ⟨it1, t1⟩
    (Heap.lt_size hoi) (Heap.lt_size hot) (fun h2 tk hk => ?_) (by simp; rw [sizeLine_eq]; omega)))
  have he : ∀ b o, s.heap.get? b = some o → h2.get? b = some o := fun b o e => hk b o (Nat.ne_of_lt (Heap.lt_size e)) (sb1.extBut b o (Nat.ne_of_lt (Heap.lt_size e)) (Heap.get?_push_of_some _ e))
  have e0 : i + 1 - 1 - i = 0 := by omega
  show wpAny _ _ (if (us.drop i).length < i + 1 - 1 - i then _ else _) _ _ _
  rw [if_neg (by rw [e0]; omega)]
  show wpAny _ _ (newList ((us.drop i).take ((us.drop i).length - (i + 1 - 1 - i))) >>= fun d => pure (us.take i ++ [d] ++ (us.drop i).drop ((us.drop i).length - (i + 1 - 1 - i)))) _ _ _
  rw [e0, Nat.sub_zero, List.take_length, List.drop_length]
  have I2 : Inv X pins σ H { s with heap := h2, toks := tk } := I.kept he
  have hdl : (us.drop i).length ≤ sizeLine := by rw [List.length_drop]; exact Nat.le_trans (show _ ≤ 1000 by omega) (by decide)
  refine wpAny_bind (wpAny_newList (wpAny_pure ?_) hdl)
  have rd := vals_drop rv i
  have new : ObjOk X.prog X.w (upd H h2.objs.size (.lst (xs.drop i))) (h2.push (seqObj "list" (us.drop i).toArray 0)) h2.objs.size (.lst (xs.drop i)) := ⟨by rw [rd.length]; exact hdl, us.drop i, 0, rd, Heap.get?_push_size _ rfl⟩
  have I3 : Inv X pins σ (upd H h2.objs.size (.lst (xs.drop i))) { s with heap := h2.push (seqObj "list" (us.drop i).toArray 0), toks := tk } :=
    I2.laid (t' := tk) (fun b o e => Heap.get?_push_of_some _ e) (Nat.le_refl _) new
  rw [hm, List.append_nil]
  exact h.run pins _ σ _ (xs.take i ++ [.ref h2.objs.size]) (us.take i ++ [.ref h2.objs.size]) Q I3 ((vals_take rv i).append (.cons (show L2.RelV (V.ref h2.objs.size) (.ref h2.objs.size) from rfl) .nil)) (hw _ (I2.hok.fresh (Nat.le_refl _)))
end Ga

set_option maxRecDepth 100000
set_option maxHeartbeats 4000000
/-! J2: the rules by the written part's name. -/
namespace Ga
open PySem PySem.Spec PyProof.Rows L2 TL
section
variable {X : Cx} {K : PySem.W.Frag}
/-- len of a list or a tuple -/
def rLenQ (K : PySem.W.Frag) : List V → Hp → VK → Prop := fun xs H Q => ∃ p ys, xs = [.ref p] ∧ (SqL K H p ys ∨ SqT K H p ys) ∧ Q (.int ys.length) H
theorem kLen (h : X.K = K) : CallR X (.builtin "len") (rLenQ K) := by
  subst h
  exact call_len_seq
theorem kEq (h : X.K = K) (hu : X.A.units + 64 < cLine) : OpR X (compareOp .Eq) (rEqD K) := by
  subst h
  exact op_eqD hu
theorem kNe (h : X.K = K) (hu : X.A.units + 64 < cLine) : OpR X (compareOp .NotEq) (rNeD K) := by
  subst h
  exact op_neD hu
theorem kSlL (h : X.K = K) : SlR X (rSlL K) := by
  subst h
  exact sl_list
/-- list(xs) -/
def rListOf (K : PySem.W.Frag) : List V → Hp → VK → Prop := fun xs H Q => ∃ p ys, xs = [.ref p] ∧ (SqL K H p ys ∨ SqT K H p ys) ∧ ∀ l, H l = none → Q (.ref l) (upd H l (.lst ys))
theorem kList (h : X.K = K) : CallR X (.type "list") (rListOf K) := by
  subst h
  exact call_list_of
theorem kAll (h : X.K = K) (hc : X.calm = true) : CallR X (.builtin "all") (rAll K) := by
  subst h
  exact cr_all hc
theorem kAny (h : X.K = K) (hc : X.calm = true) : CallR X (.builtin "any") (rAny K) := by
  subst h
  exact cr_any hc
end
end Ga

set_option maxRecDepth 100000
set_option maxHeartbeats 4000000
/-! B0: what every law's text has: cells, digits, draws; defs that may be called. -/
namespace KX
open PySem PySem.Spec PyProof.Rows L2 TL Ga
/-- an int out of the script -/
def spCell (K : PySem.W.Frag) : Sp := fun vs H Q _ => ∃ (a : Addr) (ns : List Int) (k : Int), vs = [.ref a, .int k] ∧ SqL K H a (ns.map V.int) ∧ 0 ≤ k ∧ ∀ z : Int, Q (.int z) H
/-- a new list of ints -/
def spDigits (K : PySem.W.Frag) : Sp := fun vs H Q _ => ∃ (a : Addr) (ns : List Int) (u v : Int), vs = [.ref a, .int u, .int v] ∧ SqL K H a (ns.map V.int) ∧ 0 ≤ u ∧ u ≤ 1000 ∧ 0 ≤ v ∧ v ≤ 1000 ∧
  ∀ (p : Addr) (H' : Hp) (ds : List Int), Same H H' → H p = none → H' p = some (.lst (ds.map V.int)) → Q (.ref p) H'
section
variable {P : Program} {w : World} {K : PySem.W.Frag} {mg : Str → Option Value} {base : Heap}
theorem ok_cell {f : Addr} {fd : FuncData} (F : Fun K "_law_cell" "_law_cell" sCell f fd) (T : Tx mg) : FnOk P w K mg base CX0 1 f fd ["script", "k"] (spCell K) := by
  refine F.ok scCell (fun vs H Q E h => ?_) (fun cdv A outer s H vs Q E hr h => ?_)
  · obtain ⟨a, z, k, rfl, _⟩ := h
    rfl
  · obtain ⟨a, ns, k, rfl, hS, hk, q⟩ := h
    refine ⟨_, pss_cons (ps_if (pt_cmpR op_lt (pv 1) (pe_callB call_len_seq (by rfl) T.len PySem.boot_len (pa_cons (pv 0) pa_nil)) (nomark _)) (pss_one (ps_ret (pe_ix ix_list (pv 0) (pv 1) (fun _ _ => rfl)))) pss_nil)
      (pss_one (ps_ret pe_int)), ?_⟩
    refine ⟨_, rfl, _, rfl, a, _, rfl, .inl hS, _, _, rfl, rfl, _, rfl, ite2 (fun e => ?_) (fun e => ?_)⟩
    · have e1 : k < ((ns.map V.int).length : Int) := of_decide_eq_true e
      rw [List.length_map] at e1
      have h1 : k.toNat < ns.length := by omega
      refine ⟨_, rfl, _, rfl, a, _, _, .int ns[k.toNat], rfl, rfl, hS, ?_, q _⟩
      exact at_of (j := k.toNat) (by omega) (by rw [List.getElem?_map, List.getElem?_eq_getElem h1]; rfl)
    · exact q 0
theorem ok_draw {f : Addr} {fd : FuncData} (F : Fun K "_law_draw" "_law_draw" sDraw f fd) (T : Tx mg) : FnOk P w K mg base CX0 1 f fd ["box", "many"] spDraw := by
  refine F.ok scDraw (fun vs H Q E h => ?_) (fun cdv A outer s H vs Q E hr h => ?_)
  · obtain ⟨B, D, m, rfl, _⟩ := h
    rfl
  · obtain ⟨B, D, m, rfl, hm, bx, q⟩ := h
    obtain ⟨ds, i, hB, hi, hne, hD⟩ := bx.ex
    have ix0 : ∀ {X : Cx}, IxR X (rIxL X.K) := ix_list
    refine ⟨_, pss_cons (ps_set (i := 2) scDraw.nd rfl (.inl rfl) (pe_ix ix_list (pv 0) pe_int (fun _ _ => rfl)))
      (pss_cons (ps_asg (pe_op op_add (pv 2) pe_int) (pg_sub (pv 0) pe_int set_list))
      (pss_cons (ps_if (pt_cmpR op_lt (pv 2) (pe_callB call_len_seq (by rfl) T.len PySem.boot_len (pa_cons (pe_ix ix_list (pv 0) pe_int (fun _ _ => rfl)) pa_nil)) (nomark _))
          (pss_one (ps_ret (pe_op op_mod (pe_callTy call_int1 (by rfl) T.int (by decide +kernel) (pa_cons (pe_ix ix_list (pe_ix ix_list (pv 0) pe_int (fun _ _ => rfl)) (pv 2) (fun _ _ => rfl)) pa_nil)) (pv 1)))) pss_nil)
      (pss_one (ps_ret (pe_op op_mod (pe_callTy call_int1 (by rfl) T.int (by decide +kernel) (pa_cons (pe_op op_add (pe_op op_mul (pv 2) pe_int) pe_int) pa_nil)) (pv 1)))))), ?_⟩
    refine ⟨_, rfl, _, _, _, _, rfl, rfl, sqL hB, atI_nat (j := 1) rfl, _, rfl, _, _, rfl, rfl, _, rfl, B, _, _, 1, rfl, rfl, hB, rfl, ?_⟩
    have hB2 : (upd H B (.lst [.ref D, .int (i + 1)])) B = some (.lst [.ref D, .int (i + 1)]) := upd_same
    have hD2 : (upd H B (.lst [.ref D, .int (i + 1)])) D = some (.lst (ds.map V.int)) := by rw [upd_ne hne]; exact hD
    have kp : Kp B H (upd H B (.lst [.ref D, .int (i + 1)])) := fun b o n e => by rw [upd_ne n]; exact e
    have bx2 : Box (upd H B (.lst [.ref D, .int (i + 1)])) B D := ⟨ds, i + 1, hB2, by omega, hne, hD2⟩
    refine ⟨_, rfl, _, rfl, _, _, _, _, rfl, rfl, sqL hB2, atI_nat (j := 0) rfl, D, _, rfl, .inl (sqL hD2), _, _, rfl, rfl, _, rfl, ite2 (fun e => ?_) (fun e => ?_)⟩
    · have e1 : i < ((ds.map V.int).length : Int) := of_decide_eq_true e
      rw [List.length_map] at e1
      have h1 : i.toNat < ds.length := by omega
      refine ⟨_, rfl, _, _, _, _, rfl, rfl, sqL hB2, atI_nat (j := 0) rfl, _, rfl, D, _, _, .int ds[i.toNat], rfl, rfl, sqL hD2, at_of (j := i.toNat) (by omega) (by rw [List.getElem?_map, List.getElem?_eq_getElem h1]; rfl), .inl ⟨_, rfl, ?_⟩⟩
      exact ⟨_, rfl, _, _, rfl, rfl, hm, q _ _ (Int.emod_nonneg _ (by omega)) (Int.emod_lt_of_pos _ hm) kp bx2⟩
    · refine ⟨_, rfl, _, _, rfl, rfl, .inr ⟨by decide, by decide⟩, _, _, rfl, rfl, .inl ⟨_, rfl, ?_⟩⟩
      exact ⟨_, rfl, _, _, rfl, rfl, hm, q _ _ (Int.emod_nonneg _ (by omega)) (Int.emod_lt_of_pos _ hm) kp bx2⟩
theorem ok_digits {f f1 : Addr} {fd fd1 : FuncData} (F : Fun K "_law_digits" "_law_digits" sDigits f fd) (T : Tx mg) (G1 : FnOk P w K mg base CX0 1 f1 fd1 ["script", "k"] (spCell K))
    (g1 : mg "_law_cell" = some (.ref f1)) (k1 : PySem.W.keepIn K (.ref f1) = true) (b1 : Binds K fd1 ["script", "k"] []) : FnOk P w K mg base CX0 2 f fd ["script", "first", "last"] (spDigits K) := by
  refine F.ok scDigits (fun vs H Q E h => ?_) (fun cdv A outer s H vs Q E hr h => ?_)
  · obtain ⟨a, z, u, v, rfl, _⟩ := h
    rfl
  · obtain ⟨a, ns, u, v, rfl, hS, hu, hu2, hv, hv2, q⟩ := h
    refine ⟨_, pss_cons (ps_set (i := 3) scDigits.nd rfl (.inl rfl) (pe_lst pa_nil))
      (pss_cons (ps_for PassesOwn.never rfl (pi_range2 (by rfl) T.range (pa_cons (pv 1) (pa_cons (pv 2) pa_nil))) (pg_name (i := 4) scDigits.nd rfl (Or.inl rfl))
        (pss_cons (ps_set (i := 5) scDigits.nd rfl (.inl rfl) (pe_call G1 hr (by rfl) g1 k1 b1 .nil pass0 (pa_cons (pv 0) (pa_cons (pv 4) pa_nil))))
        (pss_cons (ps_if (pt_cmpR op_lt (pv 5) pe_int (nomark _)) (pss_one (ps_set (i := 5) scDigits.nd rfl (.inl rfl) (pe_op op_sub pe_int (pe_op op_mul pe_int (pv 5))))) pss_nil)
        (pss_one (ps_if (pt_cmpR op_ge (pv 5) pe_int (nomark _))
          (pss_one (ps_for PassesOwn.never rfl (pi_range1 (by rfl) T.range (pa_cons pe_int pa_nil)) (pg_name (i := 6) scDigits.nd rfl (Or.inl rfl))
            (pss_one (ps_if (pt_cmpR op_gt (pv 5) pe_int (nomark _))
              (pss_cons (ps_expr (pe_bm PySem.F.plainAttrs_list PySem.F.slot_list_append PySem.F.type_list_append mt_append (pv 3) (pa_cons (pe_op op_mod (pe_callTy call_int1 (by rfl) T.int (by decide +kernel) (pa_cons (pv 5) pa_nil)) pe_int) pa_nil)))
              (pss_one (ps_set (i := 5) scDigits.nd rfl (.inl rfl) (pe_op op_fdiv (pv 5) pe_int)))) pss_nil))))
          (pss_cons (ps_set (i := 7) scDigits.nd rfl (.inl rfl) (pe_op op_mod (pe_callTy call_int1 (by rfl) T.int (by decide +kernel) (pa_cons (pe_op op_add (pe_op op_add (pe_op op_mul (pv 5) pe_int) (pe_op op_mul (pv 4) pe_int)) pe_int) pa_nil)) pe_int))
          (pss_one (ps_for PassesOwn.never rfl (pi_range1 (by rfl) T.range (pa_cons pe_int pa_nil)) (pg_name (i := 6) scDigits.nd rfl (Or.inl rfl))
            (pss_cons (ps_set (i := 7) scDigits.nd rfl (.inl rfl) (pe_op op_mod (pe_callTy call_int1 (by rfl) T.int (by decide +kernel) (pa_cons (pe_op op_add (pe_op op_add (pe_op op_mul (pv 7) pe_int) (pe_op op_mul pe_int (pv 6))) pe_int) pa_nil)) pe_int))
            (pss_one (ps_expr (pe_bm PySem.F.plainAttrs_list PySem.F.slot_list_append PySem.F.type_list_append mt_append (pv 3) (pa_cons (pe_op op_mod (pe_callTy call_int1 (by rfl) T.int (by decide +kernel) (pa_cons (pe_op op_fdiv (pv 7) pe_int) pa_nil)) pe_int) pa_nil)))))))))))))
      (pss_one (ps_ret (pv 3)))), ?_⟩
    refine ⟨Nat.zero_le _, fun p np => ?_⟩
    have hpow : (2 : Int) ^ 62 = 4611686018427387904 := by decide
    refine ⟨_, rfl, _, rfl, u, v, rfl, ⟨by omega, by omega, by omega, by omega⟩, ?_⟩
    refine for_range (lo := u) (n := (v - u).toNat) (fun i σ H' => ∃ (k' c' t' s' : Option V) (ds : List Int), σ = [some (.ref a), some (.int u), some (.int v), some (.ref p), k', c', t', s'] ∧ Same H H' ∧
      H' p = some (.lst (ds.map V.int)) ∧ ds.length ≤ 60 * i) ⟨none, none, none, none, [], rfl, same_upd np, upd_same, by simp⟩ ?_ ?_
    · rintro i σ H1 hi ⟨k', c', t', s', ds, rfl, s1, hp, hl⟩
      have hi2 : i < 1000 := by omega
      refine ⟨_, rfl, _, rfl, a, ns, _, rfl, s1.seq hS, by omega, fun z0 => ?_⟩
      refine ⟨_, rfl, _, _, rfl, rfl, _, rfl, ite2 (fun e0 => ⟨_, rfl, _, _, rfl, rfl, .inl ⟨by decide, by decide⟩, _, _, rfl, rfl, ?_⟩) (fun e0 => ?_)⟩
      all_goals
        refine ⟨_, rfl, _, _, rfl, rfl, _, rfl, ite2 (fun e1 => ?_) (fun e1 => ?_)⟩
        · refine ⟨60, rfl, by decide, by decide, for_range (lo := 0) (n := 60) (fun j σ H' => ∃ (c' : Int) (t' : Option V) (ds : List Int), σ = [some (.ref a), some (.int u), some (.int v), some (.ref p), some (.int (u + i)), some (.int c'), t', s'] ∧ Same H H' ∧
            H' p = some (.lst (ds.map V.int)) ∧ ds.length ≤ 60 * i + j) ⟨_, _, ds, rfl, s1, hp, by omega⟩ ?_ ?_⟩
          · rintro j σ H2 hj ⟨c2, t2, ds2, rfl, s2, hp2, hl2⟩
            refine ⟨_, rfl, _, _, rfl, rfl, _, rfl, ite2 (fun _ => ?_) (fun _ => ?_)⟩
            · refine ⟨_, rfl, .inl ⟨rfl, _, sqL hp2⟩, _, rfl, .inl ⟨_, rfl, _, _, rfl, rfl, (by show (0 : Int) < 1000; decide), p, _, _, rfl, rfl, hp2, ?_, ?_⟩⟩
              · rw [List.length_map]
                exact Nat.lt_of_le_of_lt (show _ ≤ 100000 by omega) (by decide)
              · refine ⟨_, rfl, _, _, rfl, rfl, ⟨by decide, by decide⟩, ?_⟩
                exact ⟨_, _, ds2 ++ [_], rfl, s2.mut np, by rw [upd_same, List.map_append]; rfl, by rw [List.length_append]; show ds2.length + 1 ≤ _; omega⟩
            · exact ⟨c2, _, ds2, rfl, s2, hp2, by omega⟩
          · rintro σ H2 ⟨c2, t2, ds2, rfl, s2, hp2, hl2⟩
            exact ⟨_, _, _, _, ds2, rfl, s2, hp2, by omega⟩
        · refine ⟨_, rfl, _, _, rfl, rfl, .inr ⟨by decide, by decide⟩, _, rfl, _, _, rfl, rfl, .inr ⟨by decide, by decide⟩, _, _, rfl, rfl, _, _, rfl, rfl, .inl ⟨_, rfl, _, _, rfl, rfl, (by show (0 : Int) < 2147483399; decide), ?_⟩⟩
          refine ⟨12, rfl, by decide, by decide, for_range (lo := 0) (n := 12) (fun j σ H' => ∃ (c' : Int) (t' : Option V) (w : Int) (ds : List Int), σ = [some (.ref a), some (.int u), some (.int v), some (.ref p), some (.int (u + i)), some (.int c'), t', some (.int w)] ∧ Same H H' ∧
            H' p = some (.lst (ds.map V.int)) ∧ ds.length ≤ 60 * i + j) ⟨_, _, _, ds, rfl, s1, hp, by omega⟩ ?_ ?_⟩
          · rintro j σ H2 hj ⟨c2, t2, w2, ds2, rfl, s2, hp2, hl2⟩
            refine ⟨_, rfl, _, _, rfl, rfl, .inr ⟨by decide, by decide⟩, _, rfl, _, _, rfl, rfl, .inl ⟨by decide, by decide⟩, _, _, rfl, rfl, _, _, rfl, rfl, .inl ⟨_, rfl, _, _, rfl, rfl, (by show (0 : Int) < 2147483563; decide), ?_⟩⟩
            refine ⟨_, rfl, .inl ⟨rfl, _, sqL hp2⟩, _, rfl, _, _, rfl, rfl, ⟨by decide, by decide⟩, .inl ⟨_, rfl, _, _, rfl, rfl, (by show (0 : Int) < 1000; decide), p, _, _, rfl, rfl, hp2, ?_, ?_⟩⟩
            · rw [List.length_map]
              exact Nat.lt_of_le_of_lt (show _ ≤ 100000 by omega) (by decide)
            · exact ⟨_, _, _, ds2 ++ [_], rfl, s2.mut np, by rw [upd_same, List.map_append]; rfl, by rw [List.length_append]; show ds2.length + 1 ≤ _; omega⟩
          · rintro σ H2 ⟨c2, t2, w2, ds2, rfl, s2, hp2, hl2⟩
            exact ⟨_, _, _, _, ds2, rfl, s2, hp2, by omega⟩
    · rintro σ H1 ⟨k', c', t', s', ds, rfl, s1, hp, hl⟩
      exact ⟨_, rfl, q p H1 ds s1 np hp⟩
end
def okc (c : Nat) : Bool := decide (32 ≤ c) && (decide (c ≤ 126) && !decide (c = 37))
def okText (n : Nat) (z : Str) : Prop := (tl z).length ≤ n ∧ (tl z).all okc = true
instance (n : Nat) (z : Str) : Decidable (okText n z) := inferInstanceAs (Decidable (_ ∧ _))
theorem okText.mono {m n : Nat} {z : Str} (h : okText m z) (l : m ≤ n) : okText n z := ⟨Nat.le_trans h.1 l, h.2⟩
theorem okText.app {m n : Nat} {x y : Str} (h : okText m x) (g : okText n y) : okText (m + n) (x ++ y) := by
  refine ⟨?_, ?_⟩
  · rw [tl_append, List.length_append]
    exact Nat.add_le_add h.1 g.1
  · rw [tl_append, List.all_append, h.2, g.2]
    rfl
theorem okText.len {n : Nat} {z : Str} (h : okText n z) (l : n ≤ 100000) : z.length ≤ sizeLine := by
  rw [len_tl]
  exact Nat.le_trans (Nat.le_trans h.1 l) (by decide)
/-- all of these values are texts of at most n signs that may be -/
theorem strOk_of {z : Str} (h : ∀ c ∈ tl z, okc c = true) : PyData.strOk z = true := by
  show z.cps.all (· < 0x110000) = true
  rw [← Array.all_toList, List.all_eq_true]
  intro c hc
  have h2 := h c hc
  unfold okc at h2
  rw [Bool.and_eq_true, Bool.and_eq_true, decide_eq_true_eq, decide_eq_true_eq] at h2
  exact decide_eq_true (by omega)
/-- data of truths may be shown -/
def Sh (d : PyData) : Prop := d.showable = true ∧ d.hasDict = false ∧ d.depth ≤ 40 ∧ d.shown.length ≤ sizeLine
section
variable {K : PySem.W.Frag} {H : Hp} {Q : VK} {σ : L2.St} {v : V} {p q : Bool} {te ta tb tc td : TE}
/-- a value, whatever more stands by then; nothing is changed -/
def EvS (te : TE) (σ : L2.St) (H : Hp) (v : V) : Prop := ∀ H1, Same H H1 → ∀ Q : VK, (∀ H2, Same H1 H2 → Q v H2) → te σ H1 Q
theorem evVar {i : Nat} (h : σ[i]? = some (some v)) : EvS (tVar i) σ H v := fun H1 _ Q q => ⟨v, h, q H1 (.refl _)⟩
theorem evAnd (ha : EvS ta σ H (.bl p)) (hb : EvS tb σ H (.bl q)) : EvS (tAndV ta tb) σ H (.bl (p && q)) := fun H1 s Q k => by
  refine ha H1 s _ fun H2 s2 => ⟨p, rfl, ?_⟩
  cases p with
  | true =>
    rw [if_pos rfl]
    exact hb H2 (s.trans s2) _ fun H3 s3 => k H3 (s2.trans s3)
  | false =>
    rw [if_neg Bool.false_ne_true]
    exact k H2 s2
theorem evOr (ha : EvS ta σ H (.bl p)) (hb : EvS tb σ H (.bl q)) : EvS (tOrV ta tb) σ H (.bl (p || q)) := fun H1 s Q k => by
  refine ha H1 s _ fun H2 s2 => ⟨p, rfl, ?_⟩
  cases p with
  | true =>
    rw [if_pos rfl]
    exact k H2 s2
  | false =>
    rw [if_neg Bool.false_ne_true]
    exact hb H2 (s.trans s2) _ fun H3 s3 => k H3 (s2.trans s3)
end
/-- a def of the text that may be called -/
structure Cal (P : Program) (w : World) (K : PySem.W.Frag) (mg : Str → Option Value) (base : Heap) (k : Nat) (x : Str) (ps : List Str) (sp : Sp) : Prop where
  ex : ∃ (f : Addr) (fd : FuncData), FnOk P w K mg base CX0 k f fd ps sp ∧ mg x = some (.ref f) ∧ PySem.W.keepIn K (.ref f) = true ∧ Binds K fd ps []
structure CalG (P : Program) (w : World) (K : PySem.W.Frag) (mg : Str → Option Value) (base : Heap) (k : Nat) (x : Str) (ps : List Str) (sp : Sp) : Prop where
  ex : ∃ (f : Addr) (fd : FuncData), FnG P w K mg base CX0 k f fd ps sp ∧ mg x = some (.ref f) ∧ PySem.W.keepIn K (.ref f) = true ∧ Binds K fd ps []
def spLaw (K : PySem.W.Frag) : Sp := fun vs H Q _ => ∃ (a : Addr) (ns : List Int), vs = [.ref a] ∧ SqL K H a (ns.map V.int) ∧ ns.length ≤ 63 ∧ ∀ H', Q (.bl true) H'
structure CalX (P : Program) (w : World) (K : PySem.W.Frag) (mg : Str → Option Value) (base : Heap) (k : Nat) (x : Str) (ps : List Str) (sp : Sp) : Prop where
  ex : ∃ (f : Addr) (fd : FuncData), FnOk P w K mg base (L2.CX P w) k f fd ps sp ∧ mg x = some (.ref f) ∧ PySem.W.keepIn K (.ref f) = true ∧ Binds K fd ps []
structure MCal (P : Program) (w : World) (K : PySem.W.Frag) (mg : Str → Option Value) (base : Heap) (C : Addr) (k : Nat) (m : Str) (ps : List Str) (sp : Sp) : Prop where
  ex : ∃ (f : Addr) (fd : FuncData), FnOk P w K mg base CX0 k f fd ps sp ∧ Meth K C m f ∧ Binds K fd ps []
section
variable {X : Cx} {k n : Nat} {C : Addr} {x m : Str} {ps : List Str} {sp : Sp} {e o : Expr} {es : List Expr} {t : TA} {ta : TE} {p pos apos cpos : Pos}
theorem pe_cal (S : Cal X.prog X.w X.K X.mg X.base k x ps sp) (hr : Room n X.A) (hx : Passes CX0 X E0) (ha : PA X (e :: es) t) (hk : k ≤ n := by decide) (hg : Gl X x := by rfl) (hdb : (x == ("__debug__" : Str)) = false := by decide)
    (he : starEach (e :: es) X.env = (false, eval e X.env) :: starEach es X.env := by rfl) (hpl : (backTo pos (starEach es X.env)).any (·.1) = false := by rfl) : PE X (.Call (.Name x p) (e :: es) [] pos) (tCall sp [] E0 t) := by
  obtain ⟨f, fd, F, g, kp, b⟩ := S.ex
  exact pe_call F (hr.mono hk) hg g kp b .nil hx ha hdb he hpl
theorem pe_calX {E : XK} (S : CalX X.prog X.w X.K X.mg X.base k x ps sp) (hr : Room n X.A) (hx : Passes (L2.CX X.prog X.w) X E) (ha : PA X (e :: es) t) (hk : k ≤ n := by decide) (hg : Gl X x := by rfl) (hdb : (x == ("__debug__" : Str)) = false := by decide)
    (he : starEach (e :: es) X.env = (false, eval e X.env) :: starEach es X.env := by rfl) (hpl : (backTo pos (starEach es X.env)).any (·.1) = false := by rfl) : PE X (.Call (.Name x p) (e :: es) [] pos) (tCall sp [] E t) := by
  obtain ⟨f, fd, F, g, kp, b⟩ := S.ex
  exact pe_call F (hr.mono hk) hg g kp b .nil hx ha hdb he hpl
theorem Cal.mono (S : Cal X.prog X.w X.K X.mg X.base k x ps sp) : True := trivial
end
section
variable {P : Program} {w : World} {K : PySem.W.Frag} {mg : Str → Option Value} {base : Heap}
theorem ok_digitsC {f : Addr} {fd : FuncData} (F : Fun K "_law_digits" "_law_digits" sDigits f fd) (T : Tx mg) (S : Cal P w K mg base 1 "_law_cell" ["script", "k"] (spCell K)) : FnOk P w K mg base CX0 2 f fd ["script", "first", "last"] (spDigits K) := by
  obtain ⟨f1, fd1, G1, g1, k1, b1⟩ := S.ex
  exact ok_digits F T G1 g1 k1 b1
end
end KX

set_option maxRecDepth 100000
set_option maxHeartbeats 4000000
/-! J3: blocks of 32 numbers, read as pieces. -/
namespace Ga
open PySem PySem.Spec PyProof.Rows L2 TL
abbrev iv (ns : List Int) : List V := ns.map V.int
def IsB (ns : List Int) : Prop := ns.length = 32 ∧ ∀ x ∈ ns, 0 ≤ x ∧ x ≤ 255
def isCode (c : Int) : Bool := decide (c = 10) || (decide (32 ≤ c) && decide (c ≤ 126) && !decide (c = 37))
def signOf (c : Int) : Str := ⟨#[c.toNat]⟩
def textOf (cs : List Int) : Str := ⟨(cs.map Int.toNat).toArray⟩
def codesM (ns : List Int) : List Int := (ns.drop 6).take (ns.getD 5 0).toNat
def restM (ns : List Int) : List Int := (ns.drop (6 + (ns.getD 5 0).toNat)).take (25 - (ns.getD 5 0).toNat)
/-- what the marks and counts say -/
def headM (ns : List Int) : Bool := !(decide (ns.getD 0 0 ≠ 76) || (decide (ns.getD 31 0 ≠ 76) || (decide (ns.getD 1 0 ≥ ns.getD 2 0) || decide (ns.getD 5 0 > 24))))
def okM (ns : List Int) : Bool := headM ns && ((codesM ns).all isCode && (restM ns).all fun b => decide (b = 0))
def decM (ns : List Int) : Option (Int × Int × Int × Str) := if okM ns = true then some (ns.getD 1 0, ns.getD 2 0, 256 * ns.getD 3 0 + ns.getD 4 0, textOf (codesM ns)) else none
def decD (ns : List Int) : PyData := match decM ns with
  | none => .none
  | some (a, b, c, t) => .tuple [.int a, .int b, .int c, .str t]
def dI (ns : List Int) : PyData := .list (ns.map PyData.int)
theorem dp_ints {K : PySem.W.Frag} {H : Hp} : ∀ ns : List Int, DpAll K H (iv ns) (ns.map PyData.int)
  | [] => .nil
  | z :: r => .cons (.int z) (dp_ints r)
theorem can_ints : ∀ l : List Int, PyData.canLayAll0 (l.map PyData.int) = true
  | [] => rfl
  | z :: r => by
    show (true && PyData.canLayAll0 (r.map PyData.int)) = true
    rw [can_ints r]
    rfl
theorem depth_ints : ∀ l : List Int, PyData.depthAll (l.map PyData.int) = 0
  | [] => rfl
  | z :: r => by
    show max 0 (PyData.depthAll (r.map PyData.int)) = 0
    rw [depth_ints r]
    rfl
theorem shaped_ints (l : List Int) : SeqAt.shaped (dI l) = true := by
  unfold SeqAt.shaped dI
  rw [show PyData.canLay0 (.list (l.map PyData.int)) = PyData.canLayAll0 (l.map PyData.int) from rfl, can_ints l,
    show PyData.depth (.list (l.map PyData.int)) = PyData.depthAll (l.map PyData.int) + 1 from rfl, depth_ints]
  rfl
theorem eqv_refl' {d : PyData} (h : SeqAt.shaped d = true) : PyData.eqv d d = true := SeqAt.eqv_refl d (SeqAt.canLay_of_shaped h)
theorem tl_textOf (cs : List Int) : tl (textOf cs) = cs.map Int.toNat := by simp [textOf, tl]
theorem text_strOk {cs : List Int} (h : cs.all isCode = true) : PyData.strOk (textOf cs) = true := by
  show (textOf cs).cps.all (· < 0x110000) = true
  rw [← Array.all_toList, List.all_eq_true]
  intro c hc
  have hc2 : c ∈ cs.map Int.toNat := by rw [← tl_textOf]; exact hc
  obtain ⟨x, hx, rfl⟩ := List.mem_map.mp hc2
  have h2 := List.all_eq_true.mp h x hx
  unfold isCode at h2
  simp only [Bool.or_eq_true, Bool.and_eq_true, decide_eq_true_eq] at h2
  exact decide_eq_true (by omega)
theorem shaped_dec (ns : List Int) : SeqAt.shaped (decD ns) = true := by
  unfold decD decM
  by_cases h : okM ns = true
  · rw [if_pos h]
    unfold okM at h
    rw [Bool.and_eq_true, Bool.and_eq_true] at h
    have hs := text_strOk h.2.1
    show (PyData.canLayAll0 [_, _, _, _] && _) = true
    have e : PyData.canLayAll0 [PyData.int (ns.getD 1 0), .int (ns.getD 2 0), .int (256 * ns.getD 3 0 + ns.getD 4 0), .str (textOf (codesM ns))] = PyData.strOk (textOf (codesM ns)) := by
      show (true && (true && (true && (PyData.strOk (textOf (codesM ns)) && true)))) = _
      simp
    rw [e, hs]
    rfl
  · rw [if_neg h]
    rfl
theorem paired_and {α β : Type} {R : α → β → Prop} {p : α → Prop} : ∀ {l : List α} {m : List β}, Paired R l m → (∀ a ∈ l, p a) → Paired (fun a b => p a ∧ R a b) l m
  | _, _, .nil, _ => .nil
  | _, _, .cons h t, k => .cons ⟨k _ List.mem_cons_self, h⟩ (paired_and t fun a ha => k a (List.mem_cons_of_mem _ ha))
theorem paired_len {α β : Type} {R : α → β → Prop} : ∀ {l : List α} {m : List β}, Paired R l m → l.length = m.length
  | _, _, .nil => rfl
  | _, _, .cons _ t => by rw [List.length_cons, List.length_cons, paired_len t]
theorem flat_one {α : Type} (x : α) : ∀ n : Nat, (List.replicate n [x]).flatten = List.replicate n x
  | 0 => rfl
  | n + 1 => by rw [List.replicate_succ, List.flatten_cons, flat_one x n]; rfl
/-! ### a block's parts -/
theorem IsB.get {ns : List Int} (h : IsB ns) {i : Nat} (hi : i < 32) : ns[i]? = some (ns.getD i 0) ∧ 0 ≤ ns.getD i 0 ∧ ns.getD i 0 ≤ 255 := by
  have hl : i < ns.length := by rw [h.1]; exact hi
  have e : ns.getD i 0 = ns[i] := by rw [List.getD_eq_getElem?_getD, List.getElem?_eq_getElem hl]; rfl
  rw [e]
  exact ⟨List.getElem?_eq_getElem hl, h.2 _ (List.getElem_mem hl)⟩
theorem IsB.at {ns : List Int} (h : IsB ns) {i : Nat} (hi : i < 32) : atI (iv ns) ((i : Nat) : Int) = some (V.int (ns.getD i 0)) :=
  atI_nat (by rw [List.getElem?_map, (h.get hi).1]; rfl)
theorem cut_nat (xs : List V) (a b : Nat) (hb : b ≤ xs.length) : cutV xs (some (a : Int)) (some (b : Int)) = (xs.drop a).take (b - a) := by
  unfold cutV
  rw [show HT.sIx xs.length 0 (some (a : Int)) = min a xs.length from HT.sIx_nat _ _ _, show HT.sIx xs.length xs.length (some (b : Int)) = min b xs.length from HT.sIx_nat _ _ _, Nat.min_eq_left hb]
  rcases Nat.lt_or_ge a xs.length with h | h
  · rw [Nat.min_eq_left (Nat.le_of_lt h)]
  · rw [Nat.min_eq_right h, List.drop_eq_nil_of_le (Nat.le_refl _), List.drop_eq_nil_of_le h, List.take_nil, List.take_nil]
theorem cut_to (xs : List V) (b : Nat) : cutV xs none (some (b : Int)) = xs.take b := by
  unfold cutV
  rw [show HT.sIx xs.length 0 none = 0 from rfl, show HT.sIx xs.length xs.length (some (b : Int)) = min b xs.length from HT.sIx_nat _ _ _, List.drop_zero, Nat.sub_zero]
  exact List.take_eq_take_min.symm
theorem cut_from (xs : List V) (a : Nat) : cutV xs (some (a : Int)) none = xs.drop a := by
  unfold cutV
  rw [show HT.sIx xs.length 0 (some (a : Int)) = min a xs.length from HT.sIx_nat _ _ _, show HT.sIx xs.length xs.length none = xs.length from rfl]
  rcases Nat.lt_or_ge a xs.length with h | h
  · rw [Nat.min_eq_left (Nat.le_of_lt h), List.take_of_length_le (by rw [List.length_drop]; exact Nat.le_refl _)]
  · rw [Nat.min_eq_right h, List.drop_eq_nil_of_le (Nat.le_refl _), List.drop_eq_nil_of_le h, List.take_nil]
/-- rest[count:-1] -/
theorem cut_back (xs : List V) (a : Nat) (hne : xs ≠ []) : cutV xs (some (a : Int)) (some (-1)) = (xs.drop a).take (xs.length - 1 - a) := by
  have h0 : 0 < xs.length := List.length_pos_iff.mpr hne
  have e : (HT.sIx xs.length xs.length (some (-1))) = xs.length - 1 := by
    show (if (-1 : Int) < 0 then ((-1 : Int) + (xs.length : Int)).toNat else min (-1 : Int).toNat xs.length) = _
    rw [if_pos (by decide)]
    omega
  unfold cutV
  rw [show HT.sIx xs.length 0 (some (a : Int)) = min a xs.length from HT.sIx_nat _ _ _, e]
  rcases Nat.lt_or_ge a xs.length with h | h
  · rw [Nat.min_eq_left (Nat.le_of_lt h)]
  · rw [Nat.min_eq_right h, List.drop_eq_nil_of_le h, List.drop_eq_nil_of_le (Nat.le_refl xs.length), List.take_nil, List.take_nil]
theorem take_iv (ns : List Int) (n : Nat) : (iv ns).take n = iv (ns.take n) := (List.map_take ..).symm
theorem drop_iv (ns : List Int) (n : Nat) : (iv ns).drop n = iv (ns.drop n) := (List.map_drop ..).symm
theorem set_iv (ns : List Int) (i : Nat) (v : Int) : (iv ns).set i (.int v) = iv (ns.set i v) := (List.map_set ..).symm
theorem app_iv (ns ms : List Int) : iv ns ++ iv ms = iv (ns ++ ms) := (List.map_append ..).symm
theorem IsB.app {ns ms : List Int} (hn : ∀ x ∈ ns, 0 ≤ x ∧ x ≤ 255) (hm : ∀ x ∈ ms, 0 ≤ x ∧ x ≤ 255) (hl : ns.length + ms.length = 32) : IsB (ns ++ ms) :=
  ⟨by rw [List.length_append]; exact hl, fun x hx => (List.mem_append.mp hx).elim (hn x) (hm x)⟩
theorem IsB.set {ns : List Int} (h : IsB ns) (i : Nat) {v : Int} (hv : 0 ≤ v ∧ v ≤ 255) : IsB (ns.set i v) :=
  ⟨by rw [List.length_set]; exact h.1, fun x hx => (List.mem_or_eq_of_mem_set hx).elim (h.2 x) fun e => e ▸ hv⟩
/-! ### pieces -/
def upI (l : List Nat) : List Int := l.map fun (c : Nat) => (c : Int)
theorem upI_len (l : List Nat) : (upI l).length = l.length := List.length_map ..
def okS (c : Nat) : Bool := isCode (c : Int)
def pieceM (k many number : Int) (part : List Nat) : List Int := ([76, k, many, number / 256, number % 256, (part.length : Int)] ++ upI part) ++ (List.replicate (25 - part.length) 0 ++ [76])
def partM (l : List Nat) (k : Nat) : List Nat := (l.drop (24 * k)).take 24
def manyM (n : Nat) : Nat := max 1 ((n + 23) / 24)
def piecesM (number : Int) (l : List Nat) : List (List Int) := (List.range (manyM l.length)).map fun k => pieceM (k : Nat) (manyM l.length : Nat) number (partM l k)
theorem part_len (l : List Nat) (k : Nat) : (partM l k).length ≤ 24 := by
  unfold partM
  rw [List.length_take]
  exact Nat.min_le_left _ _
theorem piece_len {k many number : Int} {part : List Nat} (h : part.length ≤ 24) : (pieceM k many number part).length = 32 := by
  unfold pieceM
  simp [upI_len]
  omega
theorem getD_app {α : Type} {l m : List α} {i : Nat} {d : α} (h : i < l.length) : (l ++ m).getD i d = l.getD i d := by
  rw [List.getD_eq_getElem?_getD, List.getD_eq_getElem?_getD, List.getElem?_append_left h]
theorem piece_get {k many number : Int} {part : List Nat} (h : part.length ≤ 24) :
    (pieceM k many number part).getD 0 0 = 76 ∧ (pieceM k many number part).getD 1 0 = k ∧ (pieceM k many number part).getD 2 0 = many ∧ (pieceM k many number part).getD 3 0 = number / 256 ∧ (pieceM k many number part).getD 4 0 = number % 256 ∧
      (pieceM k many number part).getD 5 0 = part.length ∧ (pieceM k many number part).getD 31 0 = 76 := by
  have hi : ∀ i, i < 6 → (pieceM k many number part).getD i 0 = ([76, k, many, number / 256, number % 256, (part.length : Int)] : List Int).getD i 0 := by
    intro i hi
    unfold pieceM
    rw [List.append_assoc, getD_app (by exact hi)]
  refine ⟨hi 0 (by decide), hi 1 (by decide), hi 2 (by decide), hi 3 (by decide), hi 4 (by decide), hi 5 (by decide), ?_⟩
  unfold pieceM
  rw [← List.append_assoc, List.getD_eq_getElem?_getD, List.getElem?_append_right (by simp [upI_len]; omega)]
  have : 31 - (([76, k, many, number / 256, number % 256, (part.length : Int)] ++ upI part) ++ List.replicate (25 - part.length) 0).length = 0 := by simp [upI_len]; omega
  rw [this]
  rfl
theorem piece_codes {k many number : Int} {part : List Nat} (h : part.length ≤ 24) : codesM (pieceM k many number part) = upI part := by
  unfold codesM
  rw [(piece_get h).2.2.2.2.2.1, Int.toNat_natCast]
  unfold pieceM
  rw [List.append_assoc, show (6 : Nat) = ([76, k, many, number / 256, number % 256, (part.length : Int)] : List Int).length from rfl, List.drop_left]
  have : part.length = (upI part).length := (upI_len part).symm
  rw [this, List.take_left]
theorem piece_rest {k many number : Int} {part : List Nat} (h : part.length ≤ 24) : restM (pieceM k many number part) = List.replicate (25 - part.length) 0 := by
  unfold restM
  rw [(piece_get h).2.2.2.2.2.1, Int.toNat_natCast]
  unfold pieceM
  have e : 6 + part.length = ([76, k, many, number / 256, number % 256, (part.length : Int)] ++ upI part).length := by simp [upI_len]; omega
  rw [e, List.drop_left]
  generalize 25 - part.length = n
  exact (congrArg (fun m => List.take m (List.replicate n (0 : Int) ++ [76])) (List.length_replicate (n := n) (a := (0 : Int))).symm).trans List.take_left
theorem piece_ok {k many number : Int} {part : List Nat} (h : part.length ≤ 24) (hk : k < many) (hs : ∀ c ∈ part, okS c = true) : okM (pieceM k many number part) = true := by
  unfold okM
  obtain ⟨g0, g1, g2, g3, g4, g5, g31⟩ := piece_get (k := k) (many := many) (number := number) h
  have hh : headM (pieceM k many number part) = true := by
    unfold headM
    rw [g0, g1, g2, g5, g31]
    simp
    omega
  rw [hh, piece_codes h, piece_rest h, Bool.true_and, Bool.and_eq_true]
  refine ⟨List.all_eq_true.mpr fun x hx => ?_, List.all_eq_true.mpr fun x hx => ?_⟩
  · obtain ⟨c, hc, rfl⟩ := List.mem_map.mp hx
    exact hs c hc
  · rw [(List.mem_replicate.mp hx).2]
    rfl
theorem piece_dec {k many number : Int} {part : List Nat} (h : part.length ≤ 24) (hk : k < many) (hs : ∀ c ∈ part, okS c = true) :
    decM (pieceM k many number part) = some (k, many, number, ⟨part.toArray⟩) := by
  unfold decM
  rw [if_pos (piece_ok h hk hs)]
  obtain ⟨g0, g1, g2, g3, g4, g5, g31⟩ := piece_get (k := k) (many := many) (number := number) h
  rw [g1, g2, g3, g4, piece_codes h]
  have e : 256 * (number / 256) + number % 256 = number := Int.mul_ediv_add_emod number 256
  have e2 : textOf (upI part) = ⟨part.toArray⟩ := by
    unfold textOf upI
    rw [List.map_map]
    congr 2
    conv => rhs; rw [← List.map_id part]
    apply List.map_congr_left
    intro c _
    simp
  rw [e, e2]
theorem isCode_le {c : Int} (h : isCode c = true) : 0 ≤ c ∧ c ≤ 255 := by
  unfold isCode at h
  simp only [Bool.or_eq_true, Bool.and_eq_true, decide_eq_true_eq] at h
  omega
theorem piece_isB {k many number : Int} {part : List Nat} (h : part.length ≤ 24) (hk : 0 ≤ k ∧ k ≤ 255) (hm : 0 ≤ many ∧ many ≤ 255) (hn : 0 ≤ number ∧ number < 65536) (hs : ∀ c ∈ part, okS c = true) : IsB (pieceM k many number part) := by
  refine ⟨piece_len h, fun x hx => ?_⟩
  unfold pieceM at hx
  rcases List.mem_append.mp hx with hx | hx
  · rcases List.mem_append.mp hx with hx | hx
    · simp only [List.mem_cons, List.not_mem_nil, or_false] at hx
      have := Int.emod_nonneg number (show (256 : Int) ≠ 0 by decide)
      have := Int.emod_lt_of_pos number (show (0 : Int) < 256 by decide)
      rcases hx with rfl | rfl | rfl | rfl | rfl | rfl <;> omega
    · obtain ⟨c, hc, rfl⟩ := List.mem_map.mp hx
      exact isCode_le (hs c hc)
  · rcases List.mem_append.mp hx with hx | hx
    · rw [(List.mem_replicate.mp hx).2]
      decide
    · rw [List.mem_singleton.mp hx]
      decide
end Ga

set_option maxRecDepth 100000
set_option maxHeartbeats 4000000
/-! B1: values and tests that change nothing. -/
namespace KX
open PySem PySem.Spec PyProof.Rows L2 TL Ga
section
variable {K : PySem.W.Frag} {H : Hp} {σ : L2.St} {p q : Bool} {te : TE} {ta tb : TT}
def EvT (te : TT) (σ : L2.St) (H : Hp) (b : Bool) : Prop := ∀ H1, Same H H1 → ∀ Q : Bool → Hp → Prop, (∀ H2, Same H1 H2 → Q b H2) → te σ H1 Q
theorem etVal (h : EvS te σ H (.bl p)) : EvT (tB te) σ H p := fun H1 s Q k => h H1 s _ fun H2 s2 => ⟨p, rfl, k H2 s2⟩
theorem etNot (h : EvT ta σ H p) : EvT (tNot ta) σ H (!p) := fun H1 s Q k => h H1 s _ fun H2 s2 => k H2 s2
theorem etAnd (ha : EvT ta σ H p) (hb : EvT tb σ H q) : EvT (tAnd ta tb) σ H (p && q) := fun H1 s Q k => by
  refine ha H1 s _ fun H2 s2 => ?_
  cases p with
  | true => exact hb H2 (s.trans s2) _ fun H3 s3 => k H3 (s2.trans s3)
  | false => exact k H2 s2
theorem etOr (ha : EvT ta σ H p) (hb : EvT tb σ H q) : EvT (tOr ta tb) σ H (p || q) := fun H1 s Q k => by
  refine ha H1 s _ fun H2 s2 => ?_
  cases p with
  | true => exact k H2 s2
  | false => exact hb H2 (s.trans s2) _ fun H3 s3 => k H3 (s2.trans s3)
theorem etNe {i j : Nat} {x y : Str} (h : σ[i]? = some (some (.str x))) (g : σ[j]? = some (some (.str y))) : EvT (tTest (tOp rNe (tVar i) (tVar j))) σ H (!decide (x = y)) := fun H1 s Q k =>
  ⟨_, h, _, g, rfl, _, rfl, by
    have : decide (V.str x = V.str y) = decide (x = y) := decide_eq_decide.mpr ⟨V.str.inj, fun z => by rw [z]⟩
    rw [this]
    exact k H1 (.refl _)⟩
theorem EvT.go {b : Bool} (h : EvT ta σ H b) {Q : Bool → Hp → Prop} (k : ∀ H2, Same H H2 → Q b H2) : ta σ H Q := h H (.refl _) Q k
end

section
variable {K : PySem.W.Frag} {H : Hp} {σ : L2.St} {b c : Bool} {te ta tb : TE} {tt : TT} {v x y : V} {i j : Int}
theorem evC : EvS (tC v) σ H v := fun H1 s Q k => k H1 (.refl _)
theorem EvS.go (h : EvS te σ H v) {Q : VK} (k : ∀ H2, Same H H2 → Q v H2) : te σ H Q := h H (.refl _) Q k
theorem EvS.st {H' : Hp} (h : EvS te σ H v) (s : Same H H') : EvS te σ H' v := fun H1 s1 Q k => h H1 (s.trans s1) Q k
theorem EvS.eq (h : EvS te σ H v) (e : v = x) : EvS te σ H x := e ▸ h
theorem evI0 {f : Int → Int → V} (ha : EvS ta σ H (.int i)) (hb : EvS tb σ H (.int j)) : EvS (tOp (rI0 f) ta tb) σ H (f i j) := fun H1 s Q k =>
  ha H1 s _ fun H2 s2 => hb H2 (s.trans s2) _ fun H3 s3 => ⟨_, _, rfl, rfl, k H3 (s2.trans s3)⟩
theorem evMul (ha : EvS ta σ H (.int i)) (hb : EvS tb σ H (.int j)) (hc : CMul i j) : EvS (tOp (rI CMul fun i j => V.int (i * j)) ta tb) σ H (.int (i * j)) := fun H1 s Q k =>
  ha H1 s _ fun H2 s2 => hb H2 (s.trans s2) _ fun H3 s3 => ⟨_, _, rfl, rfl, hc, k H3 (s2.trans s3)⟩
theorem evNeI (ha : EvS ta σ H (.int i)) (hb : EvS tb σ H (.int j)) : EvS (tOp rNe ta tb) σ H (.bl (decide (i ≠ j))) := fun H1 s Q k =>
  ha H1 s _ fun H2 s2 => hb H2 (s.trans s2) _ fun H3 s3 => ⟨rfl, by
    have : (!decide (V.int i = V.int j)) = decide (i ≠ j) := by
      by_cases h : i = j
      · subst h; simp
      · have : V.int i ≠ V.int j := fun e => h (V.int.inj e)
        simp [h]
    rw [this]
    exact k H3 (s2.trans s3)⟩
theorem evEqI (ha : EvS ta σ H (.int i)) (hb : EvS tb σ H (.int j)) : EvS (tOp rEq ta tb) σ H (.bl (decide (i = j))) := fun H1 s Q k =>
  ha H1 s _ fun H2 s2 => hb H2 (s.trans s2) _ fun H3 s3 => ⟨rfl, by
    have : decide (V.int i = V.int j) = decide (i = j) := decide_eq_decide.mpr ⟨V.int.inj, fun z => by rw [z]⟩
    rw [this]
    exact k H3 (s2.trans s3)⟩
theorem evIxL {p : Addr} {xs : List V} (ha : EvS ta σ H (.ref p)) (hb : EvS tb σ H (.int i)) (hs : SqL K H p xs) (he : atI xs i = some v) : EvS (tOp (rIxL K) ta tb) σ H v := fun H1 s Q k =>
  ha H1 s _ fun H2 s2 => hb H2 (s.trans s2) _ fun H3 s3 => ⟨p, xs, i, v, rfl, rfl, ((s.trans s2).trans s3).seq hs, he, k H3 (s2.trans s3)⟩
theorem evNeg (ha : EvS ta σ H (.int i)) : EvS (tUn (rU fun i => V.int (-i)) ta) σ H (.int (-i)) := fun H1 s Q k => ha H1 s _ fun H2 s2 => ⟨_, rfl, k H2 s2⟩
theorem evLenL {p : Addr} {xs : List V} (ha : EvS ta σ H (.ref p)) (hs : SqL K H p xs) : EvS (tCB (rLenQ K) (tCons ta tNil)) σ H (.int (xs.length : Nat)) := fun H1 s Q k =>
  ha H1 s _ fun H2 s2 => ⟨p, xs, rfl, .inl ((s.trans s2).seq hs), k H2 s2⟩
theorem evLenS {z : Str} (ha : EvS ta σ H (.str z)) (hz : z.length ≤ sizeLine) : EvS (tCB (fun xs H Q => ∃ z, xs = [V.str z] ∧ z.length ≤ sizeLine ∧ Q (.int z.length) H) (tCons ta tNil)) σ H (.int (z.length : Nat)) := fun H1 s Q k =>
  ha H1 s _ fun H2 s2 => ⟨z, rfl, hz, k H2 s2⟩
theorem etTest (h : EvS te σ H (.bl b)) : EvT (tTest te) σ H b := fun H1 s Q k => h H1 s _ fun H2 s2 => ⟨b, rfl, k H2 s2⟩
theorem evIf (hb : EvT tt σ H b) (h1 : b = true → EvS ta σ H v) (h2 : b = false → EvS tb σ H v) : EvS (tIf tt ta tb) σ H v := fun H1 s Q k => hb H1 s _ fun H2 s2 => by
  cases b with
  | true => exact h1 rfl H2 (s.trans s2) _ fun H3 s3 => k H3 (s2.trans s3)
  | false => exact h2 rfl H2 (s.trans s2) _ fun H3 s3 => k H3 (s2.trans s3)
end
theorem bnot_t : ∀ {b : Bool}, (!b) = true → b = false
  | false, _ => rfl
theorem bnot_f : ∀ {b : Bool}, (!b) = false → b = true
  | true, _ => rfl
/-! ### relations of what comes out -/
def EvR (te : TE) (σ : L2.St) (H : Hp) (R : Hp → V → Hp → Prop) : Prop := ∀ H1, Same H H1 → ∀ Q : VK, (∀ v H2, Same H1 H2 → R H1 v H2 → Q v H2) → te σ H1 Q
def nL (xs : List V) : Hp → V → Hp → Prop := fun H1 v H2 => ∃ p, v = .ref p ∧ H1 p = none ∧ H2 p = some (.lst xs)
def tL (xs : List V) : Hp → V → Hp → Prop := fun _ v H2 => ∃ p, v = .ref p ∧ H2 p = some (.lst xs)
def sL (K : PySem.W.Frag) (xs : List V) : Hp → V → Hp → Prop := fun _ v H2 => ∃ p, v = .ref p ∧ SqL K H2 p xs
def nT (xs : List V) : Hp → V → Hp → Prop := fun H1 v H2 => ∃ p, v = .ref p ∧ H1 p = none ∧ H2 p = some (.tup xs)
def dD (K : PySem.W.Frag) (d : PyData) : Hp → V → Hp → Prop := fun _ v H2 => Dp K H2 v d
section
variable {K : PySem.W.Frag} {H H' : Hp}
mutual
theorem Dp.same {v : V} {d : PyData} (e : Same H H') : Dp K H v d → Dp K H' v d
  | .non => .non
  | .bl b => .bl b
  | .int i => .int i
  | .str z => .str z
  | .lst s l => .lst (e.seq s) (DpAll.same e l)
  | .tup s l => .tup (e.seqT s) (DpAll.same e l)
theorem DpAll.same {vs : List V} {ds : List PyData} (e : Same H H') : DpAll K H vs ds → DpAll K H' vs ds
  | .nil => .nil
  | .cons h t => .cons (Dp.same e h) (DpAll.same e t)
end
end
section
variable {K : PySem.W.Frag} {H : Hp} {σ : L2.St} {b c : Bool} {te ta tb : TE} {tt : TT} {tr : TA} {v x y : V} {i j : Int} {xs ys : List V} {R R' : Hp → V → Hp → Prop} {p : Addr} {D : Ends} {s1 s2 s3 : TS}
theorem EvR.w (h : EvR te σ H R) (w : ∀ H1 v H2, R H1 v H2 → R' H1 v H2) : EvR te σ H R' := fun H1 s Q k => h H1 s Q fun v H2 s2 r => k v H2 s2 (w _ _ _ r)
theorem EvR.st {H' : Hp} (h : EvR te σ H R) (s : Same H H') : EvR te σ H' R := fun H1 s1 Q k => h H1 (s.trans s1) Q k
theorem EvR.go (h : EvR te σ H R) {Q : VK} (k : ∀ v H2, Same H H2 → R H v H2 → Q v H2) : te σ H Q := h H (.refl _) Q k
theorem EvS.r (h : EvS te σ H v) (w : ∀ H1 H2, Same H H1 → Same H1 H2 → R H1 v H2) : EvR te σ H R := fun H1 s Q k => h H1 s Q fun H2 s2 => k v H2 s2 (w _ _ s s2)
theorem EvR.ts (h : EvR te σ H (tL xs)) : EvR te σ H (sL K xs) := h.w fun _ _ _ ⟨p, e, q⟩ => ⟨p, e, sqL q⟩
theorem EvR.nt (h : EvR te σ H (nL xs)) : EvR te σ H (tL xs) := h.w fun _ _ _ ⟨p, e, _, q⟩ => ⟨p, e, q⟩
theorem EvR.ns (h : EvR te σ H (nL xs)) : EvR te σ H (sL K xs) := h.nt.ts
theorem EvR.eq (h : EvR te σ H (sL K xs)) (e : xs = ys) : EvR te σ H (sL K ys) := e ▸ h
theorem evVarL {i : Nat} (h : σ[i]? = some (some (.ref p))) (g : SqL K H p xs) : EvR (tVar i) σ H (sL K xs) := (evVar h).r fun _ _ a b => ⟨p, rfl, (a.trans b).seq g⟩
theorem evVarT {i : Nat} (h : σ[i]? = some (some (.ref p))) (g : H p = some (.lst xs)) : EvR (tVar i) σ H (tL xs) := (evVar h).r fun _ _ a b => ⟨p, rfl, b _ _ (a _ _ g)⟩
theorem evCat (ha : EvR ta σ H (tL xs)) (hb : EvR tb σ H (tL ys)) (hz : xs.length + ys.length ≤ 100000) : EvR (tOp rCat ta tb) σ H (nL (xs ++ ys)) := fun H1 s Q k =>
  ha H1 s _ fun v H2 s2 ⟨l, e, hl⟩ => hb H2 (s.trans s2) _ fun u H3 s3 ⟨m, e2, hm⟩ => ⟨l, m, xs, ys, e, e2, s3 _ _ hl, hm, Nat.le_trans hz (by decide), fun p np =>
    k _ _ ((s2.trans s3).trans (same_upd np)) ⟨p, rfl, same_at (s2.trans s3) np, upd_same⟩⟩
theorem evRep {k : Nat} (ha : EvR ta σ H (tL xs)) (hb : EvS tb σ H (.int (k : Int))) (hz : xs.length * k ≤ 100000) (hk : k ≤ 100000) : EvR (tOp rRep ta tb) σ H (nL (List.replicate k xs).flatten) := fun H1 s Q q =>
  ha H1 s _ fun v H2 s2 ⟨l, e, hl⟩ => hb H2 (s.trans s2) _ fun H3 s3 => by
    have e63 : (2 : Int) ^ 63 = 9223372036854775808 := by decide
    refine ⟨l, _, xs, e, rfl, s3 _ _ hl, by omega, by omega, by rw [Int.toNat_natCast]; exact Nat.le_trans hz (by decide), fun p np => ?_⟩
    rw [Int.toNat_natCast]
    exact q _ _ ((s2.trans s3).trans (same_upd np)) ⟨p, rfl, same_at (s2.trans s3) np, upd_same⟩
/-- arguments, each a value -/
def EvVs (t : TA) (σ : L2.St) (H : Hp) (vs : List V) : Prop := ∀ H1, Same H H1 → ∀ Q : List V → Hp → Prop, (∀ H2, Same H1 H2 → Q vs H2) → t σ H1 Q
theorem evNil : EvVs tNil σ H [] := fun H1 _ Q k => k H1 (.refl _)
theorem evCons {vs : List V} (ha : EvS ta σ H v) (ht : EvVs tr σ H vs) : EvVs (tCons ta tr) σ H (v :: vs) := fun H1 s Q k => ha H1 s _ fun H2 s2 => ht H2 (s.trans s2) _ fun H3 s3 => k H3 (s2.trans s3)
theorem evVals {vs : List V} : EvVs (tVals vs) σ H vs := fun H1 _ Q k => k H1 (.refl _)
theorem evLst {vs : List V} (h : EvVs tr σ H vs) (hz : vs.length ≤ 100000) : EvR (tLst tr) σ H (nL vs) := fun H1 s Q k => h H1 s _ fun H2 s2 => ⟨Nat.le_trans hz (by decide), fun p np => k _ _ (s2.trans (same_upd np)) ⟨p, rfl, same_at s2 np, upd_same⟩⟩
theorem evTup {vs : List V} (h : EvVs tr σ H vs) (hz : vs.length ≤ 100000) : EvR (tTup tr) σ H (nT vs) := fun H1 s Q k => h H1 s _ fun H2 s2 => ⟨Nat.le_trans hz (by decide), fun p np => k _ _ (s2.trans (same_upd np)) ⟨p, rfl, same_at s2 np, upd_same⟩⟩
def EvO (t : TO) (σ : L2.St) (H : Hp) (o : Option Int) : Prop := ∀ H1, Same H H1 → ∀ Q : Option Int → Hp → Prop, (∀ H2, Same H1 H2 → Q o H2) → t σ H1 Q
theorem evNo : EvO tNoPart σ H none := fun H1 _ Q k => k H1 (.refl _)
theorem evPart (h : EvS te σ H (.int i)) : EvO (tPart te) σ H (some i) := fun H1 s Q k => h H1 s _ fun H2 s2 => ⟨i, rfl, k H2 s2⟩
theorem evSlL {tl th : TO} {lo hi : Option Int} (h : EvR te σ H (sL K xs)) (hl : EvO tl σ H lo) (hh : EvO th σ H hi) : EvR (tSl (rSlL K) te tl th) σ H (nL (cutV xs lo hi)) := fun H1 s Q k =>
  h H1 s _ fun v H2 s2 ⟨p, e, hp⟩ => hl H2 (s.trans s2) _ fun H3 s3 => hh H3 ((s.trans s2).trans s3) _ fun H4 s4 => ⟨p, xs, e, (s3.trans s4).seq hp, fun l nl =>
    k _ _ (((s2.trans s3).trans s4).trans (same_upd nl)) ⟨l, rfl, same_at ((s2.trans s3).trans s4) nl, upd_same⟩⟩
theorem evEqD {d e : PyData} (ha : EvR ta σ H (dD K d)) (hb : EvR tb σ H (dD K e)) (hd : SeqAt.shaped d = true) (he : SeqAt.shaped e = true) : EvS (tOp (rEqD K) ta tb) σ H (.bl (PyData.eqv d e)) := fun H1 s Q k =>
  ha H1 s _ fun v H2 s2 r => hb H2 (s.trans s2) _ fun u H3 s3 r2 => ⟨d, e, Dp.same s3 r, r2, hd, he, k H3 (s2.trans s3)⟩
theorem evNeD {d e : PyData} (ha : EvR ta σ H (dD K d)) (hb : EvR tb σ H (dD K e)) (hd : SeqAt.shaped d = true) (he : SeqAt.shaped e = true) : EvS (tOp (rNeD K) ta tb) σ H (.bl (!PyData.eqv d e)) := fun H1 s Q k =>
  ha H1 s _ fun v H2 s2 r => hb H2 (s.trans s2) _ fun u H3 s3 r2 => ⟨d, e, Dp.same s3 r, r2, hd, he, k H3 (s2.trans s3)⟩
/-- [e for c in xs] -/
theorem evLc {α : Type} {as : List α} {f g : α → V} {tl : TE} {i : Nat} (h : EvR tl σ H (sL K (as.map g))) (hz : as.length ≤ 100000) (he : ∀ c ∈ as, ∀ H2, Same H H2 → EvS te ((wipe σ [i]).set i (some (g c))) H2 (f c)) :
    EvR (tLc (iList K tl) (gName i) tYes te [i]) σ H (nL (as.map f)) := fun H1 s Q k => by
  refine h H1 s _ fun v H2 s2 ⟨p, e, hp⟩ => ⟨p, e, ⟨_, hp⟩, fun D nD => ?_⟩
  refine lcF1 (f := f) (as := as) nD (same_walkL hp) (by rw [List.length_map]) (by rw [List.length_map]; exact hz) (fun j c a hc ha H3 Rk s3 kk => ?_) fun H3 s3 hD => k _ _ (s2.trans s3) ⟨D, rfl, same_at s2 nD, hD⟩
  rw [List.getElem?_map, ha] at hc
  obtain rfl : g a = c := Option.some.inj hc
  exact ⟨wipe_set _ _ _, he a (List.mem_of_getElem? ha) H3 ((s.trans s2).trans s3) H3 (.refl _) _ fun H4 s4 => kk H4 s4⟩
theorem evLcF {α : Type} {as : List α} {f g : α → V} {p : α → Bool} {tl : TE} {i : Nat} (h : EvR tl σ H (sL K (as.map g))) (hz : as.length ≤ 100000) (ht : ∀ c ∈ as, ∀ H2, Same H H2 → EvT tt ((wipe σ [i]).set i (some (g c))) H2 (p c))
    (he : ∀ c ∈ as, p c = true → ∀ H2, Same H H2 → EvS te ((wipe σ [i]).set i (some (g c))) H2 (f c)) : EvR (tLc (iList K tl) (gName i) tt te [i]) σ H (nL ((as.filter p).map f)) := fun H1 s Q k => by
  refine h H1 s _ fun v H2 s2 ⟨q, e, hp⟩ => ⟨q, e, ⟨_, hp⟩, fun D nD => ?_⟩
  refine lc_rel (R := fun _ a y => y = f a) (p := p) (as := as) nD (same_walkL hp) (by rw [List.length_map]) (by rw [List.length_map]; exact hz) (fun _ h => h) (fun j c a hc ha H3 Rk Rn s3 kk kn => ?_) fun H3 ys s3 hD pr => ?_
  · rw [List.getElem?_map, ha] at hc
    obtain rfl : g a = c := Option.some.inj hc
    have hm := List.mem_of_getElem? ha
    have s13 := (s.trans s2).trans s3
    refine ⟨wipe_set _ _ _, ht a hm H3 s13 H3 (.refl _) _ fun H4 s4 => ?_⟩
    cases e : p a with
    | true => exact he a hm e H4 (s13.trans s4) H4 (.refl _) _ fun H5 s5 => kk _ H5 e (s4.trans s5) rfl
    | false => exact kn H4 e s4
  · rw [paired_map pr] at hD
    exact k _ _ (s2.trans s3) ⟨D, rfl, same_at s2 nD, hD⟩
/-- [e for k in range(n)] -/
theorem evLcRg {n : Nat} {f : Nat → V} {tn : TE} {i : Nat} (h : EvS tn σ H (.int (n : Nat))) (hz : n ≤ 100000) (he : ∀ m, m < n → ∀ H2, Same H H2 → EvS te ((wipe σ [i]).set i (some (.int (0 + (m : Nat))))) H2 (f m)) :
    EvR (tLc (iRng1 (tCons tn tNil)) (gName i) tYes te [i]) σ H (nL ((List.range n).map f)) := fun H1 s Q k => by
  refine h H1 s _ fun H2 s2 => ⟨(n : Nat), rfl, by omega, by omega, fun D nD => ?_⟩
  rw [Int.toNat_natCast]
  refine lc_it (walk_range (lo := 0) (n := n)) (fun m H' => Same H2 H' ∧ H' D = some (.lst ((List.range m).map f))) ⟨same_upd nD, upd_same⟩ (fun _ _ _ _ => trivial) ?_ ?_
  · rintro m x H3 H4 hm ⟨s3, hD⟩ ⟨rfl, rfl⟩
    refine ⟨wipe_set _ _ _, ?_⟩
    dsimp only [tYes]
    rw [if_pos rfl]
    refine he m hm H2 (s.trans s2) _ s3 _ fun H5 s5 => ?_
    refine ⟨_, s5 _ _ hD, ?_, (s3.trans s5).mut nD, ?_⟩
    · rw [List.length_map, List.length_range]
      exact Nat.lt_of_lt_of_le hm (Nat.le_trans hz (by decide))
    · rw [upd_same, List.range_succ, List.map_append]; rfl
  · rintro H3 ⟨s3, hD⟩
    exact k _ _ (s2.trans s3) ⟨D, rfl, same_at s2 nD, hD⟩
/-- [e for c in text] -/
theorem evLcStr {z : Str} {f : Nat → V} {tl' : TE} {i : Nat} (h : EvS tl' σ H (.str z)) (hz : (tl z).length ≤ 100000) (he : ∀ c ∈ tl z, ∀ H2, Same H H2 → EvS te ((wipe σ [i]).set i (some (.str ⟨#[c]⟩))) H2 (f c)) :
    EvR (tLc (iStr tl') (gName i) tYes te [i]) σ H (nL ((tl z).map f)) := fun H1 s Q k => by
  refine h H1 s _ fun H2 s2 => ⟨z, rfl, fun D nD => ?_⟩
  refine lc_it (walk_str (z := z)) (fun m H' => Same H2 H' ∧ H' D = some (.lst (((tl z).take m).map f))) ⟨same_upd nD, upd_same⟩ (fun _ _ _ _ => trivial) ?_ ?_
  · rintro m x H3 H4 hm ⟨s3, hD⟩ ⟨rfl, c, hc, rfl⟩
    have hg := get_tl hc
    refine ⟨wipe_set _ _ _, ?_⟩
    dsimp only [tYes]
    rw [if_pos rfl]
    refine he c (List.mem_of_getElem? hg) H2 (s.trans s2) _ s3 _ fun H5 s5 => ?_
    refine ⟨_, s5 _ _ hD, ?_, (s3.trans s5).mut nD, ?_⟩
    · rw [List.length_map, List.length_take]
      exact Nat.lt_of_le_of_lt (Nat.le_trans (Nat.min_le_right _ _) hz) (by decide)
    · rw [upd_same, take_map_succ hg]
  · rintro H3 ⟨s3, hD⟩
    rw [size_tl, List.take_length] at hD
    exact k _ _ (s2.trans s3) ⟨D, rfl, same_at s2 nD, hD⟩
theorem evAll {bs : List Bool} (h : EvR te σ H (sL K (bs.map V.bl))) : EvS (tCB (rAll K) (tCons te tNil)) σ H (.bl (bs.all id)) := fun H1 s Q k => h H1 s _ fun v H2 s2 ⟨p, e, hp⟩ => ⟨p, bs, by rw [e], hp, k H2 s2⟩
theorem evAny {bs : List Bool} (h : EvR te σ H (sL K (bs.map V.bl))) : EvS (tCB (rAny K) (tCons te tNil)) σ H (.bl (bs.any id)) := fun H1 s Q k => h H1 s _ fun v H2 s2 ⟨p, e, hp⟩ => ⟨p, bs, by rw [e], hp, k H2 s2⟩
/-! ### statements -/
theorem sqIf (h : EvT tt σ H b) (h1 : b = true → ∀ H2, Same H H2 → s1 { D with nx := s3 D } σ H2) (h2 : b = false → ∀ H2, Same H H2 → s3 D σ H2) : tSeq (tIfS tt s1 tNext) s3 D σ H := h H (.refl _) _ fun H2 s => by
  cases b with
  | true => exact h1 rfl H2 s
  | false => exact h2 rfl H2 s
theorem oneIf (h : EvT tt σ H b) (h1 : b = true → ∀ H2, Same H H2 → s1 D σ H2) (h2 : b = false → ∀ H2, Same H H2 → s2 D σ H2) : tIfS tt s1 s2 D σ H := h H (.refl _) _ fun H2 s => by
  cases b with
  | true => exact h1 rfl H2 s
  | false => exact h2 rfl H2 s
theorem sqSet {i : Nat} (h : EvS te σ H v) (k : ∀ H2, Same H H2 → s3 D (σ.set i (some v)) H2) : tSeq (tAsg te (gName i)) s3 D σ H := h H (.refl _) _ fun H2 s => k H2 s
theorem sqSetR {i : Nat} (h : EvR te σ H R) (k : ∀ v H2, Same H H2 → R H v H2 → s3 D (σ.set i (some v)) H2) : tSeq (tAsg te (gName i)) s3 D σ H := h H (.refl _) _ fun v H2 s r => k v H2 s r
theorem retS (h : EvS te σ H v) (k : ∀ H2, Same H H2 → D.rt v H2) : tRet te D σ H := h H (.refl _) _ fun H2 s => k H2 s
theorem retR (h : EvR te σ H R) (k : ∀ v H2, Same H H2 → R H v H2 → D.rt v H2) : tRet te D σ H := h H (.refl _) _ fun v H2 s r => k v H2 s r
/-- for k in range(n) -/
theorem sqForRg {n i : Nat} {tn : TE} (hn : EvS tn σ H (.int (n : Nat))) (hz : n ≤ 1000000000) (Pv : Nat → L2.St → Hp → Prop) (h0 : ∀ H1, Same H H1 → Pv 0 σ H1)
    (hs : ∀ j σ H, j < n → Pv j σ H → s1 { D with nx := Pv (j + 1), ct := Pv (j + 1), bk := s3 D } (σ.set i (some (.int (0 + (j : Nat))))) H) (hd : ∀ σ H, Pv n σ H → s3 D σ H) : tSeq (tFor (iRng1 (tCons tn tNil)) (gName i) s1) s3 D σ H := by
  refine hn H (.refl _) _ fun H1 s => ⟨(n : Nat), rfl, by omega, by omega, ?_⟩
  rw [Int.toNat_natCast]
  exact for_range (lo := 0) (n := n) Pv (h0 H1 s) (fun j σ H hj p => hs j σ H hj p) hd
theorem oneForRg {n i : Nat} {tn : TE} (hn : EvS tn σ H (.int (n : Nat))) (hz : n ≤ 1000000000) (Pv : Nat → L2.St → Hp → Prop) (h0 : ∀ H1, Same H H1 → Pv 0 σ H1)
    (hs : ∀ j σ H, j < n → Pv j σ H → s1 { D with nx := Pv (j + 1), ct := Pv (j + 1), bk := D.nx } (σ.set i (some (.int (0 + (j : Nat))))) H) (hd : ∀ σ H, Pv n σ H → D.nx σ H) : tFor (iRng1 (tCons tn tNil)) (gName i) s1 D σ H := by
  refine hn H (.refl _) _ fun H1 s => ⟨(n : Nat), rfl, by omega, by omega, ?_⟩
  rw [Int.toNat_natCast]
  exact for_range (lo := 0) (n := n) Pv (h0 H1 s) (fun j σ H hj p => hs j σ H hj p) hd
/-- for x in a list, a tuple, that stands -/
theorem sqForL {α : Type} {as : List α} {g : α → V} {tl' : TE} {i : Nat} (h : EvS tl' σ H (.ref p)) (hp : SqL K H p (as.map g)) (Pv : Nat → L2.St → Hp → Prop) (h0 : ∀ H1, Same H H1 → Pv 0 σ H1) (hst : ∀ j σ H', j ≤ as.length → Pv j σ H' → SqL K H' p (as.map g))
    (hs : ∀ j (c : α) σ H, as[j]? = some c → Pv j σ H → s1 { D with nx := Pv (j + 1), ct := Pv (j + 1), bk := s3 D } (σ.set i (some (g c))) H) (hd : ∀ σ H, Pv as.length σ H → s3 D σ H) : tSeq (tFor (iList K tl') (gName i) s1) s3 D σ H := by
  refine h H (.refl _) _ fun H1 s => ⟨p, rfl, ⟨_, s.seq hp⟩, ?_⟩
  refine for_list (K := K) (xs := as.map g) Pv (h0 H1 s) (fun j σ H hj q => hst j σ H (by rw [List.length_map] at hj; exact hj) q) (fun j x σ H hx q => ?_) (fun σ H q => hd σ H (by rw [List.length_map] at q; exact q))
  rw [List.getElem?_map] at hx
  cases e : as[j]? with
  | none => rw [e] at hx; cases hx
  | some c =>
    rw [e] at hx
    obtain rfl : g c = x := Option.some.inj hx
    exact hs j c σ H e q
theorem oneForL {α : Type} {as : List α} {g : α → V} {tl' : TE} {i : Nat} (h : EvS tl' σ H (.ref p)) (hp : SqL K H p (as.map g)) (Pv : Nat → L2.St → Hp → Prop) (h0 : ∀ H1, Same H H1 → Pv 0 σ H1) (hst : ∀ j σ H', j ≤ as.length → Pv j σ H' → SqL K H' p (as.map g))
    (hs : ∀ j (c : α) σ H, as[j]? = some c → Pv j σ H → s1 { D with nx := Pv (j + 1), ct := Pv (j + 1), bk := D.nx } (σ.set i (some (g c))) H) (hd : ∀ σ H, Pv as.length σ H → D.nx σ H) : tFor (iList K tl') (gName i) s1 D σ H := by
  refine h H (.refl _) _ fun H1 s => ⟨p, rfl, ⟨_, s.seq hp⟩, ?_⟩
  refine for_list (K := K) (xs := as.map g) Pv (h0 H1 s) (fun j σ H hj q => hst j σ H (by rw [List.length_map] at hj; exact hj) q) (fun j x σ H hx q => ?_) (fun σ H q => hd σ H (by rw [List.length_map] at q; exact q))
  rw [List.getElem?_map] at hx
  cases e : as[j]? with
  | none => rw [e] at hx; cases hx
  | some c =>
    rw [e] at hx
    obtain rfl : g c = x := Option.some.inj hx
    exact hs j c σ H e q
theorem stTo {τ : L2.St} {t : TS} (e : σ = τ) (h : t D τ H) : t D σ H := e ▸ h
end
end KX

set_option maxRecDepth 100000
set_option maxHeartbeats 4000000
/-! E0: OutOfRange, raised and caught. -/
namespace KX
open PySem PySem.Spec PyProof.Rows L2 TL Ga NdefX
theorem lenle {z : Str} (h : (tl z).length ≤ 1000) : z.length ≤ sizeLine := by rw [len_tl]; exact Nat.le_trans h (by decide)
theorem not_t : ∀ {b : Bool}, (!b) = true → b = false
  | false, _ => rfl
theorem scOor : NScope ["self", "name", "__class__"] ["self", "name"] ["__class__"] (defScope sOorInit) := nscope_by (by decide +kernel)
/-- OutOfRange.__init__, as it is made -/
def fOor (cc c : Addr) : NF := ⟨"__init__", "OutOfRange.__init__", defArgs sOorInit, defBody sOorInit, defScope sOorInit, [(("__class__" : Str), cc)], c⟩
/-- OutOfRange(name), as it is made -/
def spOor (C : Addr) : Sp := fun vs H Q _ => ∃ (a : Addr) (z : Str), vs = [.ref a, .str z] ∧ H a = some (exo a C none) ∧ (tl z).length ≤ 1000 ∧
  ∀ dx, H dx = none → dx ≠ a → Q .non (upd (upd H dx (exd dx [("name", .str z)])) a (exo a C (some dx)))
section
variable {P : Program} {w : World} {K : PySem.W.Frag} {mg : Str → Option Value} {base : Heap}
theorem ok_oor {f C cc c : Addr} {fd : FuncData} (SI : SupIn P K f C (fOor cc c) fd) (SC : SupC K C) (hsuper : mg "super" = none) (htop : (P.main.scope.names.lookup ("super" : Str)).isSome = false)
    (hno : PySem.W.findIn K (.ref C) "name" = some none) : FnOk P w K mg base CX0 1 f fd ["self", "name"] (spOor C) := by
  refine ok_sup (N := ["self", "name", "__class__"]) (ar := (defArgs sOorInit).args.head!) SI SC ⟨scOor, rfl, rfl, rfl, htop⟩ hsuper rfl (fun vs H Q E h => ?_) (by intro _; rfl) (by intro _; rfl) (by intro _; exact ⟨_, rfl⟩) (by intro _; rfl) (by intro _; rfl) ?_
  · obtain ⟨a, z, rfl, _⟩ := h
    rfl
  · intro A outer s H vs Q E hr h
    obtain ⟨a, z, rfl, ha, hz, q⟩ := h
    refine ⟨a, _, _, rfl, ha, pa_cons (pe_joined (PJ.cons (pe_fmt (pv 1)) (PJ.cons pe_str PJ.nil))) pa_nil, pss_one (ps_ost (pv 0) (pv 1)), ?_⟩
    have l1 : z.length ≤ sizeLine := lenle hz
    have l2 : (Str.empty ++ z : Str).length ≤ sizeLine := by
      rw [len_tl, tl_append, List.length_append]
      exact Nat.le_trans (show 0 + (tl z).length ≤ 1000 by omega) (by decide)
    have l3 : ((Str.empty ++ z : Str) ++ (" is out of range" : Str)).length ≤ sizeLine := by
      rw [len_tl, tl_append, tl_append, List.length_append, List.length_append]
      exact Nat.le_trans (show 0 + (tl z).length + 16 ≤ 1016 by omega) (by decide)
    exact ⟨_, rfl, .inl ⟨z, rfl, l1, z, rfl, l2, _, rfl, l3, (by show 1 ≤ 1000; decide), ha, _, rfl, _, rfl, a, C, rfl, SC.toOexC, hno, .inl ⟨ha, fun dx n ne => q dx n ne⟩⟩⟩
end
/-- OutOfRange("files") is let out -/
def Oor (Co : Addr) (z : Str) (H : Hp) (E : XK) : Prop := ∀ (H' : Hp) (e : Addr), Same H H' → H e = none → H' e = some (.xd [("name", .str z)]) → E (.ref Co) (some e) H'
/-- what the top has left of an error class with a name -/
structure OorC (P : Program) (w : World) (K : PySem.W.Frag) (mg : Str → Option Value) (base : Heap) (Co fo : Addr) (fdo : FuncData) : Prop where
  ok : FnOk P w K mg base CX0 1 fo fdo ["self", "name"] (spOor Co)
  ex : OexC K Co
  init : PySem.W.findIn K (.ref Co) "__init__" = some (some (.ref fo))
  fn : PySem.W.typeIn K (.ref fo) = some (.type "function")
  binds : Binds K fdo ["self", "name"] []
  gl : mg "OutOfRange" = some (.ref Co)
theorem raise_oor {σ : L2.St} {H : Hp} {Q : XK} {Co : Addr} {z : Str} (hz : (tl z).length ≤ 1000) (h : Oor Co z H Q) : tMkO Co (spOor Co) [] (tCons (tC (.str z)) tNil) σ H Q := by
  refine ⟨by show 1 ≤ 1000; decide, fun a na => ⟨a, z, rfl, upd_same, hz, fun dx nd ne => ?_⟩⟩
  have nd1 : H dx = none := by rw [upd_ne ne] at nd; exact nd
  refine ⟨rfl, dx, [("name", .str z)], upd_same, by rw [upd_ne ne, upd_same], nd1, h _ dx (fun b o e => ?_) nd1 upd_same⟩
  have n1 := ne_of_none e na
  have n2 := ne_of_none e nd1
  rw [upd_ne n2, del_ne n1, upd_ne n1, upd_ne n2, upd_ne n1]
  exact e
/-- the caught error -/
structure CatC (K : PySem.W.Frag) (mg : Str → Option Value) (Co : Addr) : Prop where
  gl : mg "OutOfRange" = some (.ref Co)
  exm : PySem.W.exmOne K (.ref Co) (.ref Co) = some true
  xf : XfC K Co
  nm : PySem.W.findIn K (.ref Co) "name" = some none
def dRef (z : Str) : PyData := .tuple [.str "refused", .str z]
section
variable {X : Cx} {k n : Nat} {x : Str} {ps : List Str} {sp : Sp} {e : Expr} {es : List Expr} {t : TA} {p pos : Pos} {E : L2.St → XK}
theorem pe_calXS (S : CalX X.prog X.w X.K X.mg X.base k x ps sp) (hr : Room n X.A) (hx : ∀ σ, PassesAt (L2.CX X.prog X.w) X σ (E σ)) (ha : PA X (e :: es) t) (hk : k ≤ n := by decide) (hg : Gl X x := by rfl) (hdb : (x == ("__debug__" : Str)) = false := by decide)
    (he : starEach (e :: es) X.env = (false, eval e X.env) :: starEach es X.env := by rfl) (hpl : (backTo pos (starEach es X.env)).any (·.1) = false := by rfl) : PE X (.Call (.Name x p) (e :: es) [] pos) (tCallS sp E t) := by
  obtain ⟨f, fd, F, g, kp, b⟩ := S.ex
  exact pe_callS F (hr.mono hk) hg g kp b hx ha hdb he hpl
end
end KX

set_option maxRecDepth 100000
set_option maxHeartbeats 4000000
/-! Ka: pieces read (sameanswers.blocks). -/
namespace KX
open PySem PySem.Spec PyProof.Rows L2 TL Ga
abbrev SIGNS : Str := " !\"#$ &'()*+,-./0123456789:;<=>?@ABCDEFGHIJKLMNOPQRSTUVWXYZ[\\]^_`abcdefghijklmnopqrstuvwxyz{|}~"
theorem signs_at : ∀ k : Nat, k < 95 → k ≠ 5 → (tl SIGNS)[k]? = some (k + 32) := by decide +kernel
def spCode : Sp := fun vs H Q _ => ∃ c : Int, vs = [.int c] ∧ Q (.bl (isCode c)) H
def spSignOf : Sp := fun vs H Q _ => ∃ c : Int, vs = [.int c] ∧ isCode c = true ∧ Q (.str (signOf c)) H
def spDec (K : PySem.W.Frag) : Sp := fun vs H Q _ => ∃ (a : Addr) (ns : List Int), vs = [.ref a] ∧ SqL K H a (iv ns) ∧ IsB ns ∧ ∀ v H', Same H H' → Dp K H' v (decD ns) → decide (v = .non) = !okM ns → Q v H'
section
variable {P : Program} {w : World} {K : PySem.W.Frag} {mg : Str → Option Value} {base : Heap}
theorem ok_is_code {f : Addr} {fd : FuncData} (F : Fun K "is_code" "is_code" s_is_code f fd) (T : Tx mg) : FnOk P w K mg base CX0 1 f fd ["code"] spCode := by
  obtain ⟨t_PERCENT, m_PERCENT⟩ := T.c_PERCENT
  obtain ⟨t_FIRST_CODE, m_FIRST_CODE⟩ := T.c_FIRST_CODE
  obtain ⟨t_LAST_CODE, m_LAST_CODE⟩ := T.c_LAST_CODE
  obtain ⟨t_NEWLINE, m_NEWLINE⟩ := T.c_NEWLINE
  refine F.ok sc_is_code (fun vs H Q E h => ?_) (fun cdv A outer s H vs Q E hr h => ?_)
  · obtain ⟨c, rfl, _⟩ := h
    rfl
  · obtain ⟨c, rfl, q⟩ := h
    refine ⟨_, pss_one (ps_ret (pe_or (pe_cmpR op_eq (pv 0) (pe_glob (v := .int 10) rfl m_NEWLINE ⟨_, rfl⟩) (nomark _)) (pe_one (pe_and (pe_chain op_le op_le (pe_glob (v := .int 32) rfl m_FIRST_CODE ⟨_, rfl⟩) (pv 0) (pe_glob (v := .int 126) rfl m_LAST_CODE ⟨_, rfl⟩)) (pe_one (pe_cmpR op_ne (pv 0) (pe_glob (v := .int 37) rfl m_PERCENT ⟨_, rfl⟩) (nomark _))))))), ?_⟩
    have e10 : decide (V.int c = V.int 10) = decide (c = 10) := decide_eq_decide.mpr ⟨fun h => V.int.inj h, fun h => by rw [h]⟩
    have e37 : decide (V.int c = V.int 37) = decide (c = 37) := decide_eq_decide.mpr ⟨fun h => V.int.inj h, fun h => by rw [h]⟩
    refine ⟨_, rfl, rfl, _, rfl, ?_⟩
    rw [e10]
    unfold isCode at q
    refine ite2 (fun e => ?_) (fun e => ?_)
    · rw [e, Bool.true_or] at q
      exact q
    · rw [Bool.eq_false_iff.mpr e, Bool.false_or] at q
      refine ⟨_, rfl, _, _, rfl, rfl, _, rfl, ite2 (fun e1 => ?_) (fun e1 => ?_)⟩
      · refine ⟨_, _, rfl, rfl, _, rfl, ite2 (fun e2 => ?_) (fun e2 => ?_)⟩
        · refine ⟨_, rfl, rfl, ?_⟩
          rw [e37]
          rw [e1, e2] at q
          exact q
        · rw [e1, Bool.eq_false_iff.mpr e2] at q
          exact q
      · refine ⟨_, rfl, iteF ?_⟩
        rw [Bool.eq_false_iff.mpr e1] at q
        exact q
theorem ok_sign_of {f : Addr} {fd : FuncData} (F : Fun K "sign_of" "sign_of" s_sign_of f fd) (T : Tx mg) : FnOk P w K mg base CX0 1 f fd ["code"] spSignOf := by
  obtain ⟨t_NEWLINE, m_NEWLINE⟩ := T.c_NEWLINE
  obtain ⟨t_SIGNS, m_SIGNS⟩ := T.c_SIGNS
  obtain ⟨t_FIRST_CODE, m_FIRST_CODE⟩ := T.c_FIRST_CODE
  refine F.ok sc_sign_of (fun vs H Q E h => ?_) (fun cdv A outer s H vs Q E hr h => ?_)
  · obtain ⟨c, rfl, _⟩ := h
    rfl
  · obtain ⟨c, rfl, hc, q⟩ := h
    refine ⟨_, pss_one (ps_ret (pe_ifExp (pt_cmpR op_eq (pv 0) (pe_glob (v := .int 10) rfl m_NEWLINE ⟨_, rfl⟩) (nomark _)) pe_str (pe_ix ix_str (pe_glob (v := .str SIGNS) rfl m_SIGNS ⟨_, rfl⟩) (pe_op op_sub (pv 0) (pe_glob (v := .int 32) rfl m_FIRST_CODE ⟨_, rfl⟩)) (fun _ _ => rfl)))), ?_⟩
    have e10 : decide (V.int c = V.int 10) = decide (c = 10) := decide_eq_decide.mpr ⟨fun h => V.int.inj h, fun h => by rw [h]⟩
    refine ⟨_, rfl, rfl, _, rfl, ?_⟩
    rw [e10]
    unfold isCode at hc
    simp only [Bool.or_eq_true, Bool.and_eq_true, decide_eq_true_eq, Bool.not_eq_true', decide_eq_false_iff_not] at hc
    refine ite2 (fun e => ?_) (fun e => ?_)
    · have e := of_decide_eq_true e
      subst e
      exact q
    · rw [decide_eq_true_eq] at e
      refine ⟨_, rfl, _, _, rfl, rfl, SIGNS, c - 32, c.toNat, rfl, rfl, by decide, ?_, q⟩
      have := signs_at (c - 32).toNat (by omega) (by omega)
      rw [show c.toNat = (c - 32).toNat + 32 by omega, show c - 32 = (((c - 32).toNat : Nat) : Int) by omega]
      exact atI_nat this
theorem join_signs' : ∀ cs : List Int, Str.join "" (cs.map signOf) = textOf cs
  | [] => rfl
  | [c] => rfl
  | c :: d :: r => by
    show signOf c ++ ("" : Str) ++ Str.join "" ((d :: r).map signOf) = _
    rw [join_signs' (d :: r)]
    apply ext_tl
    rw [tl_append, tl_append, tl_textOf, tl_textOf]
    rfl
theorem join_signs (cs : List Int) : Txt.join "" (cs.map signOf) = textOf cs := by rw [join_eq, join_signs']
theorem int_ne (a b : Int) : (!decide (V.int a = V.int b)) = decide (a ≠ b) := by
  by_cases h : a = b
  · subst h; simp
  · have : V.int a ≠ V.int b := fun e => h (V.int.inj e)
    simp [h]
theorem ok_decode_piece {f : Addr} {fd : FuncData} (F : Fun K "decode_piece" "decode_piece" s_decode_piece f fd) (T : Tx mg) (H_sign_of : Cal P w K mg base 1 "sign_of" ["code"] spSignOf) (H_is_code : Cal P w K mg base 1 "is_code" ["code"] spCode) :
    FnOk P w K mg base CX0 2 f fd ["block"] (spDec K) := by
  obtain ⟨t_PIECE, m_PIECE⟩ := T.c_PIECE
  obtain ⟨t_MARK, m_MARK⟩ := T.c_MARK
  refine F.ok sc_decode_piece (fun vs H Q E h => ?_) (fun cdv A outer s H vs Q E hr h => ?_)
  · obtain ⟨a, ns, rfl, _⟩ := h
    rfl
  · obtain ⟨a, ns, rfl, hS, hB, q⟩ := h
    refine ⟨_, pss_cons (ps_asg (pv 0) (pg_starL (K := K) (i := 6) rfl rfl (pgs_cons (pg_name (i := 1) sc_decode_piece.nd rfl (Or.inl rfl)) (pgs_cons (pg_name (i := 2) sc_decode_piece.nd rfl (Or.inl rfl)) (pgs_cons (pg_name (i := 3) sc_decode_piece.nd rfl (Or.inl rfl)) (pgs_cons (pg_name (i := 4) sc_decode_piece.nd rfl (Or.inl rfl)) (pgs_cons (pg_name (i := 5) sc_decode_piece.nd rfl (Or.inl rfl)) (pgs_cons (pg_name (i := 6) sc_decode_piece.nd rfl (Or.inl rfl)) (pgs_cons (pg_name (i := 7) sc_decode_piece.nd rfl (Or.inl rfl)) pgs_nil)))))))))
      (pss_cons (ps_if (PW.pt (pw_or (pt_cmpR op_ne (pv 1) (pe_glob (v := .int 76) rfl m_MARK ⟨_, rfl⟩) (nomark _)) (pw_or (pt_cmpR op_ne (pe_ix (ixL (K := K) rfl) (pv 7) (pe_un un_neg pe_int) (fun _ _ => rfl)) (pe_glob (v := .int 76) rfl m_MARK ⟨_, rfl⟩) (nomark _)) (pw_or (pt_cmpR op_ge (pv 2) (pv 3) (nomark _)) (pw_or1 (pt_cmpR op_gt (pv 6) (pe_glob (v := .int 24) rfl m_PIECE ⟨_, rfl⟩) (nomark _))))))) (pss_one (ps_ret pe_non)) pss_nil)
      (pss_cons (ps_set (i := 8) sc_decode_piece.nd rfl (.inl rfl) (pe_slice (kSlL (K := K) rfl) (pv 7) po_none (po_some (pv 6))))
      (pss_cons (ps_if (PW.pt (pw_or (pt_not (pt_val (pe_callB (kAll (K := K) rfl rfl) (by rfl) T.all (by decide +kernel) (pa_cons (pe_lc (own := [("code", 9)]) rfl sc_decode_piece.nd (piL (K := K) rfl (pv 8)) (blkOk_by (N := n_decode_piece) (sc := defScope s_decode_piece) (by decide +kernel)) (fun _ _ _ _ _ => pg_name (i := 9) sc_decode_piece.nd rfl (Or.inl rfl)) (fun _ _ _ _ _ => pts_nil) (fun _ _ _ _ _ => (pe_cal H_is_code hr pass0 (pa_cons (pv 9) pa_nil)))) pa_nil)))) (pw_or1 (pt_val (pe_callB (kAny (K := K) rfl rfl) (by rfl) T.any (by decide +kernel) (pa_cons (pe_lc (own := [("byte", 10)]) rfl sc_decode_piece.nd (piL (K := K) rfl (pe_slice (kSlL (K := K) rfl) (pv 7) (po_some (pv 6)) (po_some (pe_un un_neg pe_int)))) (blkOk_by (N := n_decode_piece) (sc := defScope s_decode_piece) (by decide +kernel)) (fun _ _ _ _ _ => pg_name (i := 10) sc_decode_piece.nd rfl (Or.inl rfl)) (fun _ _ _ _ _ => pts_nil) (fun _ _ _ _ _ => (pe_cmpR op_ne (pv 10) pe_int (nomark _)))) pa_nil)))))) (pss_one (ps_ret pe_non)) pss_nil)
      (pss_one (ps_ret (pe_tup (pa_cons (pv 2) (pa_cons (pv 3) (pa_cons (pe_op op_add (pe_op op_mul (pv 4) pe_int) (pv 5)) (pa_cons (pe_join pe_str (pe_lc (own := [("code", 9)]) rfl sc_decode_piece.nd (piL (K := K) rfl (pv 8)) (blkOk_by (N := n_decode_piece) (sc := defScope s_decode_piece) (by decide +kernel)) (fun _ _ _ _ _ => pg_name (i := 9) sc_decode_piece.nd rfl (Or.inl rfl)) (fun _ _ _ _ _ => pts_nil) (fun _ _ _ _ _ => (pe_cal H_sign_of hr pass0 (pa_cons (pv 9) pa_nil))))) pa_nil)))))))))), ?_⟩
    have hl : (iv ns).length = 32 := by rw [List.length_map]; exact hB.1
    refine ⟨_, rfl, a, iv ns, rfl, hS, by rw [hl]; decide, by rw [hl]; decide, fun D nD => ?_⟩
    have e6 : (iv ns).take 6 = [.int (ns.getD 0 0), .int (ns.getD 1 0), .int (ns.getD 2 0), .int (ns.getD 3 0), .int (ns.getD 4 0), .int (ns.getD 5 0)] := by
      apply List.ext_getElem?
      intro i
      rcases Nat.lt_or_ge i 6 with h | h
      · rw [List.getElem?_take_of_lt h, List.getElem?_map, (hB.get (show i < 32 by omega)).1]
        rcases i with _ | _ | _ | _ | _ | _ | i <;> first | rfl | omega
      · rw [List.getElem?_eq_none (by rw [List.length_take]; omega), List.getElem?_eq_none (by simpa using h)]
    rw [e6]
    have s1 : Same H (upd H D (.lst ((iv ns).drop 6))) := same_upd nD
    have sD : SqL K (upd H D (.lst ((iv ns).drop 6))) D ((iv ns).drop 6) := sqL upd_same
    generalize upd H D (.lst ((iv ns).drop 6)) = H1 at s1 sD ⊢
    have hd6 : ((iv ns).drop 6).length = 26 := by rw [List.length_drop, hl]
    refine ⟨_, _, rfl, _, _, rfl, _, _, rfl, _, _, rfl, _, _, rfl, _, _, rfl, _, _, rfl, rfl, ?_⟩
    obtain ⟨g0, p0⟩ := hB.get (i := 0) (by decide)
    obtain ⟨g5, p5⟩ := hB.get (i := 5) (by decide)
    have elast : atI ((iv ns).drop 6) (-1) = some (V.int (ns.getD 31 0)) := by
      have e1 : ixN 26 (-1) = some 25 := by decide
      unfold atI
      rw [hd6, e1]
      show ((iv ns).drop 6)[25]? = _
      rw [List.getElem?_drop, List.getElem?_map, (hB.get (show 6 + 25 < 32 by decide)).1]
      rfl
    have hhead : (decide (ns.getD 0 0 ≠ 76) || (decide (ns.getD 31 0 ≠ 76) || (decide (ns.getD 2 0 ≤ ns.getD 1 0) || decide ((24 : Int) < ns.getD 5 0)))) = !headM ns := by
      unfold headM
      simp [GE.ge, GT.gt]
    refine sqIf (etOr (etTest (evNeI (evVar (i := 1) rfl) (evC (v := .int 76)))) (etOr (etTest (evNeI (evIxL (K := K) (evVar (i := 7) rfl) (evNeg (evC (v := .int 1))) sD elast) (evC (v := .int 76)))) (etOr (etTest (evI0 (f := fun i j => V.bl (decide (j ≤ i))) (evVar (i := 2) rfl) (evVar (i := 3) rfl))) (etTest (evI0 (f := fun i j => V.bl (decide (j < i))) (evVar (i := 6) rfl) (evC (v := .int 24))))))) (fun hb H2 s2 => ?_) (fun hb H2 s2 => ?_)
    · rw [hhead] at hb
      have ho : okM ns = false := by
        unfold okM
        rw [bnot_t hb]
        rfl
      refine q .non H2 (s1.trans s2) ?_ (by rw [ho]; rfl)
      unfold decD decM
      rw [ho]
      exact .non
    have hhd : headM ns = true := by
      rw [hhead] at hb
      exact bnot_f hb
    obtain ⟨n, hn⟩ : ∃ n : Nat, ns.getD 5 0 = (n : Int) := ⟨(ns.getD 5 0).toNat, by omega⟩
    have hn24 : n ≤ 24 := by
      simp only [Bool.or_eq_false_iff, decide_eq_false_iff_not] at hb
      omega
    refine sqSetR (evSlL (evVarL (i := 7) rfl (s2.seq sD)) evNo (evPart (evVar (i := 6) rfl))) fun v H3 s3 ⟨C, ev, nC, hC⟩ => ?_
    subst ev
    rw [hn, cut_to, drop_iv, take_iv] at hC
    have hcod : (ns.drop 6).take n = codesM ns := by
      unfold codesM
      rw [hn, Int.toNat_natCast]
    rw [hcod] at hC
    have hrest : cutV ((iv ns).drop 6) (some (ns.getD 5 0)) (some (-1)) = iv (restM ns) := by
      rw [hn, cut_back _ _ (by rw [← List.length_pos_iff, hd6]; decide), hd6, drop_iv, drop_iv, take_iv, List.drop_drop]
      unfold restM
      rw [hn, Int.toNat_natCast, show 26 - 1 - n = 25 - n by omega]
    have hcl : (codesM ns).length ≤ 24 := by
      unfold codesM
      rw [hn, List.length_take, Int.toNat_natCast]
      omega
    have hrl : (restM ns).length ≤ 25 := by
      unfold restM
      rw [hn, List.length_take]
      omega
    have sD3 := (s2.trans s3).seq sD
    refine sqIf (etOr (etNot (etVal (evAll (bs := (codesM ns).map isCode) (by
        rw [List.map_map]
        exact (evLc (g := V.int) (f := V.bl ∘ isCode) (evVarL (i := 8) rfl (sqL hC)) (by omega) fun c hc H5 s5 H6 s6 Q k => ⟨_, rfl, c, rfl, k H6 (.refl _)⟩).ns)))) (etVal (evAny (bs := (restM ns).map fun b => decide (b ≠ 0)) (by
        rw [List.map_map]
        exact (evLc (g := V.int) (f := V.bl ∘ fun b => decide (b ≠ 0)) ((evSlL (evVarL (i := 7) rfl sD3) (evPart (evVar (i := 6) rfl)) (evPart (evNeg (evC (v := .int 1))))).ns.eq hrest) (by omega) fun c hc H5 s5 => evNeI (evVar (i := 10) rfl) (evC (v := .int 0))).ns)))) (fun hb H4 s4 => ?_) (fun hb H4 s4 => ?_)
    all_goals
      have ha : ((codesM ns).map isCode).all id = (codesM ns).all isCode := by rw [List.all_map]; rfl
      have hz : ((restM ns).map fun b => decide (b ≠ 0)).any id = !((restM ns).all fun b => decide (b = 0)) := by
        rw [List.any_map, List.not_all_eq_any_not]
        congr 1
        funext b
        simp
      rw [ha, hz] at hb
    · have ho : okM ns = false := by
        unfold okM
        rw [← Bool.not_eq_true', Bool.not_and, Bool.not_and, hb, Bool.or_true]
      refine q .non H4 (s1.trans (s2.trans (s3.trans s4))) ?_ (by rw [ho]; rfl)
      unfold decD decM
      rw [ho]
      exact .non
    · rw [Bool.or_eq_false_iff] at hb
      have hc := bnot_f hb.1
      have ho : okM ns = true := by
        unfold okM
        rw [hhd, hc, bnot_f hb.2]
        rfl
      have hC4 := s4 _ _ hC
      refine retR (evTup (evCons (evVar (i := 2) rfl) (evCons (evVar (i := 3) rfl) (evCons (evI0 (evMul (evVar (i := 4) rfl) (evC (v := .int 256)) (.inr ⟨by decide, by decide⟩)) (evVar (i := 5) rfl)) (evCons (v := .str (textOf (codesM ns))) (fun H5 s5 Q5 k => ⟨⟨_, rfl⟩, evLc (f := V.str ∘ signOf) (g := V.int) (evVarL (i := 8) rfl (sqL hC4)) (by omega)
        (fun c hcc H6 s6 H7 s7 Q7 k7 => ⟨_, rfl, c, rfl, List.all_eq_true.mp hc c hcc, k7 H7 (.refl _)⟩) H5 s5 _ fun v H6 s6 ⟨p, e, np, hp⟩ => ⟨"", p, (codesM ns).map signOf, rfl, by rw [e], .inl (sqL (by rw [hp, List.map_map])), ?_, by rw [join_signs]; exact k H6 s6⟩⟩) evNil)))) (by simp)) fun v H5 s5 ⟨p, e, np, hp⟩ => ?_
      · have : (((codesM ns).map signOf).map (·.length)).sum = (codesM ns).length := by
          rw [List.map_map]
          induction codesM ns with
          | nil => rfl
          | cons c r ih => rw [List.map_cons, List.sum_cons, ih, List.length_cons]; show 1 + _ = _; omega
        rw [this]
        show _ + _ * 0 ≤ _
        omega
      · subst e
        refine q _ H5 (s1.trans (s2.trans (s3.trans (s4.trans s5)))) ?_ (by rw [ho]; rfl)
        unfold decD decM
        rw [if_pos ho, show 256 * ns.getD 3 0 + ns.getD 4 0 = ns.getD 3 0 * 256 + ns.getD 4 0 by rw [Int.mul_comm]]
        exact .tup (sqT hp) (.cons (.int _) (.cons (.int _) (.cons (.int _) (.cons (.str _) .nil))))
end
end KX

set_option maxRecDepth 100000
set_option maxHeartbeats 4000000
/-! Kb: the law's texts and pieces. -/
namespace KX
open PySem PySem.Spec PyProof.Rows L2 TL Ga
abbrev LSIGNS : Str := " !\"#$&'()*+,-./0123456789:;<=>?@ABCDEFGHIJKLMNOPQRSTUVWXYZ[\\]^_`abcdefghijklmnopqrstuvwxyz{|}~\n"
theorem lsigns_len : LSIGNS.length = 95 := by decide +kernel
theorem lsigns_ok : ∀ c ∈ tl LSIGNS, okS c = true := by decide +kernel
/-- a text out of the box -/
def spStored : Sp := fun vs H Q _ => ∃ (B D : Addr) (m : Nat), vs = [.ref B, .int (m : Int)] ∧ m ≤ 1000 ∧ Box H B D ∧ ∀ (z : Str) (H' : Hp), (tl z).length = m → (∀ c ∈ tl z, okS c = true) → Kp B H H' → Box H' B D → Q (.str z) H'
/-- rows of numbers, each a list of its own -/
def RowsL (H : Hp) (p : Addr) (as : List Addr) (rs : List (List Int)) : Prop := H p = some (.lst (as.map V.ref)) ∧ (∀ a ∈ as, a ≠ p) ∧ Paired (fun a ns => H a = some (.lst (iv ns))) as rs
def spPieces : Sp := fun vs H Q _ => ∃ (n : Int) (z : Str), vs = [.int n, .str z] ∧ 0 ≤ n ∧ n < 65536 ∧ (tl z).length ≤ 6200 ∧ ∀ (p : Addr) (as : List Addr) (H' : Hp), Same H H' → H p = none → (∀ a ∈ as, H a = none) → RowsL H' p as (piecesM n (tl z)) → Q (.ref p) H'
section
variable {P : Program} {w : World} {K : PySem.W.Frag} {mg : Str → Option Value} {base : Heap}
theorem ok_stored {f : Addr} {fd : FuncData} (F : Fun K "_law_stored_text" "_law_stored_text" s_L_stored_text f fd) (T : Tx mg) (H_law_draw : Cal P w K mg base 1 "_law_draw" ["box", "many"] spDraw) : FnOk P w K mg base CX0 2 f fd ["box", "many"] spStored := by
  refine F.ok sc_L_stored_text (fun vs H Q E h => ?_) (fun cdv A outer s H vs Q E hr h => ?_)
  · obtain ⟨B, D, m, rfl, _⟩ := h
    rfl
  · obtain ⟨B, D, m, rfl, hm, bx, q⟩ := h
    refine ⟨_, pss_cons (ps_set (i := 2) sc_L_stored_text.nd rfl (.inl rfl) pe_str)
      (pss_cons (ps_set (i := 3) sc_L_stored_text.nd rfl (.inl rfl) pe_str)
      (pss_cons (ps_for PassesOwn.never rfl (pi_range1 (by rfl) T.range (pa_cons (pv 1) pa_nil)) (pg_name (i := 4) sc_L_stored_text.nd rfl (Or.inl rfl))
      (pss_one (ps_set (i := 3) sc_L_stored_text.nd rfl (.inl rfl) (pe_op op_add_str (pv 3) (pe_ix ix_str (pv 2) (pe_cal H_law_draw hr pass0 (pa_cons (pv 0) (pa_cons (pe_callB call_len_str (by rfl) T.len PySem.boot_len (pa_cons (pv 2) pa_nil)) pa_nil))) (fun _ _ => rfl))))))
      (pss_one (ps_ret (pv 3))))), ?_⟩
    refine ⟨_, rfl, (m : Int), rfl, by omega, by omega, ?_⟩
    rw [Int.toNat_natCast]
    refine for_range (lo := 0) (n := m) (fun i σ H' => ∃ (z : Str) (o : Option V), σ = [some (.ref B), some (.int m), some (.str LSIGNS), some (.str z), o] ∧ (tl z).length = i ∧ (∀ c ∈ tl z, okS c = true) ∧ Kp B H H' ∧ Box H' B D)
      ⟨"", none, rfl, rfl, fun c hc => (by cases hc), .refl _ _, bx⟩ ?_ ?_
    · rintro i σ H1 hi ⟨z, o, rfl, hl, hz, kp, bx1⟩
      refine ⟨_, rfl, _, rfl, _, rfl, _, rfl, LSIGNS, rfl, by rw [lsigns_len]; decide, B, D, (LSIGNS.length : Int), rfl, by rw [lsigns_len]; decide, bx1, fun r H2 r0 rm kp2 bx2 => ?_⟩
      have hr1 : r.toNat < (tl LSIGNS).length := by rw [← len_tl]; omega
      refine ⟨LSIGNS, r, (tl LSIGNS)[r.toNat], rfl, rfl, by rw [lsigns_len]; decide, ?_, _, _, rfl, rfl, ?_, ?_⟩
      · have e : ((r.toNat : Nat) : Int) = r := by omega
        have h := atI_nat (List.getElem?_eq_getElem hr1)
        rw [e] at h
        exact h
      · show z.length + 1 ≤ _
        rw [len_tl, hl]
        exact Nat.le_trans (show i + 1 ≤ 1001 by omega) (by decide)
      · have e : tl (z ++ (⟨#[(tl LSIGNS)[r.toNat]]⟩ : Str)) = tl z ++ [(tl LSIGNS)[r.toNat]] := tl_append _ _
        refine ⟨_, _, rfl, by rw [e, List.length_append, hl]; rfl, fun c hc => ?_, kp.trans kp2, bx2⟩
        rw [e] at hc
        rcases List.mem_append.mp hc with h | h
        · exact hz c h
        · rw [List.mem_singleton.mp h]
          exact lsigns_ok _ (List.getElem_mem hr1)
    · rintro σ H1 ⟨z, o, rfl, hl, hz, kp, bx1⟩
      exact ⟨_, rfl, q z H1 hl hz kp bx1⟩
theorem cutS_tl (z : Str) (a b : Nat) : tl (cutS z (some (a : Int)) (some (b : Int))) = ((tl z).drop a).take (b - a) := by
  unfold cutS
  rw [show HT.sIx z.length 0 (some (a : Int)) = min a z.length from HT.sIx_nat _ _ _, show HT.sIx z.length z.length (some (b : Int)) = min b z.length from HT.sIx_nat _ _ _, tl_mk, len_tl]
  show ((tl z).drop _).take _ = _
  rcases Nat.lt_or_ge a (tl z).length with h | h
  · rw [Nat.min_eq_left (Nat.le_of_lt h)]
    apply List.ext_getElem?
    intro i
    rw [List.getElem?_take, List.getElem?_take, List.getElem?_drop]
    by_cases h1 : i < b - a
    · rw [if_pos h1]
      by_cases h2 : i < min b (tl z).length - a
      · rw [if_pos h2]
      · rw [if_neg h2, List.getElem?_eq_none (by omega)]
    · rw [if_neg h1, if_neg (by omega)]
  · rw [Nat.min_eq_right h, List.drop_eq_nil_of_le (Nat.le_refl _), List.drop_eq_nil_of_le h, List.take_nil, List.take_nil]
theorem ok_pieces {f : Addr} {fd : FuncData} (F : Fun K "_law_pieces" "_law_pieces" s_L_pieces f fd) (T : Tx mg) : FnOk P w K mg base CX0 1 f fd ["number", "text"] spPieces := by
  refine F.ok sc_L_pieces (fun vs H Q E h => ?_) (fun cdv A outer s H vs Q E hr h => ?_)
  · obtain ⟨B, D, rfl, _⟩ := h
    rfl
  · obtain ⟨n, z, rfl, n0, n1, hz, q⟩ := h
    refine ⟨_, pss_cons (ps_set (i := 2) sc_L_pieces.nd rfl (.inl rfl) (pe_lst pa_nil))
      (pss_cons (ps_set (i := 3) sc_L_pieces.nd rfl (.inl rfl) (pe_callB (call_max2 rfl) (by rfl) T.max (by decide +kernel) (pa_cons pe_int (pa_cons (pe_op op_fdiv (pe_op op_add (pe_callB call_len_str (by rfl) T.len PySem.boot_len (pa_cons (pv 1) pa_nil)) pe_int) pe_int) pa_nil))))
      (pss_cons (ps_for PassesOwn.never rfl (pi_range1 (by rfl) T.range (pa_cons (pv 3) pa_nil)) (pg_name (i := 4) sc_L_pieces.nd rfl (Or.inl rfl))
      (pss_cons (ps_set (i := 5) sc_L_pieces.nd rfl (.inl rfl) (pe_slice sl_str (pv 1) (po_some (pe_op op_mul pe_int (pv 4))) (po_some (pe_op op_add (pe_op op_mul pe_int (pv 4)) pe_int))))
      (pss_cons (ps_set (i := 6) sc_L_pieces.nd rfl (.inl rfl) (pe_lst (pa_cons pe_int (pa_cons (pv 4) (pa_cons (pv 3) (pa_cons (pe_op op_fdiv (pv 0) pe_int) (pa_cons (pe_op op_mod (pe_callTy call_int1 (by rfl) T.int (by decide +kernel) (pa_cons (pv 0) pa_nil)) pe_int) (pa_cons (pe_callB call_len_str (by rfl) T.len PySem.boot_len (pa_cons (pv 5) pa_nil)) pa_nil))))))))
      (pss_cons (ps_for PassesOwn.never rfl (pi_str (pv 5)) (pg_name (i := 7) sc_L_pieces.nd rfl (Or.inl rfl))
      (pss_one (ps_expr (pe_bm PySem.F.plainAttrs_list PySem.F.slot_list_append PySem.F.type_list_append mt_append (pv 6) (pa_cons (pe_callB call_ord (by rfl) T.ord (by decide +kernel) (pa_cons (pv 7) pa_nil)) pa_nil)))))
      (pss_one (ps_expr (pe_bm PySem.F.plainAttrs_list PySem.F.slot_list_append PySem.F.type_list_append mt_append (pv 2) (pa_cons (pe_op op_cat (pe_op op_cat (pv 6) (pe_op op_rep (pe_lst (pa_cons pe_int pa_nil)) (pe_op op_sub pe_int (pe_callB (kLen (K := K) rfl) (by rfl) T.len PySem.boot_len (pa_cons (pv 6) pa_nil))))) (pe_lst (pa_cons pe_int pa_nil))) pa_nil))))))))
      (pss_one (ps_ret (pv 2))))), ?_⟩
    refine ⟨Nat.zero_le _, fun p np => ?_⟩
    refine ⟨_, rfl, z, rfl, ?_, _, _, rfl, rfl, _, _, rfl, rfl, ⟨by decide, by decide⟩, 1, _, rfl, ?_⟩
    · rw [len_tl]; exact Nat.le_trans hz (by decide)
    have hzl : z.length = (tl z).length := len_tl z
    have em : (if (((z.length : Nat) : Int) + 23) / 24 > 1 then (((z.length : Nat) : Int) + 23) / 24 else 1) = ((manyM (tl z).length : Nat) : Int) := by
      unfold manyM
      rw [hzl]
      split <;> omega
    have hM1 : 1 ≤ manyM (tl z).length := Nat.le_max_left _ _
    have hM2 : manyM (tl z).length ≤ 260 := by
      unfold manyM
      omega
    show tSeq _ _ _ (List.set _ 3 (some (V.int (if (((z.length : Nat) : Int) + 23) / 24 > 1 then (((z.length : Nat) : Int) + 23) / 24 else 1)))) _
    rw [em]
    generalize hM : manyM (tl z).length = M at hM1 hM2 ⊢
    refine ⟨_, rfl, (M : Int), rfl, by omega, by omega, ?_⟩
    rw [Int.toNat_natCast]
    refine for_range (lo := 0) (n := M) (fun i σ H' => ∃ (as : List Addr) (o4 o5 o6 o7 : Option V), σ = [some (.int n), some (.str z), some (.ref p), some (.int M), o4, o5, o6, o7] ∧ Same H H' ∧
        RowsL H' p as ((List.range i).map fun k => pieceM (k : Nat) (M : Nat) n (partM (tl z) k)) ∧ as.length = i ∧ ∀ a ∈ as, H a = none) ⟨[], none, none, none, none, rfl, same_upd np, ⟨upd_same, (fun _ h => nomatch h), .nil⟩, rfl, fun _ h => nomatch h⟩ ?_ ?_
    · rintro i σ H1 hi ⟨as, o4, o5, o6, o7, rfl, s1, ⟨hp, hne, hrow⟩, hal, hfr⟩
      refine sqSet (v := .str ⟨(partM (tl z) i).toArray⟩) (fun H2 s2 Q2 k2 => ⟨_, rfl, _, rfl, _, _, rfl, rfl, .inl ⟨by decide, by decide⟩, _, rfl, _, rfl, _, _, rfl, rfl, .inl ⟨by decide, by decide⟩, _, _, rfl, rfl, _, rfl, z, rfl, ?_, ?_⟩) fun H2 s2 => ?_
      · rw [hzl]; exact Nat.le_trans hz (by decide)
      · have e1 : (24 : Int) * (0 + (i : Int)) = ((24 * i : Nat) : Int) := by omega
        have e2 : ((24 * i : Nat) : Int) + 24 = ((24 * i + 24 : Nat) : Int) := by omega
        rw [e1, e2]
        have e3 : cutS z (some ((24 * i : Nat) : Int)) (some ((24 * i + 24 : Nat) : Int)) = ⟨(partM (tl z) i).toArray⟩ := ext_tl (by rw [cutS_tl, show 24 * i + 24 - 24 * i = 24 by omega]; rfl)
        rw [e3]
        exact k2 _ (.refl _)
      generalize hpart : partM (tl z) i = part
      have hpl : part.length ≤ 24 := hpart ▸ part_len _ _
      have eL : (⟨part.toArray⟩ : Str).length = part.length := by rw [len_tl]
      refine sqSetR (evLst (evCons (evC (v := .int 76)) (evCons (evVar (i := 4) rfl) (evCons (evVar (i := 3) rfl) (evCons (v := .int (n / 256)) (fun H3 s3 Q3 k3 => ⟨_, rfl, _, _, rfl, rfl, ⟨by decide, by decide⟩, k3 _ (.refl _)⟩) (evCons (v := .int (n % 256)) (fun H3 s3 Q3 k3 => ⟨_, rfl, .inl ⟨_, rfl, _, _, rfl, rfl, (by decide : (0 : Int) < 256), k3 _ (.refl _)⟩⟩)
        (evCons (evLenS (evVar (i := 5) rfl) (by rw [eL]; exact Nat.le_trans hpl (by decide))) evNil)))))) (by simp)) fun v H3 s3 ⟨b, ev, nb, hb⟩ => ?_
      subst ev
      rw [eL, show (0 : Int) + (i : Int) = (i : Int) by omega] at hb
      have nb1 : H1 b = none := same_at s2 nb
      have bp : b ≠ p := fun e => by rw [e, hp] at nb1; cases nb1
      refine ⟨_, rfl, ⟨part.toArray⟩, rfl, ?_⟩
      have hcs : (⟨part.toArray⟩ : Str).cps.size = part.length := by simp
      refine for_it (walk_str (z := ⟨part.toArray⟩)) (fun j σ H' => ∃ (o7 : Option V), σ = [some (.int n), some (.str z), some (.ref p), some (.int M), some (.int (0 + (i : Int))), some (.str ⟨part.toArray⟩), some (.ref b), o7] ∧ Same H1 H' ∧
        H' b = some (.lst (iv ([76, (i : Int), M, n / 256, n % 256, (part.length : Int)] ++ upI (part.take j))))) ⟨o7, rfl, s2.trans s3, hb⟩ (fun _ _ _ _ _ => trivial) ?_ ?_
      · rintro j x σ H4 H5 hj ⟨o, rfl, s4, hb4⟩ ⟨rfl, c, hc, rfl⟩
        have hcp : part[j]? = some c := by simpa using hc
        refine ⟨_, rfl, .inl ⟨rfl, _, sqL hb4⟩, _, rfl, ⟨#[c]⟩, rfl, rfl, b, _, _, rfl, rfl, hb4, ?_, ?_⟩
        · simp only [List.length_map, List.length_append, upI_len, List.length_take]
          exact Nat.lt_of_le_of_lt (show _ ≤ 100 by simp; omega) (by decide)
        · refine ⟨_, rfl, s4.mut nb1, ?_⟩
          rw [upd_same, List.take_add_one, hcp]
          simp [iv, upI]
      · rintro σ H4 ⟨o, rfl, s4, hb4⟩
        rw [hcs, List.take_length] at hb4
        have hlen : (iv ([76, (i : Int), M, n / 256, n % 256, (part.length : Int)] ++ upI part)).length = 6 + part.length := by
          simp [upI_len]; omega
        refine ⟨_, rfl, .inl ⟨rfl, _, sqL (s4 _ _ hp)⟩, ?_⟩
        refine (evCat (evCat (evVarT (i := 6) rfl hb4) (evRep (k := 25 - part.length) (evLst (evCons (evC (v := .int 0)) evNil) (by simp)).nt ((evI0 (evC (v := .int 31)) (evLenL (K := K) (evVar (i := 6) rfl) (sqL hb4))).eq (by rw [hlen]; congr 1; omega)) (by simp; omega) (by omega)).nt (by rw [hlen]; simp [List.length_flatten]; omega)).nt (evLst (evCons (evC (v := .int 76)) evNil) (by simp)).nt (by
          rw [List.length_append, hlen]; simp [List.length_flatten]; omega)).go fun v H6 s6 ⟨r, er, nr, hr6⟩ => ?_
        subst er
        have s16 := s4.trans s6
        refine ⟨p, _, _, rfl, rfl, s16 _ _ hp, ?_, ?_⟩
        · rw [List.length_map, hal]
          exact Nat.lt_of_le_of_lt (show i ≤ 260 by omega) (by decide)
        have nr1 : H1 r = none := same_at s4 nr
        have rp : r ≠ p := fun e => by rw [e, hp] at nr1; cases nr1
        refine ⟨as ++ [r], _, _, _, _, rfl, fun c o e => ?_, ⟨?_, ?_, ?_⟩, by rw [List.length_append, hal]; rfl, fun c hc => (List.mem_append.mp hc).elim (hfr c) fun h => by rw [List.mem_singleton.mp h]; exact same_at s1 nr1⟩
        · rw [upd_ne (ne_of_none e np)]
          exact s16 _ _ (s1 _ _ e)
        · rw [upd_same, List.map_append]; rfl
        · intro c hc
          rcases List.mem_append.mp hc with h | h
          · exact hne c h
          · rw [List.mem_singleton.mp h]; exact rp
        · rw [List.range_succ, List.map_append]
          refine Paired.snoc ?_ ?_
          · refine (paired_and hrow hne).mono fun c ns h => ?_
            rw [upd_ne h.1]
            exact s16 _ _ h.2
          · rw [upd_ne rp, hr6]
            show some (HO.lst _) = some (HO.lst (iv (pieceM (i : Nat) (M : Nat) n (partM (tl z) i))))
            rw [hpart, flat_one]
            unfold pieceM iv
            simp only [List.map_append, List.map_replicate, List.append_assoc]
            rfl
    · rintro σ H1 ⟨as, o4, o5, o6, o7, rfl, s1, hR, hal, hfr⟩
      refine ⟨_, rfl, q p as H1 s1 np hfr ?_⟩
      unfold piecesM
      rw [hM]
      exact hR
end
end KX

set_option maxRecDepth 100000
set_option maxHeartbeats 4000000
/-! J4: isinstance, enumerate, starred items, long texts. -/
namespace Ga
open PySem PySem.Spec PyProof.Rows L2 TL StX
section
variable {X : Cx} {K : PySem.W.Frag}
theorem kIsi (h : X.K = K) : CallR X (.builtin "isinstance") (rIsi K) := by
  subst h
  exact call_isi
theorem kEnum (h : X.K = K) {e : Expr} {ta : TA} {p pos tpos : Pos} {elts : List Expr} {kk : Nat} (hg : Gl X "enumerate") (hm : X.mg "enumerate" = none) (ha : PA X [e] ta) (hs : starEach [e] X.env = [(false, eval e X.env)] := by rfl) :
    PI X (.Tuple elts kk tpos) (.Call (.Name "enumerate" p) [e] [] pos) (iEnum K ta) := by
  subst h
  exact pi_enum hg hm ha hs
theorem kStar (h : X.K = K) {e : Expr} {es : List Expr} {te : TE} {t : TA} {p : Pos} (he : PE X e te) (hr : PA X es t) (hs : starEach (.Starred e p :: es) X.env = (true, eval e X.env) :: starEach es X.env := by rfl) : PA X (.Starred e p :: es) (tStar K te t) := by
  subst h
  exact pa_star he hr hs
end
theorem tyTup {K : PySem.W.Frag} {H : Hp} {a : Addr} {xs : List V} (h : SqT K H a xs) : TyX K H (.ref a) (.type "tuple") := by
  rcases h with (h | ⟨o, h⟩) | ⟨o, its, n, h, c, _⟩
  · exact .base (.tup h)
  · exact .fTuple h
  · exact .kTuple h c
theorem tyLst {K : PySem.W.Frag} {H : Hp} {a : Addr} {xs : List V} (h : SqL K H a xs) : TyX K H (.ref a) (.type "list") := by
  rcases h with (h | ⟨o, h⟩) | ⟨o, its, n, h, c, _⟩
  · exact .base (.lst h)
  · exact .base (.frz h)
  · exact .kList h c
def dRs (rs : List (List Int)) : PyData := .list (rs.map dI)
theorem can_rs : ∀ rs : List (List Int), PyData.canLayAll0 (rs.map dI) = true
  | [] => rfl
  | z :: r => by
    show (PyData.canLayAll0 (z.map PyData.int) && PyData.canLayAll0 (r.map dI)) = true
    rw [can_ints, can_rs r]
    rfl
theorem depth_rs : ∀ rs : List (List Int), PyData.depthAll (rs.map dI) ≤ 1
  | [] => Nat.zero_le _
  | z :: r => by
    show max (PyData.depthAll (z.map PyData.int) + 1) (PyData.depthAll (r.map dI)) ≤ 1
    rw [depth_ints]
    exact Nat.max_le.mpr ⟨Nat.le_refl _, depth_rs r⟩
theorem shaped_rs (rs : List (List Int)) : SeqAt.shaped (dRs rs) = true := by
  unfold SeqAt.shaped dRs
  rw [show PyData.canLay0 (.list (rs.map dI)) = PyData.canLayAll0 (rs.map dI) from rfl, can_rs rs, show PyData.depth (.list (rs.map dI)) = PyData.depthAll (rs.map dI) + 1 from rfl, Bool.true_and, decide_eq_true_eq]
  have := depth_rs rs
  omega
/-- text * number, long -/
def rMulL : R2 := fun x y H Q => ∃ (z : Str) (n : Int), x = .str z ∧ y = .int n ∧ 0 ≤ n ∧ n ≤ 10000 ∧ (tl z).length ≤ 1000 ∧ ∀ r : Str, tl r = (List.replicate n.toNat (tl z)).flatten → Q (.str r) H
theorem op_mulL {X : Cx} : OpR X (binaryOp .Mult) rMulL := by
  intro pins s σ H x y v u Q I rx ry h
  obtain ⟨z, n, rfl, rfl, h0, h1, hz, q⟩ := h
  obtain ⟨t, rfl⟩ := rx
  obtain ⟨t2, rfl⟩ := ry
  have hl : z.length = (tl z).length := len_tl z
  have e63 : (2 : Int) ^ 63 = 9223372036854775808 := by decide
  refine PySem.P.mul_str ?_ (fun a b => ?_) (fun a b => ?_) ?_
  · rw [decide_eq_false (by omega), decide_eq_false (by omega)]
    rfl
  · have : (2 ^ 63 - 1 : Int) / n ≥ (2 ^ 63 - 1 : Int) / 10000 := by
      rw [e63]
      apply Int.le_ediv_of_mul_le (by omega)
      have : (9223372036854775808 - 1 : Int) / 10000 = 922337203685477 := by decide
      rw [this]
      have := Int.mul_le_mul_of_nonneg_left h1 (show (0 : Int) ≤ 922337203685477 by decide)
      omega
    have e2 : (2 ^ 63 - 1 : Int) / 10000 = 922337203685477 := by decide
    omega
  · have : z.length * n.toNat ≤ 1000 * 10000 := Nat.mul_le_mul (by omega) (by omega)
    have s1 : sizeLine = 16777216 := by decide
    exact decide_eq_false (by omega)
  · split
    · have e0 : n.toNat = 0 := by omega
      refine ⟨by decide, .str Str.empty, H, I.tok _, ⟨_, rfl⟩, q _ ?_⟩
      rw [e0]
      rfl
    · split
      · rename_i g1 g2
        refine ⟨.str z, H, I, ⟨_, rfl⟩, q z ?_⟩
        rw [Bool.or_eq_true, beq_iff_eq, beq_iff_eq] at g2
        rcases g2 with g2 | g2
        · rw [g2]
          show tl z = tl z ++ []
          rw [List.append_nil]
        · have e0 : tl z = [] := List.length_eq_zero_iff.mp (by rw [← hl]; exact g2)
          have := flat_len (tl z) n.toNat
          rw [e0] at this ⊢
          exact (List.length_eq_zero_iff.mp (by simpa using this)).symm
      · have e : tl ⟨(List.replicate n.toNat z.cps).foldl (· ++ ·) #[]⟩ = (List.replicate n.toNat (tl z)).flatten := flat_arr z.cps n.toNat #[]
        have s1 : sizeLine = 16777216 := by decide
        refine ⟨?_, .str _, H, I.tok _, ⟨_, rfl⟩, q _ e⟩
        rw [len_tl, e, flat_len]
        have : n.toNat * (tl z).length ≤ 10000 * 1000 := Nat.mul_le_mul (by omega) (by omega)
        omega
end Ga

set_option maxRecDepth 100000
set_option maxHeartbeats 4000000
/-! Kd: records made (sameanswers.blocks). -/
namespace KX
open PySem PySem.Spec PyProof.Rows L2 TL Ga NdefX StX
def spCount : Sp := fun vs H Q _ => ∃ z : Str, vs = [.str z] ∧ (tl z).length ≤ 100000 ∧ Q (.int (manyM (tl z).length : Nat)) H
def spEncP : Sp := fun vs H Q _ => ∃ (k many n : Int) (z : Str), vs = [.int k, .int many, .int n, .str z] ∧ 0 ≤ n ∧ (tl z).length ≤ 24 ∧ ∀ p H', Same H H' → H p = none → H' p = some (.lst (iv (pieceM k many n (tl z)))) → Q (.ref p) H'
def spEncR (Co : Addr) : Sp := fun vs H Q E => ∃ (n : Int) (z : Str), vs = [.int n, .str z] ∧ 0 ≤ n ∧ (tl z).length ≤ 10000 ∧
  (manyM (tl z).length ≤ 255 → ∀ (p : Addr) (as : List Addr) (H' : Hp), Same H H' → H p = none → (∀ a ∈ as, H a = none) → RowsL H' p as (piecesM n (tl z)) → Q (.ref p) H') ∧ (255 < manyM (tl z).length → Oor Co "text" H E)
section
variable {K : PySem.W.Frag} {H : Hp} {σ : L2.St} {te : TE} {tr : TA} {xs vs : List V}
theorem evStar (h : EvR te σ H (sL K xs)) (ht : EvVs tr σ H vs) : EvVs (tStar K te tr) σ H (xs ++ vs) := fun H1 s Q k => h H1 s _ fun v H2 s2 ⟨p, e, hp⟩ => ⟨p, xs, e, .inr hp, ht H2 (s.trans s2) _ fun H3 s3 => k H3 (s2.trans s3)⟩
theorem evStrSl {z : Str} {i j : Nat} {tl' th : TO} (h : EvS te σ H (.str z)) (hl : EvO tl' σ H (some (i : Int))) (hh : EvO th σ H (some (j : Int))) (hz : (tl z).length ≤ 100000) : EvS (tSl rSlS te tl' th) σ H (.str ⟨(((tl z).drop i).take (j - i)).toArray⟩) := fun H1 s Q k =>
  h H1 s _ fun H2 s2 => hl H2 (s.trans s2) _ fun H3 s3 => hh H3 ((s.trans s2).trans s3) _ fun H4 s4 => ⟨z, rfl, by rw [len_tl]; exact Nat.le_trans hz (by decide), by
    have e : cutS z (some (i : Int)) (some (j : Int)) = ⟨(((tl z).drop i).take (j - i)).toArray⟩ := ext_tl (by rw [cutS_tl])
    rw [e]
    exact k H4 ((s2.trans s3).trans s4)⟩
end
section
variable {P : Program} {w : World} {K : PySem.W.Frag} {mg : Str → Option Value} {base : Heap}
theorem ok_count {f : Addr} {fd : FuncData} (F : Fun K "count_pieces" "count_pieces" s_count_pieces f fd) (T : Tx mg) : FnOk P w K mg base CX0 1 f fd ["text"] spCount := by
  obtain ⟨t_PIECE, m_PIECE⟩ := T.c_PIECE
  refine F.ok sc_count_pieces (fun vs H Q E h => ?_) (fun cdv A outer s H vs Q E hr h => ?_)
  · obtain ⟨z, rfl, _⟩ := h
    rfl
  · obtain ⟨z, rfl, hz, q⟩ := h
    refine ⟨_, pss_one (ps_ret (pe_callB (call_max2 rfl) (by rfl) T.max (by decide +kernel) (pa_cons pe_int (pa_cons (pe_op op_fdiv (pe_op op_sub (pe_op op_add (pe_callB call_len_str (by rfl) T.len PySem.boot_len (pa_cons (pv 0) pa_nil)) (pe_glob (v := .int 24) rfl m_PIECE ⟨_, rfl⟩)) pe_int) (pe_glob (v := .int 24) rfl m_PIECE ⟨_, rfl⟩)) pa_nil)))), ?_⟩
    refine ⟨_, rfl, z, rfl, by rw [len_tl]; exact Nat.le_trans hz (by decide), _, _, rfl, rfl, _, _, rfl, rfl, _, _, rfl, rfl, ⟨by decide, by decide⟩, 1, _, rfl, ?_⟩
    have hzl : z.length = (tl z).length := len_tl z
    have em : (if (((z.length : Nat) : Int) + 24 - 1) / 24 > 1 then (((z.length : Nat) : Int) + 24 - 1) / 24 else 1) = ((manyM (tl z).length : Nat) : Int) := by
      unfold manyM
      rw [hzl]
      split <;> omega
    rw [← em] at q
    exact q
theorem ok_encp {f : Addr} {fd : FuncData} (F : Fun K "encode_piece" "encode_piece" s_encode_piece f fd) (T : Tx mg) : FnOk P w K mg base CX0 1 f fd ["index", "many", "number", "text"] spEncP := by
  obtain ⟨t_MARK, m_MARK⟩ := T.c_MARK
  obtain ⟨t_PIECE, m_PIECE⟩ := T.c_PIECE
  refine F.ok sc_encode_piece (fun vs H Q E h => ?_) (fun cdv A outer s H vs Q E hr h => ?_)
  · obtain ⟨k, m, n, z, rfl, _⟩ := h
    rfl
  · obtain ⟨k, m, n, z, rfl, n0, hz, q⟩ := h
    refine ⟨_, pss_cons (ps_setLc (i := 4) (own := [("sign", 5)]) rfl sc_encode_piece.nd rfl rfl (sw_true rfl rfl rfl (by decide +kernel)) (pi_str (pv 3)) (blkOk_by (N := n_encode_piece) (sc := defScope s_encode_piece) (by decide +kernel)) (fun _ _ _ _ _ => pg_name (i := 5) sc_encode_piece.nd rfl (Or.inl rfl)) (fun _ _ _ _ _ => pts_nil) (fun _ _ _ _ _ => (pe_callB call_ord (by rfl) T.ord (by decide +kernel) (pa_cons (pv 5) pa_nil))))
      (pss_cons (ps_set (i := 6) sc_encode_piece.nd rfl (.inl rfl) (pe_op op_rep (pe_lst (pa_cons pe_int pa_nil)) (pe_op op_add (pe_op op_sub (pe_glob (v := .int 24) rfl m_PIECE ⟨_, rfl⟩) (pe_callB (kLen (K := K) rfl) (by rfl) T.len PySem.boot_len (pa_cons (pv 4) pa_nil))) pe_int)))
      (pss_one (ps_ret (pe_lst (pa_cons (pe_glob (v := .int 76) rfl m_MARK ⟨_, rfl⟩) (pa_cons (pv 0) (pa_cons (pv 1) (pa_cons (pe_op op_fdiv (pv 2) pe_int) (pa_cons (pe_op op_and (pv 2) pe_int) (pa_cons (pe_callB (kLen (K := K) rfl) (by rfl) T.len PySem.boot_len (pa_cons (pv 4) pa_nil)) (kStar (K := K) rfl (pv 4) (kStar (K := K) rfl (pv 6) (pa_cons (pe_glob (v := .int 76) rfl m_MARK ⟨_, rfl⟩) pa_nil))))))))))))), ?_⟩
    refine sqSetR (evLcStr (f := fun c => .int (c : Nat)) (evVar (i := 3) rfl) (by omega) fun c hc H2 s2 H3 s3 Q3 k3 => ⟨_, rfl, ⟨#[c]⟩, rfl, rfl, k3 H3 (.refl _)⟩) fun v H1 s1 ⟨C, ev, nC, hC⟩ => ?_
    subst ev
    have hC : H1 C = some (.lst (iv (upI (tl z)))) := by rw [hC]; unfold iv upI; rw [List.map_map]; rfl
    have hl : (iv (upI (tl z))).length = (tl z).length := by rw [List.length_map, upI_len]
    refine sqSetR (evRep (k := 25 - (tl z).length) (evLst (evCons (evC (v := .int 0)) evNil) (by simp)).nt ((evI0 (evI0 (evC (v := .int 24)) (evLenL (K := K) (evVar (i := 4) rfl) (sqL hC))) (evC (v := .int 1))).eq (by rw [hl]; congr 1; omega)) (by simp; omega) (by omega)) fun v H2 s2 ⟨Z, ev, nZ, hZ⟩ => ?_
    subst ev
    rw [flat_one] at hZ
    have hC2 := s2 _ _ hC
    have em : Builtin.bitAnd n 255 = n % 256 := Bits.bitAnd_mask 8 n0
    refine retR (evLst (evCons (evC (v := .int 76)) (evCons (evVar (i := 0) rfl) (evCons (evVar (i := 1) rfl) (evCons (v := .int (n / 256)) (fun H3 s3 Q3 k3 => ⟨_, rfl, _, _, rfl, rfl, ⟨by decide, by decide⟩, k3 _ (.refl _)⟩) (evCons (evI0 (f := fun i j => V.int (Builtin.bitAnd i j)) (evVar (i := 2) rfl) (evC (v := .int 255)))
      (evCons (evLenL (K := K) (evVar (i := 4) rfl) (sqL hC2)) (evStar (evVarL (i := 4) rfl (sqL hC2)) (evStar (evVarL (i := 6) rfl (sqL hZ)) (evCons (evC (v := .int 76)) evNil))))))))) (by simp only [List.length_cons, List.length_append, hl, List.length_replicate, List.length_nil]; omega)) fun v H3 s3 ⟨p, ev, np, hp⟩ => ?_
    subst ev
    refine q p H3 ((s1.trans s2).trans s3) (same_at (s1.trans s2) np) ?_
    rw [hp, em, hl]
    unfold pieceM iv
    simp [List.append_assoc]
theorem ok_encr {f Co fo : Addr} {fd fdo : FuncData} (F : Fun K "encode_record" "encode_record" s_encode_record f fd) (T : Tx mg) (O : OorC P w K mg base Co fo fdo) (H_count_pieces : Cal P w K mg base 1 "count_pieces" ["text"] spCount) (H_encode_piece : Cal P w K mg base 1 "encode_piece" ["index", "many", "number", "text"] spEncP) :
    FnOk P w K mg base (L2.CX P w) 3 f fd ["number", "text"] (spEncR Co) := by
  obtain ⟨t_PIECE, m_PIECE⟩ := T.c_PIECE
  obtain ⟨t_PIECES_MOST, m_PIECES_MOST⟩ := T.c_PIECES_MOST
  refine F.okX sc_encode_record (fun vs H Q E h => ?_) (fun cdv A outer s H vs Q E hr h => ?_)
  · obtain ⟨n, z, rfl, _⟩ := h
    rfl
  · obtain ⟨n, z, rfl, n0, hz, q1, q2⟩ := h
    refine ⟨_, pss_cons (ps_set (i := 2) sc_encode_record.nd rfl (.inr rfl) (pe_cal H_count_pieces hr pass0 (pa_cons (pv 1) pa_nil)))
      (pss_cons (ps_if (pt_cmpR op_gt (pv 2) (pe_glob (v := .int 255) rfl m_PIECES_MOST ⟨_, rfl⟩) (nomark _)) (pss_one (ps_raise (W := fun cls d _ H => E cls d H) rfl (takes_of rfl rfl rfl rfl) (pmk_oex O.ex O.init O.fn O.ok (hr.mono (by decide)) O.binds .nil pass0 (by rfl) O.gl (pa_cons pe_str pa_nil)))) pss_nil)
      (pss_cons (ps_setLc (i := 3) (own := [("k", 4)]) rfl sc_encode_record.nd rfl rfl (sw_true rfl rfl rfl (by decide +kernel)) (pi_range1 (by rfl) T.range (pa_cons (pv 2) pa_nil)) (blkOk_by (N := n_encode_record) (sc := defScope s_encode_record) (by decide +kernel)) (fun _ _ _ _ _ => pg_name (i := 4) sc_encode_record.nd rfl (Or.inl rfl)) (fun _ _ _ _ _ => pts_nil) (fun _ _ _ _ _ => (pe_slice sl_str (pv 1) (po_some (pe_op op_mul (pv 4) (pe_glob (v := .int 24) rfl m_PIECE ⟨_, rfl⟩))) (po_some (pe_op op_mul (pe_op op_add (pv 4) pe_int) (pe_glob (v := .int 24) rfl m_PIECE ⟨_, rfl⟩))))))
      (pss_one (ps_ret (pe_lc (own := [("index", 5), ("piece", 6)]) rfl sc_encode_record.nd (kEnum (K := K) rfl (by rfl) T.enumerate (pa_cons (pv 3) pa_nil)) (blkOk_by (N := n_encode_record) (sc := defScope s_encode_record) (by decide +kernel)) (fun _ _ _ _ _ => (pgT (K := K) (n := 2) rfl rfl (pgs_cons (pg_name (i := 5) sc_encode_record.nd rfl (Or.inl rfl)) (pgs_cons (pg_name (i := 6) sc_encode_record.nd rfl (Or.inl rfl)) pgs_nil)))) (fun _ _ _ _ _ => pts_nil) (fun _ _ _ _ _ => (pe_cal H_encode_piece hr pass0 (pa_cons (pv 5) (pa_cons (pv 2) (pa_cons (pv 0) (pa_cons (pv 6) pa_nil))))))))))), ?_⟩
    refine ⟨_, rfl, z, rfl, by omega, ?_⟩
    dsimp only [gName]
    generalize hM : manyM (tl z).length = M at q1 q2 ⊢
    have hM1 : 1 ≤ M := hM ▸ Nat.le_max_left _ _
    refine sqIf (etTest (evI0 (f := fun i j => V.bl (decide (j < i))) (evVar (i := 2) rfl) (evC (v := .int 255)))) (fun hb H1 s1 => ?_) (fun hb H1 s1 => ?_)
    · have := of_decide_eq_true hb
      refine raise_oor (by decide +kernel) fun H2 e2 s2 n2 h2 => q2 (by omega) H2 e2 (s1.trans s2) (same_at s1 n2) h2
    have hM2 : M ≤ 255 := by
      have := of_decide_eq_false hb
      omega
    refine sqSetR (evLcRg (n := M) (f := fun k => .str ⟨(partM (tl z) k).toArray⟩) (evVar (i := 2) rfl) (by omega) fun k hk H2 s2 => (evStrSl (z := z) (i := 24 * k) (j := 24 * k + 24) (evVar (i := 1) rfl) (evPart ((evMul (evVar (i := 4) rfl) (evC (v := .int 24)) (.inr ⟨by decide, by decide⟩)).eq (by congr 1; omega)))
      (evPart ((evMul (evI0 (evVar (i := 4) rfl) (evC (v := .int 1))) (evC (v := .int 24)) (.inr ⟨by decide, by decide⟩)).eq (by congr 1; omega))) (by omega)).eq (by rw [show 24 * k + 24 - 24 * k = 24 by omega]; rfl)) fun v H2 s2 ⟨C, ev, nC, hC⟩ => ?_
    subst ev
    refine ⟨_, rfl, C, _, rfl, sqL hC, fun D nD => ?_⟩
    have neCD : C ≠ D := ne_of_none hC nD
    refine lc_it (walk_enum (K := K) (a := C) (xs := (List.range M).map fun k => V.str ⟨(partM (tl z) k).toArray⟩)) (fun i H' => Same H2 H' ∧ ∃ as : List Addr, H' D = some (.lst (as.map V.ref)) ∧ (∀ a ∈ as, a ≠ D ∧ H2 a = none) ∧ Paired (fun a ns => H' a = some (.lst (iv ns))) as ((List.range i).map fun k => pieceM (k : Nat) (M : Nat) n (partM (tl z) k)) ∧ as.length = i)
      ⟨same_upd nD, [], upd_same, (fun _ h => nomatch h), .nil, rfl⟩ (fun i H' _ h => sqL (h.1 _ _ hC)) ?_ ?_
    · rintro i x H3 H4 hi ⟨s3, as, hD, hne, hrow, hal⟩ ⟨t, u, y, rfl, nt, rfl, eu, ey⟩
      obtain rfl : V.int (i : Nat) = u := Option.some.inj eu
      rw [List.length_map, List.length_range] at hi
      have ey : ((List.range M).map fun k => V.str ⟨(partM (tl z) k).toArray⟩)[i]? = some y := ey
      rw [List.getElem?_map, List.getElem?_range hi] at ey
      obtain rfl : V.str ⟨(partM (tl z) i).toArray⟩ = y := Option.some.inj ey
      have st : Same H3 (upd H3 t (.tup [.int (i : Nat), .str ⟨(partM (tl z) i).toArray⟩])) := same_upd nt
      refine ⟨t, _, rfl, sqT upd_same, rfl, _, _, rfl, _, _, rfl, rfl, ?_⟩
      refine ⟨rfl, ?_⟩
      dsimp only [tYes]
      rw [if_pos rfl]
      refine ⟨_, rfl, _, rfl, _, rfl, _, rfl, (i : Nat), (M : Nat), n, ⟨(partM (tl z) i).toArray⟩, rfl, n0, part_len _ _, fun r H5 s5 nr hr5 => ?_⟩
      have s35 := st.trans s5
      have nr3 : H3 r = none := same_at st nr
      have rD : r ≠ D := fun e => by rw [e, hD] at nr3; cases nr3
      refine ⟨_, s35 _ _ hD, ?_, (s3.trans s35).mut nD, as ++ [r], ?_, ?_, ?_, by rw [List.length_append, hal]; rfl⟩
      · rw [List.length_map, hal]
        exact Nat.lt_of_le_of_lt (show i ≤ 255 by omega) (by decide)
      · rw [upd_same, List.map_append]; rfl
      · intro c hc
        rcases List.mem_append.mp hc with h | h
        · exact hne c h
        · rw [List.mem_singleton.mp h]; exact ⟨rD, same_at s3 nr3⟩
      · rw [List.range_succ, List.map_append]
        refine Paired.snoc ?_ ?_
        · refine (paired_and hrow hne).mono fun c ns h => ?_
          rw [upd_ne h.1.1]
          exact s35 _ _ h.2
        · rw [upd_ne rD]
          exact hr5
    · rintro H3 ⟨s3, as, hD, hne, hrow, hal⟩
      rw [List.length_map, List.length_range] at hrow
      have s02 := s1.trans s2
      refine q1 hM2 D as H3 (s02.trans s3) (same_at s02 nD) (fun a ha => same_at s02 (hne a ha).2) ⟨hD, fun a ha => (hne a ha).1, ?_⟩
      unfold piecesM
      rw [hM]
      exact hrow
end
end KX

set_option maxRecDepth 100000
set_option maxHeartbeats 4000000
/-! K43: the law k43. -/
namespace KX
open PySem PySem.Spec PyProof.Rows L2 TL Ga NdefX StX
def spLEnc (K : PySem.W.Frag) : Sp := fun vs H Q _ => ∃ (n : Int) (z : Str), vs = [.int n, .str z] ∧ 0 ≤ n ∧ (tl z).length ≤ 10000 ∧
  (manyM (tl z).length ≤ 255 → ∀ (p : Addr) (as : List Addr) (H' : Hp), Same H H' → H p = none → (∀ a ∈ as, H a = none) → RowsL H' p as (piecesM n (tl z)) → Q (.ref p) H') ∧ (255 < manyM (tl z).length → ∀ v H', Same H H' → Dp K H' v (dRef "text") → Q v H')
theorem rows_dpl {K : PySem.W.Frag} {H : Hp} {p : Addr} {as : List Addr} {rs : List (List Int)} (h : RowsL H p as rs) : Dp K H (.ref p) (dRs rs) := by
  have pr := h.2.2
  refine .lst (sqL h.1) ?_
  clear h
  induction pr with
  | nil => exact .nil
  | cons a _ ih => exact .cons (.lst (sqL a) (dp_ints _)) ih
theorem RowsL.st {H H' : Hp} {p : Addr} {as : List Addr} {rs : List (List Int)} (h : RowsL H p as rs) (s : Same H H') : RowsL H' p as rs := ⟨s _ _ h.1, h.2.1, h.2.2.mono fun _ _ q => s _ _ q⟩
theorem RowsL.kp {H H' : Hp} {B p : Addr} {as : List Addr} {rs : List (List Int)} (h : RowsL H p as rs) (k : Kp B H H') (hp : p ≠ B) (ha : ∀ a ∈ as, a ≠ B) : RowsL H' p as rs := ⟨k _ _ hp h.1, h.2.1, (paired_and h.2.2 ha).mono fun _ _ q => k _ _ q.1 q.2⟩
section
variable {P : Program} {w : World} {K : PySem.W.Frag} {mg : Str → Option Value} {base : Heap}
theorem ok_lenc {f Co : Addr} {fd : FuncData} (F : Fun K "_law_encoded" "_law_encoded" s_L_encoded f fd) (R : CatC K mg Co) (H_encode_record : CalX P w K mg base 3 "encode_record" ["number", "text"] (spEncR Co)) : FnOk P w K mg base CX0 4 f fd ["number", "text"] (spLEnc K) := by
  have g_OutOfRange := R.gl
  refine F.ok sc_L_encoded (fun vs H Q E h => ?_) (fun cdv A outer s H vs Q E hr h => ?_)
  · obtain ⟨n, z, rfl, _⟩ := h
    rfl
  · obtain ⟨n, z, rfl, n0, hz, q1, q2⟩ := h
    refine ⟨_, pss_one (ps_try_as (i := 2) rfl rfl sc_L_encoded.nd rfl rfl ⟨rfl, by decide, .inl g_OutOfRange⟩ takes0 (fun W pn xe tk _ => (pss_one (ps_ret (pe_calXS H_encode_record hr (fun σ => passAt tk σ) (pa_cons (pv 0) (pa_cons (pv 1) pa_nil))))))
        (fun a oe cls d pn hz hf => (pss_one (ps_ret (pe_tup (pa_cons pe_str (pa_cons (pe_xf R.xf R.nm hz hf (pv 2)) pa_nil))))))), ?_⟩
    refine ⟨_, rfl, _, rfl, n, z, rfl, n0, hz, fun hm p as H1 s1 np hf hR => q1 hm p as H1 s1 np hf hR, fun hm H1 e s1 ne he => ?_⟩
    refine ⟨true, R.exm, fun _ a na => ?_, fun z => nomatch z⟩
    refine ⟨_, rfl, rfl, rfl, e, _, .str "text", rfl, he, rfl, by show 2 ≤ sizeLine; decide, fun t nt => ?_⟩
    exact q2 hm _ _ (s1.trans (same_upd nt)) (.tup (sqT upd_same) (.cons (.str _) (.cons (.str _) .nil)))
theorem ok_law {f : Addr} {fd : FuncData} (F : Fun K "law" "law" sLaw f fd) (T : Tx mg) (H_law_digits : Cal P w K mg base 2 "_law_digits" ["script", "first", "last"] (spDigits K)) (H_law_draw : Cal P w K mg base 1 "_law_draw" ["box", "many"] spDraw)
    (H_law_stored_text : Cal P w K mg base 2 "_law_stored_text" ["box", "many"] spStored) (H_law_pieces : Cal P w K mg base 1 "_law_pieces" ["number", "text"] spPieces) (H_law_encoded : Cal P w K mg base 4 "_law_encoded" ["number", "text"] (spLEnc K))
    (H_decode_piece : Cal P w K mg base 2 "decode_piece" ["block"] (spDec K)) : FnG P w K mg base CX0 5 f fd ["script"] (spLaw K) := by
  obtain ⟨t_PIECES_MOST, m_PIECES_MOST⟩ := T.c_PIECES_MOST
  obtain ⟨t_PIECE, m_PIECE⟩ := T.c_PIECE
  refine okG F scLaw (fun vs H Q E h => ?_) (fun cdv A hg outer s H vs Q E hr h => ?_)
  · obtain ⟨a, ns, rfl, _⟩ := h
    rfl
  · obtain ⟨a, ns, rfl, hS, hlen, q⟩ := h
    refine ⟨_, pss_cons (ps_set (i := 1) scLaw.nd rfl (.inl rfl) (pe_lst (pa_cons (pe_cal H_law_digits hr pass0 (pa_cons (pv 0) (pa_cons pe_int (pa_cons pe_int pa_nil)))) (pa_cons pe_int pa_nil))))
      (pss_cons (ps_for PassesOwn.never rfl (pi_range1 (by rfl) T.range (pa_cons pe_int pa_nil)) (pg_name (i := 2) scLaw.nd rfl (Or.inl rfl))
      (pss_cons (ps_set (i := 3) scLaw.nd rfl (.inl rfl) (pe_op op_mod (pe_callTy call_int1 (by rfl) T.int (by decide +kernel) (pa_cons (pe_op op_add (pe_op op_mul (pe_cal H_law_draw hr pass0 (pa_cons (pv 1) (pa_cons pe_int pa_nil))) pe_int) (pe_cal H_law_draw hr pass0 (pa_cons (pv 1) (pa_cons pe_int pa_nil)))) pa_nil)) pe_int))
      (pss_cons (ps_set (i := 4) scLaw.nd rfl (.inl rfl) (pe_ix (ixL (K := K) rfl) (pe_lst (pa_cons (pe_op op_mul pe_int (pe_cal H_law_draw hr pass0 (pa_cons (pv 1) (pa_cons pe_int pa_nil)))) (pa_cons (pe_cal H_law_draw hr pass0 (pa_cons (pv 1) (pa_cons pe_int pa_nil))) pa_nil))) (pe_cal H_law_draw hr pass0 (pa_cons (pv 1) (pa_cons pe_int pa_nil))) (fun _ _ => rfl)))
      (pss_cons (ps_set (i := 5) scLaw.nd rfl (.inl rfl) (pe_cal H_law_stored_text hr pass0 (pa_cons (pv 1) (pa_cons (pv 4) pa_nil))))
      (pss_cons (ps_set (i := 6) scLaw.nd rfl (.inl rfl) (pe_cal H_law_pieces hr pass0 (pa_cons (pv 3) (pa_cons (pv 5) pa_nil))))
      (pss_cons (ps_set (i := 7) scLaw.nd rfl (.inl rfl) (pe_cal H_law_encoded hr pass0 (pa_cons (pv 3) (pa_cons (pv 5) pa_nil))))
      (pss_cons (ps_if (PW.pt (pw_or (pt_not (pt_val (pe_callB (kIsi (K := K) rfl) (by rfl) T.isinstance (by decide +kernel) (pa_cons (pv 7) (pa_cons (pe_bltn (v := .ty "list") (by rfl) T.list (by decide +kernel) rfl) pa_nil))))) (pw_or1 (pt_cmpR (kNe (K := K) rfl hr.units) (pv 7) (pv 6) (nomark _))))) (pss_one (ps_ret pe_bl)) pss_nil)
      (pss_one (ps_for PassesOwn.never rfl (pi_range1 (by rfl) T.range (pa_cons (pe_callB (kLen (K := K) rfl) (by rfl) T.len PySem.boot_len (pa_cons (pv 6) pa_nil)) pa_nil)) (pg_name (i := 8) scLaw.nd rfl (Or.inl rfl))
      (pss_cons (ps_set (i := 9) scLaw.nd rfl (.inl rfl) (pe_cal H_decode_piece hr pass0 (pa_cons (pe_ix (ixL (K := K) rfl) (pv 7) (pv 8) (fun _ _ => rfl)) pa_nil)))
      (pss_one (ps_if (PW.pt (pw_or (pt_not (pt_val (pe_callB (kIsi (K := K) rfl) (by rfl) T.isinstance (by decide +kernel) (pa_cons (pv 9) (pa_cons (pe_bltn (v := .ty "tuple") (by rfl) T.tuple (by decide +kernel) rfl) pa_nil))))) (pw_or1 (pt_cmpR (kNe (K := K) rfl hr.units) (pv 9) (pe_tup (pa_cons (pv 8) (pa_cons (pe_callB (kLen (K := K) rfl) (by rfl) T.len PySem.boot_len (pa_cons (pv 6) pa_nil)) (pa_cons (pv 3) (pa_cons (pe_slice sl_str (pv 5) (po_some (pe_op op_mul pe_int (pv 8))) (po_some (pe_op op_add (pe_op op_mul pe_int (pv 8)) pe_int))) pa_nil))))) (nomark _))))) (pss_one (ps_ret pe_bl)) pss_nil))))))))))))
      (pss_cons (ps_set (i := 10) scLaw.nd rfl (.inl rfl) (pe_cal H_law_stored_text hr pass0 (pa_cons (pv 1) (pa_cons pe_int pa_nil))))
      (pss_cons (ps_if (pt_cmpR (kNe (K := K) rfl hr.units) (pe_cal H_law_encoded hr pass0 (pa_cons pe_int (pa_cons (pe_op op_mulL (pv 10) (pe_op op_add pe_int (pe_cal H_law_draw hr pass0 (pa_cons (pv 1) (pa_cons pe_int pa_nil))))) pa_nil))) (pe_tup (pa_cons pe_str (pa_cons pe_str pa_nil))) (nomark _)) (pss_one (ps_ret pe_bl)) pss_nil)
      (pss_one (ps_ret (pe_and (pe_cmpR (kEq (K := K) rfl hr.units) (pe_cal H_law_encoded hr pass0 (pa_cons pe_int (pa_cons (pe_op op_mulL (pv 10) pe_int) pa_nil))) (pe_cal H_law_pieces hr pass0 (pa_cons pe_int (pa_cons (pe_op op_mulL (pv 10) pe_int) pa_nil))) (nomark _)) (pe_one (pe_cmpR (kEq (K := K) rfl hr.units) (pe_tup (pa_cons (pe_glob (v := .int 24) rfl m_PIECE ⟨_, rfl⟩) (pa_cons (pe_glob (v := .int 255) rfl m_PIECES_MOST ⟨_, rfl⟩) pa_nil))) (pe_tup (pa_cons pe_int (pa_cons pe_int pa_nil))) (nomark _))))))))), ?_⟩
    refine ⟨_, rfl, a, ns, 0, 63, rfl, hS, by decide, by decide, by decide, by decide, fun D H1 ds s1 nD hD => ?_⟩
    refine ⟨by show 2 ≤ _; decide, fun B nB => ?_⟩
    have neDB : D ≠ B := ne_of_none hD nB
    have bx0 : Box (upd H1 B (.lst [.ref D, .int 0])) B D := ⟨ds, 0, upd_same, by decide, neDB, by rw [upd_ne neDB]; exact hD⟩
    generalize upd H1 B (.lst [.ref D, .int 0]) = H2 at bx0 ⊢
    dsimp only [gName]
    refine sqForRg (n := 6) (evC (v := .int 6)) (by decide) (fun i σ H' => ∃ o2 o3 o4 o5 o6 o7 o8 o9 oA : Option V, σ = [some (.ref a), some (.ref B), o2, o3, o4, o5, o6, o7, o8, o9, oA] ∧ Box H' B D) (fun H3 s3 => ⟨none, none, none, none, none, none, none, none, none, rfl, bx0.same s3⟩) ?_ ?_
    · rintro i σ H3 hi ⟨o2, o3, o4, o5, o6, o7, o8, o9, oA, rfl, bx⟩
      refine ⟨_, rfl, B, D, 66, rfl, by decide, bx, fun r1 H4 r10 r11 k4 b4 => ?_⟩
      refine ⟨_, _, rfl, rfl, .inr ⟨by decide, by decide⟩, _, rfl, B, D, 1000, rfl, by decide, b4, fun r2 H5 r20 r21 k5 b5 => ?_⟩
      refine ⟨_, _, rfl, rfl, .inl ⟨_, rfl, _, _, rfl, rfl, (by decide : (0 : Int) < 65536), ?_⟩⟩
      have n0 : 0 ≤ (r1 * 1000 + r2) % 65536 := Int.emod_nonneg _ (by decide)
      have n1 : (r1 * 1000 + r2) % 65536 < 65536 := Int.emod_lt_of_pos _ (by decide)
      dsimp only [gName]
      generalize (r1 * 1000 + r2) % 65536 = n at n0 n1 ⊢
      refine ⟨_, rfl, B, D, 5, rfl, by decide, b5, fun r3 H6 r30 r31 k6 b6 => ?_⟩
      refine ⟨_, _, rfl, rfl, .inl ⟨by decide, by decide⟩, _, rfl, B, D, 101, rfl, by decide, b6, fun r4 H7 r40 r41 k7 b7 => ?_⟩
      refine ⟨by show 2 ≤ sizeLine; decide, fun l nl => ?_⟩
      have s8 := same_upd (o := HO.lst [.int (24 * r3), .int r4]) nl
      have hl8 : upd H7 l (.lst [.int (24 * r3), .int r4]) l = some (.lst [.int (24 * r3), .int r4]) := upd_same
      refine ⟨_, rfl, B, D, 2, rfl, by decide, b7.same s8, fun r5 H9 r50 r51 k9 b9 => ?_⟩
      have hl9 := k9 _ _ (b7.ne nl) hl8
      obtain ⟨m, hm, hat⟩ : ∃ m : Nat, m ≤ 100 ∧ atI [V.int (24 * r3), .int r4] r5 = some (.int (m : Nat)) := by
        have : r5 = 0 ∨ r5 = 1 := by omega
        rcases this with rfl | rfl
        · exact ⟨(24 * r3).toNat, by omega, at_of (j := 0) rfl (by show some (V.int (24 * r3)) = _; congr 2; omega)⟩
        · exact ⟨r4.toNat, by omega, at_of (j := 1) rfl (by show some (V.int r4) = _; congr 2; omega)⟩
      refine ⟨l, _, r5, _, rfl, rfl, sqL hl9, hat, ?_⟩
      refine ⟨_, rfl, _, rfl, B, D, m, rfl, by omega, b9, fun z H10 hzl hz k10 b10 => ?_⟩
      have hM1 : 1 ≤ manyM (tl z).length := Nat.le_max_left _ _
      have hM2 : manyM (tl z).length ≤ 255 := by
        unfold manyM
        omega
      refine ⟨_, rfl, _, rfl, n, z, rfl, n0, n1, by omega, fun p as H11 s11 np hfr hR => ?_⟩
      refine ⟨_, rfl, _, rfl, n, z, rfl, n0, by omega, fun _ p2 as2 H12 s12 np2 hfr2 hR2 => ?_, fun h => absurd h (by omega)⟩
      have hRa := hR.st s12
      have b12 := (b10.same s11).same s12
      dsimp only [gName]
      have e1 : PyData.eqv (dRs (piecesM n (tl z))) (dRs (piecesM n (tl z))) = true := eqv_refl' (shaped_rs _)
      refine sqIf (b := false) (etOr (p := false) (q := false) (etNot (p := true) (etVal (fun H13 s13 Q13 k13 => ⟨_, rfl, _, _, _, _, true, rfl, .ty _, tyLst (K := K) (sqL (s13 _ _ hR2.1)), kit_ty (by decide +kernel), k13 _ (.refl _)⟩)))
        (etTest ((evNeD (K := K) (d := dRs (piecesM n (tl z))) (e := dRs (piecesM n (tl z))) ((evVar (i := 7) rfl).r fun H14 H15 s14 s15 => rows_dpl (hR2.st (s14.trans s15))) ((evVar (i := 6) rfl).r fun H14 H15 s14 s15 => rows_dpl (hRa.st (s14.trans s15))) (shaped_rs _) (shaped_rs _)).eq (by rw [e1]; rfl)))) (fun h => nomatch h) (fun _ H13 s13 => ?_)
      have hRb := hRa.st s13
      have hRc := hR2.st s13
      have hal : as.length = manyM (tl z).length := by rw [paired_len hR.2.2]; unfold piecesM; rw [List.length_map, List.length_range]
      have hal2 : as2.length = manyM (tl z).length := by rw [paired_len hR2.2.2]; unfold piecesM; rw [List.length_map, List.length_range]
      refine oneForRg (n := manyM (tl z).length) ((evLenL (K := K) (evVar (i := 6) rfl) (sqL hRb.1)).eq (by rw [List.length_map, hal])) (by omega) (fun j σ H' => ∃ o8 o9 : Option V, σ = [some (.ref a), some (.ref B), some (.int (0 + (i : Nat))), some (.int n), some (.int (m : Nat)), some (.str z), some (.ref p), some (.ref p2), o8, o9, oA] ∧ Same H13 H') (fun H14 s14 => ⟨_, _, rfl, s14⟩) ?_ ?_
      · rintro j σ H14 hj ⟨o8, o9, rfl, s14⟩
        obtain ⟨b, hb⟩ : ∃ b, as2[j]? = some b := ⟨_, List.getElem?_eq_getElem (by omega)⟩
        obtain ⟨bk, hbk, hHb⟩ := paired_get hRc.2.2 _ _ hb
        unfold piecesM at hbk
        rw [List.getElem?_map, List.getElem?_range hj] at hbk
        obtain rfl := Option.some.inj hbk
        have hs : ∀ c ∈ partM (tl z) j, okS c = true := fun c hc => hz c (List.mem_of_mem_drop (List.mem_of_mem_take hc))
        have hB : IsB (pieceM (j : Nat) (manyM (tl z).length : Nat) n (partM (tl z) j)) := piece_isB (part_len _ _) (by omega) (by omega) ⟨n0, n1⟩ hs
        have hdec := piece_dec (number := n) (part_len (tl z) j) (show ((j : Nat) : Int) < (manyM (tl z).length : Nat) by omega) hs
        have ej : (0 : Int) + (j : Nat) = (j : Nat) := by omega
        refine sqSetR (R := fun _ v H => ∃ t ys, v = .ref t ∧ SqT K H t ys ∧ Dp K H v (decD (pieceM (j : Nat) (manyM (tl z).length : Nat) n (partM (tl z) j)))) (fun H15 s15 Q15 k15 => ?_) fun v H15 s15 ⟨t, ys, ev, hT, hD15⟩ => ?_
        · refine ⟨_, rfl, _, rfl, p2, _, _, .ref b, rfl, rfl, sqL ((s14.trans s15) _ _ hRc.1), ?_, b, _, rfl, sqL ((s14.trans s15) _ _ hHb), hB, fun v H16 s16 d16 _ => ?_⟩
          · rw [ej]
            exact atI_nat (by rw [List.getElem?_map, hb]; rfl)
          · refine k15 v H16 s16 ?_
            have d17 := d16
            unfold decD at d17
            rw [hdec] at d17
            cases d17 with
            | tup st _ => exact ⟨_, _, rfl, st, d16⟩
        subst ev
        refine oneIf (b := false) (etOr (p := false) (q := false) (etNot (p := true) (etVal (fun H16 s16 Q16 k16 => ⟨_, rfl, _, _, _, _, true, rfl, .ty _, tyTup (K := K) (s16.seqT hT), kit_ty (by decide +kernel), k16 _ (.refl _)⟩)))
          (etTest ((evNeD (K := K) (d := decD (pieceM (j : Nat) (manyM (tl z).length : Nat) n (partM (tl z) j))) (e := decD (pieceM (j : Nat) (manyM (tl z).length : Nat) n (partM (tl z) j))) ((evVar (i := 9) rfl).r fun H17 H18 s17 s18 => Dp.same (s17.trans s18) hD15)
            ((evTup (evCons (evVar (i := 8) rfl) (evCons (evLenL (K := K) (evVar (i := 6) rfl) (sqL ((s14.trans s15) _ _ hRb.1))) (evCons (evVar (i := 3) rfl) (evCons (evStrSl (z := z) (i := 24 * j) (j := 24 * j + 24) (evVar (i := 5) rfl) (evPart ((evMul (evC (v := .int 24)) (evVar (i := 8) rfl) (.inl ⟨by decide, by decide⟩)).eq (by congr 1; omega)))
              (evPart ((evI0 (evMul (evC (v := .int 24)) (evVar (i := 8) rfl) (.inl ⟨by decide, by decide⟩)) (evC (v := .int 24))).eq (by congr 1; omega))) (by omega)) evNil)))) (by simp)).w fun _ _ _ ⟨u, e, _, hu⟩ => by
                subst e
                unfold decD
                rw [hdec]
                rw [List.length_map, hal, ej, show 24 * j + 24 - 24 * j = 24 by omega] at hu
                exact .tup (sqT hu) (.cons (.int _) (.cons (.int _) (.cons (.int _) (.cons (.str _) .nil))))) (shaped_dec _) (shaped_dec _)).eq (by rw [eqv_refl' (shaped_dec _)]; rfl)))) (fun h => nomatch h) (fun _ H16 s16 => ⟨_, _, rfl, s14.trans (s15.trans s16)⟩)
      · rintro σ H14 ⟨o8, o9, rfl, s14⟩
        exact ⟨_, _, _, _, _, _, _, _, _, rfl, (b12.same s13).same s14⟩
    · rintro σ H3 ⟨o2, o3, o4, o5, o6, o7, o8, o9, oA, rfl, bx⟩
      refine ⟨_, rfl, B, D, 1, rfl, by decide, bx, fun z H4 hzl hz k4 b4 => ?_⟩
      dsimp only [gName]
      have hrep : ∀ (k : Nat) (r : Str), tl r = (List.replicate k (tl z)).flatten → (tl r).length = k := fun k r e => by rw [e, flat_len, hzl, Nat.mul_one]
      refine ⟨_, rfl, _, rfl, B, D, 90, rfl, by decide, b4, fun r1 H5 r10 r11 k5 b5 => ?_⟩
      refine ⟨_, _, rfl, rfl, z, 6121 + r1, rfl, rfl, by omega, by omega, by omega, fun r er => ?_⟩
      have hl := hrep _ r er
      refine ⟨1, r, rfl, by decide, by omega, fun h => absurd h (by unfold manyM; omega), fun _ v H6 s6 d6 => ?_⟩
      refine ⟨by show 2 ≤ sizeLine; decide, fun t nt => ?_⟩
      refine ⟨dRef "text", dRef "text", Dp.same (same_upd nt) d6, .tup (sqT upd_same) (.cons (.str _) (.cons (.str _) .nil)), by decide +kernel, by decide +kernel, _, rfl, ?_⟩
      refine ite2 (fun e => absurd e (by decide +kernel)) (fun _ => ?_)
      dsimp only [tNext]
      generalize upd H6 t (.tup [.str "refused", .str "text"]) = H7
      have e1 : PyData.eqv (dRs (piecesM 2 (List.replicate 6120 (tl z)).flatten)) (dRs (piecesM 2 (List.replicate 6120 (tl z)).flatten)) = true := eqv_refl' (shaped_rs _)
      have hL : ((List.replicate 6120 (tl z)).flatten).length = 6120 := by rw [flat_len, hzl]
      refine retS (v := .bl true) (evAnd (p := true) (q := true) ((evEqD (K := K) (d := dRs (piecesM 2 (List.replicate 6120 (tl z)).flatten)) (e := dRs (piecesM 2 (List.replicate 6120 (tl z)).flatten)) ?_ ?_ (shaped_rs _) (shaped_rs _)).eq (by rw [e1]))
        ((evEqD (K := K) (d := .tuple [.int 24, .int 255]) (e := .tuple [.int 24, .int 255]) ((evTup (evCons (evC (v := .int 24)) (evCons (evC (v := .int 255)) evNil)) (by simp)).w fun _ _ _ ⟨u, e, _, hu⟩ => e ▸ .tup (sqT hu) (.cons (.int _) (.cons (.int _) .nil)))
          ((evTup (evCons (evC (v := .int 24)) (evCons (evC (v := .int 255)) evNil)) (by simp)).w fun _ _ _ ⟨u, e, _, hu⟩ => e ▸ .tup (sqT hu) (.cons (.int _) (.cons (.int _) .nil))) (by decide +kernel) (by decide +kernel)).eq (by decide +kernel))) (fun H8 s8 => ?_)
      · intro H8 s8 Q8 k8
        refine ⟨_, rfl, z, 6120, rfl, rfl, by decide, by decide, by omega, fun r er => ⟨2, r, rfl, by decide, by rw [er]; show ((List.replicate 6120 (tl z)).flatten).length ≤ _; omega, fun _ p as H9 s9 np hf hR => k8 _ H9 s9 ?_, fun h => absurd h ?_⟩⟩
        · rw [er] at hR
          exact rows_dpl hR
        · rw [er]
          show ¬ 255 < manyM ((List.replicate 6120 (tl z)).flatten).length
          rw [hL]
          decide
      · intro H8 s8 Q8 k8
        refine ⟨_, rfl, z, 6120, rfl, rfl, by decide, by decide, by omega, fun r er => ⟨2, r, rfl, by decide, by decide, by rw [er]; show ((List.replicate 6120 (tl z)).flatten).length ≤ _; omega, fun p as H9 s9 np hf hR => k8 _ H9 s9 ?_⟩⟩
        rw [er] at hR
        exact rows_dpl hR
      · exact q H8
end
end KX

set_option maxRecDepth 100000
set_option maxHeartbeats 4000000
namespace KX
open PySem PySem.Spec PyProof.Rows L2 TL Ga StX NdefX
/-- a def that the top has left -/
structure FnIn (K : PySem.W.Frag) (x : Str) (st : Stmt) : Prop where
  ex : ∃ (f : Addr) (od an : Option Addr) (sl : Array (Option Value)) (oc kV dc pm cd ct : Value), PySem.W.nsIn K mainGlobals x = some (some (.ref f)) ∧
    K.lookup f = some ⟨oc, od, .func (PySem.W.fnOf x x (defArgs st) (defBody st) (defScope st) .none kV dc pm an cd ct), sl⟩ ∧ PySem.W.codeIn K cd x = true ∧ PySem.W.keepIn K (.ref f) = true
theorem fnIn {K : PySem.W.Frag} {x : Str} {st : Stmt} {f : Addr} {od an : Option Addr} {sl : Array (Option Value)} {oc kV dc pm cd ct : Value} (a : PySem.W.nsIn K mainGlobals x = some (some (.ref f)))
    (l : K.lookup f = some ⟨oc, od, .func (PySem.W.fnOf x x (defArgs st) (defBody st) (defScope st) .none kV dc pm an cd ct), sl⟩) (c : PySem.W.codeIn K cd x = true) (k : PySem.W.keepIn K (.ref f) = true) : FnIn K x st :=
  ⟨f, od, an, sl, oc, kV, dc, pm, cd, ct, a, l, c, k⟩
theorem intIn {K : PySem.W.Frag} {x : Str} {i : Int} {t : Tok} (a : PySem.W.nsIn K mainGlobals x = some (some (.int i t))) : ∃ t, PySem.W.nsIn K mainGlobals x = some (some (.int i t)) := ⟨t, a⟩
theorem strIn {K : PySem.W.Frag} {x : Str} {i : Str} {t : Tok} (a : PySem.W.nsIn K mainGlobals x = some (some (.str i t))) : ∃ t, PySem.W.nsIn K mainGlobals x = some (some (.str i t)) := ⟨t, a⟩
theorem FnIn.fn {K : PySem.W.Frag} {x : Str} {st : Stmt} {mg : Str → Option Value} {h : Heap} (F : FnIn K x st) (X : K.In h) (G : h.Ns mainGlobals mg) :
    ∃ (f : Addr) (kV dc pm : Value) (an : Option Addr) (cd ct : Value), Fun K x x st f (PySem.W.fnOf x x (defArgs st) (defBody st) (defScope st) .none kV dc pm an cd ct) ∧ mg x = some (.ref f) := by
  obtain ⟨f, od, an, sl, oc, kV, dc, pm, cd, ct, a, l, c, k⟩ := F.ex
  exact ⟨f, kV, dc, pm, an, cd, ct, fun_mk l c k, PySem.W.mg_of X G a⟩
/-- the error's class -/
structure ErrIn (P : Program) (K : PySem.W.Frag) (Co : Addr) : Prop where
  go : PySem.W.nsIn K mainGlobals "OutOfRange" = some (some (.ref Co))
  sc : SupC K Co
  nm : PySem.W.findIn K (.ref Co) "name" = some none
  init : ∃ (f cc c : Addr) (fd : FuncData), SupIn P K f Co (fOor cc c) fd ∧ PySem.W.findIn K (.ref Co) "__init__" = some (some (.ref f)) ∧ PySem.W.typeIn K (.ref f) = some (.type "function")
  sup : PySem.W.nsIn K mainGlobals "super" = some none
  top : (P.main.scope.names.lookup ("super" : Str)).isSome = false
  exm : PySem.W.exmOne K (.ref Co) (.ref Co) = some true
  xf : XfC K Co
theorem oexIn {K : PySem.W.Frag} {Co : Addr} {nm q : Str} {N : Addr} {bs bm : List Value} {sn : List Str} {sub : List Value} {ab : Bool} {col : Option Bool} {dd : Option Addr} {k0 k1 k2 k3 k5 : Option Value}
    (xL : K.lookup Co = some (excClassObj nm q Co N bs bm true sn sub ab col dd k0 k1 k2 k3 k5 "ValueError.__new__")) (vb : PySem.HandSPX.refsVE bm = true) (sa : PySem.W.findIn K (.ref Co) "__setattr__" = some (some (.builtin "object.__setattr__")))
    (ex : PySem.W.subIn K (.ref Co) (.type "BaseException") = some true) (ty : PySem.W.typeIn K (.ref Co) = some (.type "type")) (kp : PySem.W.keepIn K (.ref Co) = true)
    (se : PySem.W.mroIn K Co (.ref Co) = some true) (su : PySem.W.ks_superIn K Co Co "__init__" = some (some (.builtin "ValueError.__init__"))) (ve : PySem.W.subIn K (.ref Co) (.type "ValueError") = some true) (an : PySem.W.nsIn K cStatics "thirdparty.any" = some none) : SupC K Co :=
  ⟨⟨⟨nm, q, N, bs, bm, sn, sub, ab, col, dd, k0, k1, k2, k3, k5, xL, vb⟩, sa, ex, ty, kp⟩, se, su, ve, an⟩
theorem supIn {P : Program} {K : PySem.W.Frag} {f Co cc c : Addr} {oc ccl cl doc pm ctv : Value} {od cdd cld : Option Addr} {osl ccs csl : Array (Option Value)} {vs : Array Value} {file : Str} {tf : Tok}
    (i : PySem.W.findIn K (.ref Co) "__init__" = some (some (.ref f))) (t : PySem.W.typeIn K (.ref f) = some (.type "function")) (l : K.lookup f = some ⟨oc, od, .func (PySem.W.fnX "__init__" "OutOfRange.__init__" (defArgs sOorInit) (defBody sOorInit) (defScope sOorInit) [(("__class__" : Str), cc)] .none .none doc pm none (.ref c) ctv), osl⟩)
    (h : PySem.W.codeIn K (.ref c) "OutOfRange.__init__" = true) (lc : K.lookup c = some ⟨ccl, cdd, .fields vs, ccs⟩) (v2 : vs[2]? = some (.str file tf)) (hf : ((P.main.file : Str) == file) = true) (ce : K.lookup cc = some ⟨cl, cld, .cell (some (.ref Co)), csl⟩) :
    ∃ (f cc c : Addr) (fd : FuncData), SupIn P K f Co (fOor cc c) fd ∧ PySem.W.findIn K (.ref Co) "__init__" = some (some (.ref f)) ∧ PySem.W.typeIn K (.ref f) = some (.type "function") :=
  ⟨f, cc, c, _, ⟨oc, ccl, cl, od, cdd, cld, osl, ccs, csl, doc, pm, ctv, vs, file, tf, cc, rfl, l, h, lc, v2, hf, rfl, ce⟩, i, t⟩

/-- what the top has left -/
structure Tops (P : Program) (w : World) (K : PySem.W.Frag) : Prop where
  err : ∃ Co, ErrIn P K Co
  f0 : FnIn K "is_code" s_is_code
  f1 : FnIn K "sign_of" s_sign_of
  f2 : FnIn K "decode_piece" s_decode_piece
  f3 : FnIn K "count_pieces" s_count_pieces
  f4 : FnIn K "encode_piece" s_encode_piece
  f5 : FnIn K "encode_record" s_encode_record
  f6 : FnIn K "_law_cell" sCell
  f7 : FnIn K "_law_digits" sDigits
  f8 : FnIn K "_law_draw" sDraw
  f9 : FnIn K "_law_stored_text" s_L_stored_text
  f10 : FnIn K "_law_pieces" s_L_pieces
  f11 : FnIn K "_law_encoded" s_L_encoded
  f12 : FnIn K "law" sLaw
  c_PERCENT : ∃ t, PySem.W.nsIn K mainGlobals "PERCENT" = some (some (.int 37 t))
  c_PIECE : ∃ t, PySem.W.nsIn K mainGlobals "PIECE" = some (some (.int 24 t))
  c_PIECES_MOST : ∃ t, PySem.W.nsIn K mainGlobals "PIECES_MOST" = some (some (.int 255 t))
  c_MARK : ∃ t, PySem.W.nsIn K mainGlobals "MARK" = some (some (.int 76 t))
  c_FIRST_CODE : ∃ t, PySem.W.nsIn K mainGlobals "FIRST_CODE" = some (some (.int 32 t))
  c_LAST_CODE : ∃ t, PySem.W.nsIn K mainGlobals "LAST_CODE" = some (some (.int 126 t))
  c_NEWLINE : ∃ t, PySem.W.nsIn K mainGlobals "NEWLINE" = some (some (.int 10 t))
  c_SIGNS : ∃ t, PySem.W.nsIn K mainGlobals "SIGNS" = some (some (.str " !\"#$ &'()*+,-./0123456789:;<=>?@ABCDEFGHIJKLMNOPQRSTUVWXYZ[\\]^_`abcdefghijklmnopqrstuvwxyz{|}~" t))
  b_len : PySem.W.nsIn K mainGlobals "len" = some none
  b_all : PySem.W.nsIn K mainGlobals "all" = some none
  b_any : PySem.W.nsIn K mainGlobals "any" = some none
  b_ord : PySem.W.nsIn K mainGlobals "ord" = some none
  b_int : PySem.W.nsIn K mainGlobals "int" = some none
  b_range : PySem.W.nsIn K mainGlobals "range" = some none
  b_repr : PySem.W.nsIn K mainGlobals "repr" = some none
  b_tuple : PySem.W.nsIn K mainGlobals "tuple" = some none
  b_list : PySem.W.nsIn K mainGlobals "list" = some none
  b_dict : PySem.W.nsIn K mainGlobals "dict" = some none
  b_set : PySem.W.nsIn K mainGlobals "set" = some none
  b_sorted : PySem.W.nsIn K mainGlobals "sorted" = some none
  b_str : PySem.W.nsIn K mainGlobals "str" = some none
  b_isinstance : PySem.W.nsIn K mainGlobals "isinstance" = some none
  b_min : PySem.W.nsIn K mainGlobals "min" = some none
  b_max : PySem.W.nsIn K mainGlobals "max" = some none
  b_sum : PySem.W.nsIn K mainGlobals "sum" = some none
  b_bool : PySem.W.nsIn K mainGlobals "bool" = some none
  b_enumerate : PySem.W.nsIn K mainGlobals "enumerate" = some none
  b_zip : PySem.W.nsIn K mainGlobals "zip" = some none
  b_reversed : PySem.W.nsIn K mainGlobals "reversed" = some none
  b_abs : PySem.W.nsIn K mainGlobals "abs" = some none
theorem Tops.tx {P : Program} {w : World} {K : PySem.W.Frag} {mg : Str → Option Value} {h : Heap} (O : Tops P w K) (X : K.In h) (G : h.Ns mainGlobals mg) : Tx mg := by
  obtain ⟨t_PERCENT, e_PERCENT⟩ := O.c_PERCENT
  obtain ⟨t_PIECE, e_PIECE⟩ := O.c_PIECE
  obtain ⟨t_PIECES_MOST, e_PIECES_MOST⟩ := O.c_PIECES_MOST
  obtain ⟨t_MARK, e_MARK⟩ := O.c_MARK
  obtain ⟨t_FIRST_CODE, e_FIRST_CODE⟩ := O.c_FIRST_CODE
  obtain ⟨t_LAST_CODE, e_LAST_CODE⟩ := O.c_LAST_CODE
  obtain ⟨t_NEWLINE, e_NEWLINE⟩ := O.c_NEWLINE
  obtain ⟨t_SIGNS, e_SIGNS⟩ := O.c_SIGNS
  exact ⟨PySem.W.mg_none_of X G O.b_len, PySem.W.mg_none_of X G O.b_all, PySem.W.mg_none_of X G O.b_any, PySem.W.mg_none_of X G O.b_ord, PySem.W.mg_none_of X G O.b_int, PySem.W.mg_none_of X G O.b_range, PySem.W.mg_none_of X G O.b_repr, PySem.W.mg_none_of X G O.b_tuple, PySem.W.mg_none_of X G O.b_list, PySem.W.mg_none_of X G O.b_dict, PySem.W.mg_none_of X G O.b_set, PySem.W.mg_none_of X G O.b_sorted, PySem.W.mg_none_of X G O.b_str, PySem.W.mg_none_of X G O.b_isinstance, PySem.W.mg_none_of X G O.b_min, PySem.W.mg_none_of X G O.b_max, PySem.W.mg_none_of X G O.b_sum, PySem.W.mg_none_of X G O.b_bool, PySem.W.mg_none_of X G O.b_enumerate, PySem.W.mg_none_of X G O.b_zip, PySem.W.mg_none_of X G O.b_reversed, PySem.W.mg_none_of X G O.b_abs, ⟨_, PySem.W.mg_of X G e_PERCENT⟩, ⟨_, PySem.W.mg_of X G e_PIECE⟩, ⟨_, PySem.W.mg_of X G e_PIECES_MOST⟩, ⟨_, PySem.W.mg_of X G e_MARK⟩, ⟨_, PySem.W.mg_of X G e_FIRST_CODE⟩, ⟨_, PySem.W.mg_of X G e_LAST_CODE⟩, ⟨_, PySem.W.mg_of X G e_NEWLINE⟩, ⟨_, PySem.W.mg_of X G e_SIGNS⟩⟩
theorem all_mk {l : PySem.W.OpenLaw} {w : World} {K : PySem.W.Frag} {h : Heap} {mg : Str → Option Value} {fa : Addr} (X : K.In h) (G : h.Ns mainGlobals mg) (hfa : mg "law" = some (.ref fa)) (O : Tops l.prog w K) :
    ∃ fd : FuncData, (∀ (s : Shared) (v : Value), BindsTo s fd ⟨[v], []⟩ [("script", v)]) ∧ ∀ base : Heap, K.In base → base.Ns mainGlobals mg → FnG l.prog w K mg base CX0 5 fa fd ["script"] (spLaw K) := by
  have T := O.tx X G
  obtain ⟨a0, u0, v0, x0, y0, z0, c0, F0, m0⟩ := O.f0.fn X G
  have b0 := F0.binds (ps := ["code"]) fun _ _ _ _ _ _ us hl => match us, hl with | [_], _ => rfl
  obtain ⟨a1, u1, v1, x1, y1, z1, c1, F1, m1⟩ := O.f1.fn X G
  have b1 := F1.binds (ps := ["code"]) fun _ _ _ _ _ _ us hl => match us, hl with | [_], _ => rfl
  obtain ⟨a2, u2, v2, x2, y2, z2, c2, F2, m2⟩ := O.f2.fn X G
  have b2 := F2.binds (ps := ["block"]) fun _ _ _ _ _ _ us hl => match us, hl with | [_], _ => rfl
  obtain ⟨a3, u3, v3, x3, y3, z3, c3, F3, m3⟩ := O.f3.fn X G
  have b3 := F3.binds (ps := ["text"]) fun _ _ _ _ _ _ us hl => match us, hl with | [_], _ => rfl
  obtain ⟨a4, u4, v4, x4, y4, z4, c4, F4, m4⟩ := O.f4.fn X G
  have b4 := F4.binds (ps := ["index", "many", "number", "text"]) fun _ _ _ _ _ _ us hl => match us, hl with | [_, _, _, _], _ => rfl
  obtain ⟨a5, u5, v5, x5, y5, z5, c5, F5, m5⟩ := O.f5.fn X G
  have b5 := F5.binds (ps := ["number", "text"]) fun _ _ _ _ _ _ us hl => match us, hl with | [_, _], _ => rfl
  obtain ⟨a6, u6, v6, x6, y6, z6, c6, F6, m6⟩ := O.f6.fn X G
  have b6 := F6.binds (ps := ["script", "k"]) fun _ _ _ _ _ _ us hl => match us, hl with | [_, _], _ => rfl
  obtain ⟨a7, u7, v7, x7, y7, z7, c7, F7, m7⟩ := O.f7.fn X G
  have b7 := F7.binds (ps := ["script", "first", "last"]) fun _ _ _ _ _ _ us hl => match us, hl with | [_, _, _], _ => rfl
  obtain ⟨a8, u8, v8, x8, y8, z8, c8, F8, m8⟩ := O.f8.fn X G
  have b8 := F8.binds (ps := ["box", "many"]) fun _ _ _ _ _ _ us hl => match us, hl with | [_, _], _ => rfl
  obtain ⟨a9, u9, v9, x9, y9, z9, c9, F9, m9⟩ := O.f9.fn X G
  have b9 := F9.binds (ps := ["box", "many"]) fun _ _ _ _ _ _ us hl => match us, hl with | [_, _], _ => rfl
  obtain ⟨a10, u10, v10, x10, y10, z10, c10, F10, m10⟩ := O.f10.fn X G
  have b10 := F10.binds (ps := ["number", "text"]) fun _ _ _ _ _ _ us hl => match us, hl with | [_, _], _ => rfl
  obtain ⟨a11, u11, v11, x11, y11, z11, c11, F11, m11⟩ := O.f11.fn X G
  have b11 := F11.binds (ps := ["number", "text"]) fun _ _ _ _ _ _ us hl => match us, hl with | [_, _], _ => rfl
  obtain ⟨a12, u12, v12, x12, y12, z12, c12, F12, m12⟩ := O.f12.fn X G
  obtain ⟨Co, EI⟩ := O.err
  obtain ⟨fo, cc, cO, fdo, SI, iO, tO⟩ := EI.init
  have bO : Binds K fdo ["self", "name"] [] := by
    obtain ⟨_, _, _, _, _, _, _, _, _, doc, pm, ctv, _, _, _, _, rfl, _⟩ := SI.ex
    exact .all fun us hl => match us, hl with | [_, _], _ => rfl
  have gO := PySem.W.mg_of X G EI.go
  have e := hfa.symm.trans m12
  cases e
  refine ⟨PySem.W.fnOf "law" "law" (defArgs sLaw) (defBody sLaw) (defScope sLaw) .none u12 v12 x12 y12 z12 c12, fun s v => .of_eq rfl, fun base _ _ => ?_⟩
  have OO : OorC l.prog w K mg base Co fo fdo := ⟨ok_oor SI EI.sc (PySem.W.mg_none_of X G EI.sup) EI.top EI.nm, EI.sc.toOexC, iO, tO, bO, gO⟩
  have CT : CatC K mg Co := ⟨gO, EI.exm, EI.xf, EI.nm⟩
  have G0 := ok_is_code (P := l.prog) (w := w) (base := base) (K := K) (mg := mg) F0 T 
  have G1 := ok_sign_of (P := l.prog) (w := w) (base := base) (K := K) (mg := mg) F1 T 
  have G2 := ok_decode_piece (P := l.prog) (w := w) (base := base) (K := K) (mg := mg) F2 T ⟨_, _, G1, m1, F1.kp, b1⟩ ⟨_, _, G0, m0, F0.kp, b0⟩
  have G3 := ok_count (P := l.prog) (w := w) (base := base) (K := K) (mg := mg) F3 T 
  have G4 := ok_encp (P := l.prog) (w := w) (base := base) (K := K) (mg := mg) F4 T 
  have G5 := ok_encr (P := l.prog) (w := w) (base := base) (K := K) (mg := mg) F5 T OO ⟨_, _, G3, m3, F3.kp, b3⟩ ⟨_, _, G4, m4, F4.kp, b4⟩
  have G6 := ok_cell (P := l.prog) (w := w) (base := base) (K := K) (mg := mg) F6 T 
  have G7 := ok_digitsC (P := l.prog) (w := w) (base := base) (K := K) (mg := mg) F7 T ⟨_, _, G6, m6, F6.kp, b6⟩
  have G8 := ok_draw (P := l.prog) (w := w) (base := base) (K := K) (mg := mg) F8 T 
  have G9 := ok_stored (P := l.prog) (w := w) (base := base) (K := K) (mg := mg) F9 T ⟨_, _, G8, m8, F8.kp, b8⟩
  have G10 := ok_pieces (P := l.prog) (w := w) (base := base) (K := K) (mg := mg) F10 T 
  have G11 := ok_lenc (P := l.prog) (w := w) (base := base) (K := K) (mg := mg) F11 CT ⟨_, _, G5, m5, F5.kp, b5⟩
  exact ok_law (P := l.prog) (w := w) (base := base) (K := K) (mg := mg) F12 T ⟨_, _, G7, m7, F7.kp, b7⟩ ⟨_, _, G8, m8, F8.kp, b8⟩ ⟨_, _, G9, m9, F9.kp, b9⟩ ⟨_, _, G10, m10, F10.kp, b10⟩ ⟨_, _, G11, m11, F11.kp, b11⟩ ⟨_, _, G2, m2, F2.kp, b2⟩
end KX

open PySem PySem.W PyProof.Rows
set_option maxRecDepth 100000 in
set_option maxHeartbeats 0 in
theorem PySem.Challenge.cw_sameanswers_k43_records_in_pieces_holds : PySem.Challenge.rw_sameanswers_k43_records_in_pieces.Holds := by
  w_on; o_law; k_head; (case hw => w_witness2)
  k_fill
  refine Ga.walk_G (l := PySem.Challenge.rw_sameanswers_k43_records_in_pieces) (n := 63) (k := 5) (x := "script") (sp := fun w => KX.spLaw _) rfl (by decide) rfl ⟨rfl, by decide, by decide⟩ (fun w h Y => PySem.W.kIn_of Y) ?zzF (fun _ _ a ns hl _ hS => ⟨a, ns, rfl, hS, hl, fun _ => rfl⟩)
  case zzF =>
    intro w mg fa h hKX G hmg
    refine KX.all_mk hKX G hmg ?zzO
    constructor
    · refine' ⟨_, KX.ErrIn.mk ?go ?sc ?nm ?ini ?sup ?top (PySem.W.exm_ref ?zx1 ?zx2 ?zx3 ?zx4) ⟨?zg1, ?zg2, ?zg3, ?zg4⟩⟩
      (case go => k_is)
      case sc =>
        refine' KX.oexIn ?xL ?vb ?sa ?ex ?ty ?kp ?se ?su ?ve ?an
        (case xL => k_is)
        (case vb => first | rfl | decide | k_is)
        (case sa => k_is)
        (case ex => k_is)
        (case ty => k_is)
        (case kp => k_is)
        (case se => k_is)
        (case su => first | ks_is | k_is)
        (case ve => k_is)
        (case an => k_is)
      (case nm => k_is)
      case ini =>
        refine' KX.supIn ?i ?t ?l ?h ?lc ?v2 ?hf ?ce
        (case i => k_is)
        (case l => k_is)
        (case t => k_is)
        (case h => k_is)
        (case lc => k_is)
        (case v2 => first | rfl | k_is)
        (case hf => first | rfl | decide +kernel | k_is)
        (case ce => k_is)
      (case sup => k_is)
      (case top => first | rfl | decide +kernel | k_is)
      (case zx1 => k_is)
      (case zx2 => k_is)
      (case zx3 => k_is)
      (case zx4 => k_is)
      (case zg1 => k_is)
      (case zg2 => k_is)
      (case zg3 => k_is)
      (case zg4 => k_is)
    · refine' KX.fnIn ?zza ?zzl ?zzc ?zzk
      (case zza => k_is)
      (case zzl => k_is)
      (case zzc => k_is)
      (case zzk => k_is)
    · refine' KX.fnIn ?zza ?zzl ?zzc ?zzk
      (case zza => k_is)
      (case zzl => k_is)
      (case zzc => k_is)
      (case zzk => k_is)
    · refine' KX.fnIn ?zza ?zzl ?zzc ?zzk
      (case zza => k_is)
      (case zzl => k_is)
      (case zzc => k_is)
      (case zzk => k_is)
    · refine' KX.fnIn ?zza ?zzl ?zzc ?zzk
      (case zza => k_is)
      (case zzl => k_is)
      (case zzc => k_is)
      (case zzk => k_is)
    · refine' KX.fnIn ?zza ?zzl ?zzc ?zzk
      (case zza => k_is)
      (case zzl => k_is)
      (case zzc => k_is)
      (case zzk => k_is)
    · refine' KX.fnIn ?zza ?zzl ?zzc ?zzk
      (case zza => k_is)
      (case zzl => k_is)
      (case zzc => k_is)
      (case zzk => k_is)
    · refine' KX.fnIn ?zza ?zzl ?zzc ?zzk
      (case zza => k_is)
      (case zzl => k_is)
      (case zzc => k_is)
      (case zzk => k_is)
    · refine' KX.fnIn ?zza ?zzl ?zzc ?zzk
      (case zza => k_is)
      (case zzl => k_is)
      (case zzc => k_is)
      (case zzk => k_is)
    · refine' KX.fnIn ?zza ?zzl ?zzc ?zzk
      (case zza => k_is)
      (case zzl => k_is)
      (case zzc => k_is)
      (case zzk => k_is)
    · refine' KX.fnIn ?zza ?zzl ?zzc ?zzk
      (case zza => k_is)
      (case zzl => k_is)
      (case zzc => k_is)
      (case zzk => k_is)
    · refine' KX.fnIn ?zza ?zzl ?zzc ?zzk
      (case zza => k_is)
      (case zzl => k_is)
      (case zzc => k_is)
      (case zzk => k_is)
    · refine' KX.fnIn ?zza ?zzl ?zzc ?zzk
      (case zza => k_is)
      (case zzl => k_is)
      (case zzc => k_is)
      (case zzk => k_is)
    · refine' KX.fnIn ?zza ?zzl ?zzc ?zzk
      (case zza => k_is)
      (case zzl => k_is)
      (case zzc => k_is)
      (case zzk => k_is)
    · refine' KX.intIn ?zzz
      (case zzz => k_is)
    · refine' KX.intIn ?zzz
      (case zzz => k_is)
    · refine' KX.intIn ?zzz
      (case zzz => k_is)
    · refine' KX.intIn ?zzz
      (case zzz => k_is)
    · refine' KX.intIn ?zzz
      (case zzz => k_is)
    · refine' KX.intIn ?zzz
      (case zzz => k_is)
    · refine' KX.intIn ?zzz
      (case zzz => k_is)
    · refine' KX.strIn ?zzz
      (case zzz => k_is)
    · k_is
    · k_is
    · k_is
    · k_is
    · k_is
    · k_is
    · k_is
    · k_is
    · k_is
    · k_is
    · k_is
    · k_is
    · k_is
    · k_is
    · k_is
    · k_is
    · k_is
    · k_is
    · k_is
    · k_is
    · k_is
    · k_is
