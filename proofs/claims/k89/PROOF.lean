import PyProof.Rows.All
import Wide.All
import OpenK.AllK
import Wide.FinOn
import HandS.ForMost
import HandS.Wide
import HandS.IsInst
import HandS.TupAny
import HandS.Deep
import HandS.FStr
import HandS.Flow
import HandS.Codes
import HandS.Walk
import HandS.Text
import PyProof.ReprLen
import HandS.SortRule
import HandS.Conv
import HandS.SetFor
import HandS.DeepEq
import HandS.More
import HandS.Style
import HandS.ExcOwn
import HandS.ExcIs
import HandS.WordsExc
import HandS.TryOnly
import PyProof.SumAny
import PyProof.ListOps
import PyProof.Walks
import HandS.ExcValue
import HandS.ReplaceLit
import HandS.ReplaceList
import HandS.Property
import HandS.WordsDict
import HandS.Ends
import HandS.SetKeys
import HandS.ExcInit
import HandS.ExcField
import KE.KExcIs
import KE.KExcStr
import PyProof.FString4
import PyProof.ExcReprCall
import HandS.Finally
import HandS.Star
import HandS.SlotsOwn
import HandS.NoneIn
import KE.KCallOwn
import HandS.Defaults
import HandS.MakeKwOnly
import PySem.Challenge.RW_rowqueue_k89_whole_far_waits
set_option Elab.async false
set_option linter.all false
set_option maxRecDepth 100000
set_option maxHeartbeats 4000000
namespace Gd
open PySem PySem.Spec PyProof.Rows L2
/-- a def's promise that may use that no repr is under way -/
structure Fn (P : Program) (w : World) (K : PySem.W.Frag) (mg : Str → Option Value) (base : Heap) (CX : CXT) (k : Nat) (f : Addr) (fd : FuncData) (ps : List Str) (sp : Sp) : Prop where
  arity : ∀ vs H Q E, sp vs H Q E → vs.length = ps.length
  go : ∀ (A : Around) (cs : List Env) (s : Shared) (H : Hp) (ar : Args) (us : List Value) (vs : List V) (Q : VK) (E : XK),
    A.guards = some [] → Room k A → Env0 P w K mg base A cs s H → BindsTo s fd ar (ps.zip us) → Vals vs us → sp vs H Q E →
    codeAny (model P w) A (.call (.ref f) ar) (CR CX cs P w H s Q E) s
section
variable {P : Program} {w : World} {K : PySem.W.Frag} {mg : Str → Option Value} {base : Heap} {CX : CXT} {k : Nat} {f : Addr} {fd : FuncData} {ps : List Str} {sp : Sp}
theorem Fn.of (F : FnOk P w K mg base CX k f fd ps sp) : Fn P w K mg base CX k f fd ps sp :=
  ⟨F.len, fun A cs s H ar us vs Q E _ => F.run A cs s H ar us vs Q E⟩
theorem Fn.up {j : Nat} (F : Fn P w K mg base CX j f fd ps sp) (h : j ≤ k) : Fn P w K mg base CX k f fd ps sp :=
  ⟨F.arity, fun A cs s H ar us vs Q E g hr => F.go A cs s H ar us vs Q E g (hr.mono h)⟩
/-- from the body, as the layer's own rule, with the fact about A handed to the body -/
theorem mk {x qual : Str} {st : Stmt} {N : List Str} (F : Fun K x qual st f fd) (S : FnScope N ps (defScope st)) (len : ∀ vs H Q E, sp vs H Q E → vs.length = ps.length)
    (body : ∀ (cdv : Value) (A : Around) (cs : List Env) (s : Shared) (H : Hp) (vs : List V) (Q : VK) (E : XK), (A.deeper (envOfC qual (defScope st) s.heap.objs.size f cdv)).guards = some [] →
      Room k (A.deeper (envOfC qual (defScope st) s.heap.objs.size f cdv)) → sp vs H Q E →
      ∃ t, PSs (cxOf CX P w K mg base N qual (defScope st) f cdv A cs s H E).nox (defBody st) t ∧ t { nx := fun _ H' => Q .non H', rt := Q } (L2.start N vs) H) :
    Fn P w K mg base CX (k + 1) f fd ps sp := by
  obtain ⟨oc, od, kV, doc, pm, an, cdv, ct, osl, rfl, lk, hcd⟩ := F.ex
  refine ⟨len, ?_⟩
  intro A cs s H ar us vs Q E g hr e0 hb rv hsp
  have kk : K.In s.heap := e0.mod.kin.keeps fun b o e => (e0.bs b o e).1
  have nl : s.heap.NoLimit := e0.mod.nolimit.keeps fun b o e => (e0.bs b o e).1
  refine codeAny_call_function hr.depth (kk _ _ lk) rfl S.co S.gen rfl (PySem.W.codeRec_of kk hcd) (hb _ _ _ _ ?_)
  refine wpAny_newFunctionEnv_cells S.kind ?_ ?_
  · rintro ⟨n, v⟩ hy
    have hn := (List.of_mem_zip hy).1
    cases S.par n hn with
    | inl q => exact .inl q
    | inr q => exact .inr ⟨q, PySem.W.cellsFrom_some _ _ _ (.inl q)⟩
  intro env he s1 x
  subst he
  refine ⟨nl.keeps x.toInCall.keep, codeAny_func ?_⟩
  obtain ⟨t, ht, hq⟩ := body cdv A cs s H vs Q E (by exact g) (hr.deeper _) hsp
  have J0 := inv_start (CX := CX) (E := E) S hr.hd e0 (len _ _ _ _ hsp) rv x
  refine wpAny_mono (ht.nox.run [] s1 (L2.start N vs) H _ J0 hq) ?_ (fun _ _ z => z)
  intro fl s' hs
  cases fl with
  | ret u =>
    obtain ⟨v, σ', H', J, r1, q⟩ := hs
    exact ⟨v, H', J.os, J.bare, J.base, J.hok, r1, q⟩
  | next =>
    obtain ⟨σ', H', J, q⟩ := hs
    exact ⟨V.non, H', J.os, J.bare, J.base, J.hok, rfl, q⟩
  | brk => exact (hs.elim fun _ z => z.elim fun _ z => z.2.elim)
  | cont => exact (hs.elim fun _ z => z.elim fun _ z => z.2.elim)
end
end Gd

namespace Gd
open PySem PySem.Spec PyProof.Rows L2
section
variable {X : Cx} {CX : CXT} {k : Nat} {f : Addr} {fd : FuncData} {ps : List Str} {sp : Sp} {dvs : List V} {ds : List Value} {E : XK} {x : Str} {p pos : Pos} {e : Expr} {es : List Expr} {t : TA}
theorem runs {pins : List (Addr × Obj)} {σ : L2.St} {H : Hp} {s : Shared} {Q : VK} {us : List Value} {vs : List V} (F : Fn X.prog X.w X.K X.mg X.base CX k f fd ps sp) (hG : X.A.guards = some []) (hr : Room k X.A)
    (hb : Binds X.K fd ps ds) (hd : Vals dvs ds) (hx : Passes CX X E) (I : Inv X pins σ H s) (rv : Vals vs us) (h : sp (vs ++ dvs) H Q E) :
    wpAny (model X.prog X.w) X.A (call (.ref f) us) (EP X pins σ Q) X.xe s := by
  have rr : Vals (vs ++ dvs) (us ++ ds) := rv.append hd
  have ln : (us ++ ds).length = ps.length := rr.length.symm.trans (F.arity _ _ _ _ h)
  refine wpAny_call (codeAny_mono (F.go X.A X.stack s H ⟨us, []⟩ _ _ Q E hG hr I.env0 (hb s us I.kIn ln) rr h) ?_)
  intro r s' hq
  match r, hq with
  | .error e, hq => exact hx pins σ H s e s' I hq
  | .ok (.ret u), hq => exact I.after hq
  | .ok .next, hq => exact hq.elim
  | .ok .brk, hq => exact hq.elim
  | .ok .cont, hq => exact hq.elim
/-- f(e, ..) -/
theorem pe_fn (F : Fn X.prog X.w X.K X.mg X.base CX k f fd ps sp) (hG : X.A.guards = some []) (hr : Room k X.A) (hg : Gl X x) (hm : X.mg x = some (.ref f)) (hk : PySem.W.keepIn X.K (.ref f) = true)
    (hb : Binds X.K fd ps ds) (hd : Vals dvs ds) (hx : Passes CX X E) (ha : PA X (e :: es) t) (hdb : (x == ("__debug__" : Str)) = false := by decide)
    (he : starEach (e :: es) X.env = (false, eval e X.env) :: starEach es X.env := by rfl) (hpl : (backTo pos (starEach es X.env)).any (·.1) = false := by rfl) :
    PE X (.Call (.Name x p) (e :: es) [] pos) (tCall sp dvs E t) := by
  constructor
  intro pins s σ H Q I h
  refine wpAny_Call_Name_kw (ld_glob I hg hm (PySem.W.callWith_K (h₀ := X.base) I.ok.mod.kin hk ?_ he hpl) hdb)
  exact thn (ha.run pos pins s σ H _ I h) fun us s1 ⟨vs, H1, I1, r, q⟩ => ⟨I1.kIn, runs F hG hr hb hd hx I1 r q⟩
end
/-- the law's call: nothing is under way -/
theorem entry {P : Program} {w : World} {K : PySem.W.Frag} {mg mb : Str → Option Value} {k : Nat} {fa a : Addr} {fd : FuncData} {x : Str} {sp : Sp} {s1 : Shared} {vs : List Value} {ns : List Int}
    (kk : K.In s1.heap) (hns : s1.heap.Ns mainGlobals mg) (hb : s1.heap.Ns builtinsNs mb) (hbb : ∀ x : Str, x ≠ "__name__" → mb x = bootBuiltins x) (lim : s1.heap.NoLimit) (hg : s1.gens = #[])
    (ha : s1.heap.get? a = some { cls := .type "list", data := .seq vs.toArray }) (hi : IntsAre vs ns) (hl : ns.length ≤ sizeLine) (hr : Room k callerA)
    (F : ∀ base : Heap, K.In base → base.Ns mainGlobals mg → Fn P w K mg base CX0 k fa fd [x] sp) (hbind : ∀ (s : Shared) (u : Value), BindsTo s fd ⟨[u], []⟩ [(x, u)])
    (hsp : ∀ H : Hp, SqL K H a (ns.map V.int) → sp [.ref a] H (fun v _ => v = .bl true) E0) :
    codeAny (model P w) callerA (.call (.ref fa) ⟨[.ref a], []⟩) (fun r s' => r = .ok (.ret (.bool true)) ∧ OldK s1.heap s'.heap ∧ s'.os = s1.os ∧ AllBare s'.gens) s1 := by
  have rv := vals_ints hi
  have lv := hi.length
  have main : ∀ H : Hp, (∀ b, H b = none ∨ (b = a ∧ K.lookup a = none ∧ H b = some (.frz { cls := .type "list", data := .seq vs.toArray } (.lst (ns.map V.int))))) → SqL K H a (ns.map V.int) → HOk P w H s1.heap →
      codeAny (model P w) callerA (.call (.ref fa) ⟨[.ref a], []⟩) (fun r s' => r = .ok (.ret (.bool true)) ∧ OldK s1.heap s'.heap ∧ s'.os = s1.os ∧ AllBare s'.gens) s1 := by
    intro H hH hS ok
    have nsH : ∀ {b : Addr} {m : Str → Option Value}, s1.heap.Ns b m → (hidT s1.heap H).Ns b m := by
      rintro b m ⟨o, es, ep, e, d, r⟩
      refine ⟨o, es, ep, hidT_get e ?_, d, r⟩
      rcases hH b with z | ⟨z, _, _⟩
      · exact z
      · rw [z, ha] at e
        cases e
        cases d
    have kH : K.In (hidT s1.heap H) := by
      intro b o e
      refine hidT_get (kk b o e) ?_
      rcases hH b with z | ⟨z, z2, _⟩
      · exact z
      · rw [z, z2] at e
        cases e
    obtain ⟨mc, c1, c2⟩ := lim
    have md : Mod K mg (hidT s1.heap H) := ⟨kH, nsH hns, ⟨mb, nsH hb, hbb⟩, ⟨mc, nsH c1, c2⟩⟩
    have ev : Env0 P w K mg (hidT s1.heap H) callerA [] s1 H := by
      refine ⟨rfl, md, fun b o e => of_hidT e, Nat.le_of_eq (hidT_size _ _), trivial, ?_, ok, .of_eq hg⟩
      intro b hb
      cases (show b ∈ ([] : List Addr) from hb)
    refine codeAny_mono ((F _ kH (nsH hns)).go callerA [] s1 H ⟨[.ref a], []⟩ [.ref a] [.ref a] _ _ rfl hr ev (hbind s1 (.ref a)) (.cons rfl .nil) (hsp H hS)) ?_
    intro r s' h
    match r, h with
    | .error _, h => exact h.elim
    | .ok .next, h => exact h.elim
    | .ok .brk, h => exact h.elim
    | .ok .cont, h => exact h.elim
    | .ok (.ret u), ⟨v, H', os, bare, un, ok', r1, q⟩ =>
      have q1 : v = .bl true := q
      subst q1
      have q2 : u = Value.bool true := r1
      subst q2
      refine ⟨rfl, OldK.of_keep ?_, os, bare⟩
      intro b o e
      rcases hH b with z | ⟨_, _, z⟩
      · exact un.keep b o e z (fun y => by cases (show b ∈ ([] : List Addr) from y)) (fun y => by cases y)
      · have y1 := (ok b _ z).1
        have y2 := (ok' b _ (un.frzs b _ _ z)).1
        rw [e] at y1
        cases y1
        exact y2
  cases hk : K.lookup a with
  | some o =>
    have e := kk a o hk
    rw [ha] at e
    cases e
    exact main (fun _ => none) (fun _ => .inl rfl) (.inr ⟨_, vs.toArray, _, hk, rfl, rfl, rfl, by rw [List.size_toArray, lv]; exact hl, by simpa using rv⟩) (fun b u z => by cases (show (none : Option HO) = some u from z))
  | none =>
    refine main (fun b => if b = a then some (.frz { cls := .type "list", data := .seq vs.toArray } (.lst (ns.map V.int))) else none) ?_ (.inl (.inr ⟨_, if_pos rfl⟩)) ?_
    · intro b
      by_cases hb : b = a
      · exact .inr ⟨hb, hk, if_pos hb⟩
      · exact .inl (if_neg hb)
    · intro b u z
      by_cases hb : b = a
      · have z1 := (if_pos hb).symm.trans z
        cases z1
        subst hb
        exact ⟨ha, by rw [List.length_map]; exact hl, vs, _, rv, ha⟩
      · cases (if_neg hb).symm.trans z
/-- what k_head leaves of the law -/
theorem walk {l : PySem.W.OpenLaw} {n k : Nat} {q : Program} {loose : List Str} {XP : (Str → Option Value) → Heap → Prop} {YP : World → Heap → Prop} {d : DefRec} {K : Params → PySem.W.Frag} {sp : World → Sp} {x : Str}
    (hn : l.most = some n) (hn2 : n ≤ sizeLine) (hdf : d.params.defaults = []) (hr : Room k callerA) (hY : ∀ (w : World) (h : Heap), YP w h → (K w.params).In h)
    (F : ∀ (w : World) (mg : Str → Option Value) (fa : Addr) (h : Heap), (K w.params).In h → h.Ns mainGlobals mg → mg d.name = some (.ref fa) →
      ∃ fd : FuncData, (∀ (s : Shared) (u : Value), BindsTo s fd ⟨[u], []⟩ [(x, u)]) ∧
        ∀ base : Heap, (K w.params).In base → base.Ns mainGlobals mg → Fn l.prog w (K w.params) mg base CX0 k fa fd [x] (sp w))
    (hsp : ∀ (w : World) (H : Hp) (a : Addr) (ns : List Int), ns.length ≤ n → SqL (K w.params) H a (ns.map V.int) → sp w [.ref a] H (fun v _ => v = .bl true) E0) :
    PySem.W.WalkO q loose XP YP l.row.toRowW d [] (fun f vs => PySem.call f vs) := by
  refine Att.attach_call hn hdf ?_
  intro w s0 s1 mg mb fa o pm cd doc a vs ns G Y ho hd hcd hmg hobj hints hlen hg
  obtain ⟨fd, hb, hF⟩ := F w mg fa _ (hY w _ Y) G.T.g hmg
  exact entry (hY w _ Y) G.T.g G.T.b G.T.builtins G.T.nolimit hg hobj hints (Nat.le_trans hlen hn2) hr hF hb (fun H hS => hsp w H a ns hlen hS)
end Gd

namespace Gd
open PySem PySem.Spec PyProof.Rows L2
/-! ### data at any depth, dicts too -/
mutual
def anyL : PyData → Bool
  | .list _ => true
  | .tuple xs => anyLs xs
  | .dict kvs => anyLk kvs
  | _ => false
def anyLs : List PyData → Bool
  | [] => false
  | x :: xs => anyL x || anyLs xs
def anyLk : List (PyData × PyData) → Bool
  | [] => false
  | (_, v) :: r => anyL v || anyLk r
end
def kD : Key → PyData
  | .inl i => .int i
  | .inr x => .str x
mutual
/-- the value v, as the heap stands, is the datum d -/
inductive Dt (K : PySem.W.Frag) (H : Hp) : V → PyData → Prop
  | non : Dt K H .non .none
  | bl (b : Bool) : Dt K H (.bl b) (.bool b)
  | int (i : Int) : Dt K H (.int i) (.int i)
  | str (x : Str) : Dt K H (.str x) (.str x)
  | lst {a : Addr} {xs : List V} {ds : List PyData} : SqL K H a xs → Dts K H xs ds → Dt K H (.ref a) (.list ds)
  | tup {a : Addr} {xs : List V} {ds : List PyData} : SqT K H a xs → Dts K H xs ds → Dt K H (.ref a) (.tuple ds)
  | dic {a : Addr} {kvs : List (Key × V)} {ds : List (PyData × PyData)} : H a = some (.dK kvs) → Dtk K H kvs ds → Dt K H (.ref a) (.dict ds)
inductive Dts (K : PySem.W.Frag) (H : Hp) : List V → List PyData → Prop
  | nil : Dts K H [] []
  | cons {v : V} {vs : List V} {d : PyData} {ds : List PyData} : Dt K H v d → Dts K H vs ds → Dts K H (v :: vs) (d :: ds)
inductive Dtk (K : PySem.W.Frag) (H : Hp) : List (Key × V) → List (PyData × PyData) → Prop
  | nil : Dtk K H [] []
  | cons {k : Key} {v : V} {vs : List (Key × V)} {d : PyData} {ds : List (PyData × PyData)} : Dt K H v d → Dtk K H vs ds → Dtk K H ((k, v) :: vs) ((kD k, d) :: ds)
end
section
variable {X : Cx} {pins : List (Addr × Obj)} {σ : L2.St} {H : Hp} {s : Shared}
theorem key_reads {h : Heap} {k : Key} {u : Value} (e : keyIs k u = true) : Reads h u (kD k) [] := by
  rcases keyIs_shape e with ⟨i, t, rfl, rfl⟩ | ⟨x, t, rfl, rfl⟩
  · exact Reads.int i t
  · exact Reads.str x t
mutual
theorem Dt.reads (I : Inv X pins σ H s) : ∀ (d : PyData) (v : V) (u : Value), Dt X.K H v d → RelV v u → ∃ as, Reads s.heap u d as ∧ (anyL d = false → sysModules ∉ as)
  | .none, _, _, h, r => by
    cases h
    cases r
    exact ⟨_, Reads.none, fun _ z => by cases z⟩
  | .bool b, _, _, h, r => by
    cases h
    cases r
    exact ⟨_, Reads.bool b, fun _ z => by cases z⟩
  | .int i, _, _, h, r => by
    cases h
    obtain ⟨t, rfl⟩ := r
    exact ⟨_, Reads.int i t, fun _ z => by cases z⟩
  | .str x, _, _, h, r => by
    cases h
    obtain ⟨t, rfl⟩ := r
    exact ⟨_, Reads.str x t, fun _ z => by cases z⟩
  | .list ds, _, _, h, r => by
    cases h with
    | lst hs ha =>
      cases r
      obtain ⟨its, rv, ⟨o, n, ho, hc, _, hd⟩, _⟩ := I.list hs
      obtain ⟨as, hr, _⟩ := Dt.readss I ds _ its ha rv
      exact ⟨_, Reads.list ho hc hd hr, fun z => by simp [anyL] at z⟩
  | .tuple ds, _, _, h, r => by
    cases h with
    | tup hs ha =>
      cases r
      obtain ⟨its, rv, ⟨o, ho, hc, n, hd⟩, _⟩ := I.tuple hs
      obtain ⟨as, hr, hn⟩ := Dt.readss I ds _ its ha rv
      exact ⟨_, Reads.tuple ho hc hd hr, fun z => hn (by simpa [anyL] using z)⟩
  | .dict ds, _, _, h, r => by
    cases h with
    | @dic a kvs _ hs ha =>
      cases r
      obtain ⟨_, ne, vs, kv, o, es, ep, ho, hx, hd, _, pr, _⟩ := I.hok a _ hs
      obtain ⟨as, bs, h1, h2, h3, h4⟩ := Dt.readsk I ds kvs vs es.toList ha kv pr
      refine ⟨_, Reads.dict ho (by first | exact hx.cls | exact hx.1 | exact hx) hd h1 h2, fun z => ?_⟩
      have q := h4 (by simpa [anyL] using z)
      subst h3
      simp only [List.append_nil, List.cons_append, List.nil_append, List.mem_cons, not_or]
      exact ⟨fun e => by rw [← e] at ne; simp at ne, q⟩
theorem Dt.readss (I : Inv X pins σ H s) : ∀ (ds : List PyData) (vs : List V) (us : List Value), Dts X.K H vs ds → Vals vs us → ∃ as, ReadsAll s.heap us ds as ∧ (anyLs ds = false → sysModules ∉ as)
  | [], _, _, h, r => by
    cases h
    cases r
    exact ⟨_, ReadsAll.nil, fun _ z => by cases z⟩
  | d :: ds, _, _, h, r => by
    cases h with
    | cons h1 h2 =>
      cases r with
      | cons r1 r2 =>
        obtain ⟨as, q1, n1⟩ := Dt.reads I d _ _ h1 r1
        obtain ⟨bs, q2, n2⟩ := Dt.readss I ds _ _ h2 r2
        refine ⟨_, ReadsAll.cons q1 q2, fun z => ?_⟩
        simp only [anyLs, Bool.or_eq_false_iff] at z
        rw [List.mem_append, not_or]
        exact ⟨n1 z.1, n2 z.2⟩
theorem Dt.readsk (I : Inv X pins σ H s) : ∀ (ds : List (PyData × PyData)) (kvs : List (Key × V)) (vs : List (Key × Value)) (es : List DictEntry), Dtk X.K H kvs ds → KV kvs vs → Pairs (mixKind X.prog X.w) es vs →
    ∃ as bs, ReadsAll s.heap (es.map (·.key)) (ds.map (·.1)) as ∧ ReadsAll s.heap (es.map (·.val)) (ds.map (·.2)) bs ∧ as = [] ∧ (anyLk ds = false → sysModules ∉ bs)
  | [], _, _, _, h, r, p => by
    cases h
    cases r
    cases p
    exact ⟨_, _, ReadsAll.nil, ReadsAll.nil, rfl, fun _ z => by cases z⟩
  | (kd, d) :: ds, _, _, _, h, r, p => by
    cases h with
    | cons h1 h2 =>
      cases r with
      | cons r1 r2 =>
        cases p with
        | cons p1 p2 p3 =>
          obtain ⟨e1, rv⟩ := r1
          simp only at e1
          subst e1
          rw [← p2] at rv
          obtain ⟨as, q1, n1⟩ := Dt.reads I d _ _ h1 rv
          obtain ⟨cs, bs, q2, q3, q4, q5⟩ := Dt.readsk I ds _ _ _ h2 r2 p3
          subst q4
          refine ⟨_, _, ReadsAll.cons (key_reads p1) q2, ReadsAll.cons q1 q3, rfl, fun z => ?_⟩
          simp only [anyLk, Bool.or_eq_false_iff] at z
          rw [List.mem_append, not_or]
          exact ⟨n1 z.1, q5 z.2⟩
end
end
/-- a datum that repr writes in the layer -/
structure Showy (d : PyData) : Prop where
  sh : d.showable = true
  dp : d.depth ≤ 40
  sz : d.shown.length ≤ sizeLine
  ok : d.hasDict = true → anyL d = false
section
variable {X : Cx}
def rRepr (K : PySem.W.Frag) : List V → Hp → VK → Prop := fun xs H Q => ∃ v d, xs = [v] ∧ Dt K H v d ∧ Showy d ∧ Q (.str d.shown) H
theorem call_repr (hG : X.A.guards = some []) (hu : X.A.units + 64 < cLine) : CallR X (.builtin "repr") (rRepr X.K) := by
  intro pins s σ H xs us Q I r h
  obtain ⟨v, d, rfl, hd, sw, q⟩ := h
  obtain ⟨u, rfl, rv⟩ := vals1 r
  obtain ⟨as, rd, ns⟩ := Dt.reads I d v u hd rv
  have dp := sw.dp
  have ref : ∀ a, u = .ref a → wpAny (model X.prog X.w) X.A (call (.builtin "repr") [u]) (EP X pins σ Q) X.xe s := by
    rintro a rfl
    refine repr_of_reads' rd sw.sh (fun z => ns (sw.ok z)) hG (by omega) (fun _ _ e => e) (fun h' t tk hk => ?_) sw.sz
    exact ⟨.str d.shown, H, I.kept hk, ⟨t, rfl⟩, q⟩
  cases hd with
  | non => cases rv; exact PySem.P.repr_of_none ⟨.str _, H, I.tok _, ⟨_, rfl⟩, q⟩
  | bl b => cases rv; exact PySem.P.repr_of_bool ⟨.str _, H, I.tok _, ⟨_, rfl⟩, by cases b <;> exact q⟩
  | int i =>
    obtain ⟨t, rfl⟩ := rv
    exact PySem.P.repr_of_int (by simpa [PyData.showable] using sw.sh) ⟨.str _, H, I.tok _, ⟨_, rfl⟩, q⟩
  | str x =>
    obtain ⟨t, rfl⟩ := rv
    exact PySem.P.repr_of_str ⟨.str _, H, I.tok _, ⟨_, rfl⟩, q⟩ sw.sz
  | lst h1 h2 => cases rv; exact ref _ rfl
  | tup h1 h2 => cases rv; exact ref _ rfl
  | dic h1 h2 => cases rv; exact ref _ rfl
end
end Gd

namespace Gd
open PySem PySem.Spec PyProof.Rows L2
/-! ### a def of the law's text, with its name and its binding -/
structure Def (K : PySem.W.Frag) (mg : Str → Option Value) (x : Str) (st : Stmt) (f : Addr) (fd : FuncData) (ps : List Str) : Prop where
  F : Fun K x x st f fd
  m : mg x = some (.ref f)
  b : Binds K fd ps []
section
variable {X : Cx} {k : Nat} {f : Addr} {fd : FuncData} {ps : List Str} {sp : Sp} {x : Str} {st : Stmt} {p pos : Pos} {e : Expr} {es : List Expr} {t : TA}
theorem cl (D : Def X.K X.mg x st f fd ps) (F : FnOk X.prog X.w X.K X.mg X.base CX0 k f fd ps sp) (hr : Room k X.A) (ha : PA X (e :: es) t) (hg : Gl X x := by rfl) (hdb : (x == ("__debug__" : Str)) = false := by decide)
    (he : starEach (e :: es) X.env = (false, eval e X.env) :: starEach es X.env := by rfl) (hpl : (backTo pos (starEach es X.env)).any (·.1) = false := by rfl) : PE X (.Call (.Name x p) (e :: es) [] pos) (tCall sp [] E0 t) :=
  pe_call F hr hg D.m D.F.kp D.b .nil pass0 ha hdb he hpl
theorem cl0 (D : Def X.K X.mg x st f fd ps) (F : FnOk X.prog X.w X.K X.mg X.base CX0 k f fd ps sp) (hr : Room k X.A) (hg : Gl X x := by rfl) (hdb : (x == ("__debug__" : Str)) = false := by decide) : PE X (.Call (.Name x p) [] [] pos) (tCall sp [] E0 tNil) :=
  pe_call0 F hr hg D.m D.F.kp D.b .nil pass0 hdb
theorem clG (D : Def X.K X.mg x st f fd ps) (F : Fn X.prog X.w X.K X.mg X.base CX0 k f fd ps sp) (hG : X.A.guards = some []) (hr : Room k X.A) (ha : PA X (e :: es) t) (hg : Gl X x := by rfl) (hdb : (x == ("__debug__" : Str)) = false := by decide)
    (he : starEach (e :: es) X.env = (false, eval e X.env) :: starEach es X.env := by rfl) (hpl : (backTo pos (starEach es X.env)).any (·.1) = false := by rfl) : PE X (.Call (.Name x p) (e :: es) [] pos) (tCall sp [] E0 t) :=
  pe_fn F hG hr hg D.m D.F.kp D.b .nil pass0 ha hdb he hpl
end
/-! ### operations -/
section
variable {X : Cx}
/-- xs[i], read for xs[i] op= e -/
def rGetL (K : PySem.W.Frag) : V → V → Hp → VK → Prop := fun o i H Q => ∃ (p : Addr) (xs : List V) (n : Int) (v : V), o = .ref p ∧ i = .int n ∧ 0 ≤ n ∧ SqL K H p xs ∧ xs[n.toNat]? = some v ∧ Q v H
theorem get_list : PGet X (rGetL X.K) := by
  intro pins s σ H o i ov iv Q I ro ri h
  obtain ⟨p, xs, n, v, rfl, rfl, h0, hq, hv, q⟩ := h
  cases ro
  obtain ⟨t, rfl⟩ := ri
  obtain ⟨its, r, pl, hz⟩ := I.list hq
  obtain ⟨u, hu, ru⟩ := r.get hv
  have ln := r.length
  have jl : n.toNat < xs.length := (List.getElem?_eq_some_iff.mp hv).1
  have n63 := line63
  exact wpAny_getItem_list pl.isList h0 (by omega) (by simpa using hu) ⟨v, H, I, ru, q⟩
/-- == and != of data -/
def rEqDt (K : PySem.W.Frag) : R2 := fun x y H Q => ∃ d e, Dt K H x d ∧ Dt K H y e ∧ SeqAt.shaped d = true ∧ SeqAt.shaped e = true ∧ Q (.bl (PyData.eqv d e)) H
def rNeDt (K : PySem.W.Frag) : R2 := fun x y H Q => ∃ d e, Dt K H x d ∧ Dt K H y e ∧ SeqAt.shaped d = true ∧ SeqAt.shaped e = true ∧ Q (.bl (!PyData.eqv d e)) H
theorem op_eqDt (hu : X.A.units + 64 < cLine) : OpR X (compareOp .Eq) (rEqDt X.K) := by
  intro pins s σ H x y v u Q I rx ry h
  obtain ⟨d, e, hd, he, sd, se, q⟩ := h
  obtain ⟨as, r1, _⟩ := Dt.reads I d x v hd rx
  obtain ⟨bs, r2, _⟩ := Dt.reads I e y u he ry
  exact SeqAt.compareEq_shaped r1 r2 sd se hu ⟨.bl _, H, I, rfl, q⟩
theorem op_neDt (hu : X.A.units + 64 < cLine) : OpR X (compareOp .NotEq) (rNeDt X.K) := by
  intro pins s σ H x y v u Q I rx ry h
  obtain ⟨d, e, hd, he, sd, se, q⟩ := h
  obtain ⟨as, r1, _⟩ := Dt.reads I d x v hd rx
  obtain ⟨bs, r2, _⟩ := Dt.reads I e y u he ry
  exact SeqAt.compareNe_shaped r1 r2 sd se hu ⟨.bl _, H, I, rfl, q⟩
/-- text * int -/
theorem fold_app (n : Nat) (a : Array Nat) : ∀ b : Array Nat, ((List.replicate n a).foldl (· ++ ·) b).toList = b.toList ++ (List.replicate n a.toList).flatten := by
  induction n with
  | zero => intro b; simp
  | succ n ih =>
    intro b
    rw [List.replicate_succ, List.foldl_cons, ih, List.replicate_succ, List.flatten_cons, Array.toList_append, List.append_assoc]
def rMulS : R2 := fun x y H Q => ∃ (z : Str) (n : Nat), x = .str z ∧ y = .int (n : Int) ∧ 1 ≤ n ∧ n ≤ 1000 ∧ z.length * n ≤ sizeLine ∧ ∀ r : Str, r.cps.toList = (List.replicate n z.cps.toList).flatten → Q (.str r) H
theorem op_mulS : OpR X (binaryOp .Mult) rMulS := by
  intro pins s σ H x y v u Q I rx ry h
  obtain ⟨z, n, rfl, rfl, n1, n2, hz, q⟩ := h
  obtain ⟨t, rfl⟩ := rx
  obtain ⟨t', rfl⟩ := ry
  have n63 := line63
  have hn : ¬ (n : Int) < 1 := by omega
  have zn : z.length ≤ z.length * n := Nat.le_mul_of_pos_right _ (by omega)
  refine PySem.P.mul_str ?_ (fun _ _ => ?_) (fun _ _ => ?_) ?_
  · rw [decide_eq_false (by omega), decide_eq_false (by omega)]
    rfl
  · intro hh
    have zl : z.length * n ≤ 16777216 := by
      have := hz
      rw [sizeLine_eq] at this
      exact this
    have h1 : ((z.length : Nat) : Int) * (n : Int) ≤ 2 ^ 63 - 1 := by
      have h3 : (((z.length * n : Nat)) : Int) = (z.length : Int) * (n : Int) := Int.natCast_mul _ _
      omega
    have h4 := (Int.le_ediv_iff_mul_le (show (0 : Int) < n by omega)).mpr h1
    omega
  · unfold PySem.Builtin.Str.tooLong
    rw [show ((n : Int)).toNat = n from by omega]
    exact decide_eq_false (by omega)
  · rw [if_neg hn]
    split
    · rename_i hh
      have e : z.cps.toList = (List.replicate n z.cps.toList).flatten := by
        rcases Bool.or_eq_true_iff.mp hh with w | w
        · have w1 : (n : Int) = 1 := beq_iff_eq.mp w
          have w2 : n = 1 := by omega
          subst w2
          simp
        · have w1 : z.cps.toList = [] := by
            have : z.cps.size = 0 := beq_iff_eq.mp w
            exact Array.toList_eq_nil_iff.mpr (Array.eq_empty_of_size_eq_zero this)
          rw [w1]
          simp
      exact ⟨.str z, H, I, ⟨t, rfl⟩, q z e⟩
    · refine ⟨?_, .str _, H, I.tok _, ⟨_, rfl⟩, q _ ?_⟩
      · have e : (Str.mk ((List.replicate ((n : Int)).toNat z.cps).foldl (· ++ ·) #[])).length = z.length * n := by
          show ((List.replicate ((n : Int)).toNat z.cps).foldl (· ++ ·) #[]).size = z.length * n
          rw [← Array.length_toList, fold_app, show ((n : Int)).toNat = n from by omega]
          simp [Str.length, Nat.mul_comm]
        first
          | (rw [e]; exact hz)
          | (unfold PySem.Builtin.Str.tooLong; rw [e]; exact decide_eq_false (by omega))
      · show ((List.replicate ((n : Int)).toNat z.cps).foldl (· ++ ·) #[]).toList = _
        rw [fold_app, show ((n : Int)).toNat = n from by omega]
        simp
/-! ### isinstance of data -/
def tyN : PyData → String
  | .none => "NoneType"
  | .bool _ => "bool"
  | .int _ => "int"
  | .str _ => "str"
  | .list _ => "list"
  | .tuple _ => "tuple"
  | .dict _ => "dict"
theorem kit_dt {pins : List (Addr × Obj)} {σ : L2.St} {H : Hp} {s : Shared} {v : V} {d : PyData} {u : Value} (I : Inv X pins σ H s) (rv : RelV v u) (hd : Dt X.K H v d) :
    ∃ P : Heap → Prop, PySem.W.KitX X.K u (.type (tyN d)) P ∧ P s.heap ∧ u ≠ .builtin "__main__.__loader__#opaque" := by
  cases hd with
  | non => cases rv; exact ⟨_, PySem.W.kitx_none, True.intro, fun z => nomatch z⟩
  | bl y => cases rv; exact ⟨_, PySem.W.kitx_bool, True.intro, fun z => nomatch z⟩
  | int i => obtain ⟨t, rfl⟩ := rv; exact ⟨_, PySem.W.kitx_int, True.intro, fun z => nomatch z⟩
  | str y => obtain ⟨t, rfl⟩ := rv; exact ⟨_, PySem.W.kitx_str, True.intro, fun z => nomatch z⟩
  | lst h1 _ =>
    cases rv
    obtain ⟨its, _, ⟨o, n, ho, hc, _, hd⟩, _⟩ := I.list h1
    exact ⟨_, PySem.W.kitx_list, ⟨o, ho, hc⟩, fun z => nomatch z⟩
  | tup h1 _ =>
    cases rv
    obtain ⟨its, _, ⟨o, ho, hc, n, hd⟩, _⟩ := I.tuple h1
    exact ⟨_, PySem.W.kitx_tuple, ⟨o, ho, hc⟩, fun z => nomatch z⟩
  | dic h1 _ =>
    cases rv
    obtain ⟨_, _, vs, _, o, es, ep, e1, e2, _⟩ := I.hok _ _ h1
    exact ⟨_, PySem.W.kitx_dict, ⟨o, e1, e2.1⟩, fun z => nomatch z⟩
def rIsD (K : PySem.W.Frag) : List V → Hp → VK → Prop := fun xs H Q => ∃ v T d b, xs = [v, .ty T] ∧ Dt K H v d ∧ kitB (tyN d) T = some b ∧ Q (.bl b) H
theorem call_isD : CallR X (.builtin "isinstance") (rIsD X.K) := by
  intro pins s σ H xs us Q I r h
  obtain ⟨v, T, d, b, rfl, hd, e, q⟩ := h
  obtain ⟨u1, u2, rfl, r1, r2⟩ := vals2 r
  cases (show u2 = Value.type T from r2)
  obtain ⟨P, Z, p, hx⟩ := kit_dt I r1 hd
  exact PySem.W.kia_one Z I.kIn p (kit_ty e) hx fun tk => ⟨.bl b, H, I.tok tk, rfl, q⟩
end
end Gd

namespace Gd
open PySem PySem.Spec PyProof.Rows L2
/-! ### readings, one step each -/
section
variable {K : PySem.W.Frag} {σ : L2.St} {H : Hp} {Q : VK} {v x y : V} {i j : Nat} {n m : Int} {ta tb tc : TE} {tA tB' : TT} {t u : TA} {D : Ends} {s1 s2 : TS} {b c : Bool} {z : Str}
theorem i_var (h : σ[i]? = some (some v)) (k : Q v H) : tVar i σ H Q := ⟨v, h, k⟩
theorem i_c (k : Q v H) : tC v σ H Q := k
theorem i_op {r : R2} (k : ta σ H fun x H1 => tb σ H1 fun y H2 => r x y H2 Q) : tOp r ta tb σ H Q := k
theorem i_un {r : V → Hp → VK → Prop} (k : ta σ H fun x H1 => r x H1 Q) : tUn r ta σ H Q := k
theorem i_I0 {g : Int → Int → V} (k : Q (g n m) H) : rI0 g (.int n) (.int m) H Q := ⟨n, m, rfl, rfl, k⟩
theorem i_I {C : Int → Int → Prop} {g : Int → Int → V} (c : C n m) (k : Q (g n m) H) : rI C g (.int n) (.int m) H Q := ⟨n, m, rfl, rfl, c, k⟩
theorem i_U {g : Int → V} (k : Q (g n) H) : rU g (.int n) H Q := ⟨n, rfl, k⟩
theorem i_eq (h : scal x y = true) (k : Q (.bl (decide (x = y))) H) : rEq x y H Q := ⟨h, k⟩
theorem i_ne (h : scal x y = true) (k : Q (.bl (!decide (x = y))) H) : rNe x y H Q := ⟨h, k⟩
theorem i_eqI (k : Q (.bl (decide (n = m))) H) : rEq (.int n) (.int m) H Q := ⟨rfl, by
  have e : decide (V.int n = V.int m) = decide (n = m) := by simp only [V.int.injEq]
  rw [e]; exact k⟩
theorem i_neI (k : Q (.bl (!decide (n = m))) H) : rNe (.int n) (.int m) H Q := ⟨rfl, by
  have e : decide (V.int n = V.int m) = decide (n = m) := by simp only [V.int.injEq]
  rw [e]; exact k⟩
theorem i_eqS {z w : Str} (k : Q (.bl (decide (z = w))) H) : rEq (.str z) (.str w) H Q := ⟨rfl, by
  have e : decide (V.str z = V.str w) = decide (z = w) := by simp only [V.str.injEq]
  rw [e]; exact k⟩
theorem i_neS {z w : Str} (k : Q (.bl (!decide (z = w))) H) : rNe (.str z) (.str w) H Q := ⟨rfl, by
  have e : decide (V.str z = V.str w) = decide (z = w) := by simp only [V.str.injEq]
  rw [e]; exact k⟩
theorem i_eqB {z w : Bool} (k : Q (.bl (decide (z = w))) H) : rEq (.bl z) (.bl w) H Q := ⟨rfl, by
  have e : decide (V.bl z = V.bl w) = decide (z = w) := by simp only [V.bl.injEq]
  rw [e]; exact k⟩
theorem i_nil {Q : List V → Hp → Prop} (k : Q [] H) : tNil σ H Q := k
theorem i_cons {Q : List V → Hp → Prop} (k : ta σ H fun x H1 => t σ H1 fun xs H2 => Q (x :: xs) H2) : tCons ta t σ H Q := k
theorem i_tup (k : t σ H fun xs H1 => xs.length ≤ sizeLine ∧ ∀ p, H1 p = none → Q (.ref p) (upd H1 p (.tup xs))) : tTup t σ H Q := k
theorem i_lst (k : t σ H fun xs H1 => xs.length ≤ sizeLine ∧ ∀ p, H1 p = none → Q (.ref p) (upd H1 p (.lst xs))) : tLst t σ H Q := k
theorem i_cb {r : List V → Hp → VK → Prop} (k : t σ H fun vs H1 => r vs H1 Q) : tCB r t σ H Q := k
theorem i_call {sp : Sp} {dvs : List V} {E : XK} (k : t σ H fun vs H1 => sp (vs ++ dvs) H1 Q E) : tCall sp dvs E t σ H Q := k
theorem i_sl {r : V → Option Int → Option Int → Hp → VK → Prop} {tl th : TO} (k : ta σ H fun x H1 => tl σ H1 fun l H2 => th σ H2 fun u H3 => r x l u H3 Q) : tSl r ta tl th σ H Q := k
theorem i_nopart {Q : Option Int → Hp → Prop} (k : Q none H) : tNoPart σ H Q := k
theorem i_part {Q : Option Int → Hp → Prop} (k : ta σ H fun x H1 => ∃ i, x = .int i ∧ Q (some i) H1) : tPart ta σ H Q := k
theorem i_exI {R : Int → Prop} (k : R n) : ∃ i, V.int n = .int i ∧ R i := ⟨n, rfl, k⟩
theorem i_exB {R : Bool → Prop} (k : R b) : ∃ i, V.bl b = .bl i ∧ R i := ⟨b, rfl, k⟩
theorem i_exS {R : Str → Prop} (k : R z) : ∃ i, V.str z = .str i ∧ R i := ⟨z, rfl, k⟩
theorem i_test {Q : Bool → Hp → Prop} (k : ta σ H fun x H' => ∃ k, x = .bl k ∧ Q k H') : tTest ta σ H Q := k
theorem i_B {Q : Bool → Hp → Prop} (k : ta σ H fun x H' => ∃ k, x = .bl k ∧ Q k H') : L2.tB ta σ H Q := k
theorem i_and {Q : Bool → Hp → Prop} (k : tA σ H fun c H1 => if c = true then tB' σ H1 Q else Q false H1) : tAnd tA tB' σ H Q := k
theorem i_or {Q : Bool → Hp → Prop} (k : tA σ H fun c H1 => if c = true then Q true H1 else tB' σ H1 Q) : tOr tA tB' σ H Q := k
theorem i_not {Q : Bool → Hp → Prop} (k : tA σ H fun c H1 => Q (!c) H1) : tNot tA σ H Q := k
theorem i_andV (k : ta σ H fun x H1 => ∃ c, x = .bl c ∧ if c = true then tb σ H1 Q else Q (.bl false) H1) : tAndV ta tb σ H Q := k
theorem i_orV (k : ta σ H fun x H1 => ∃ c, x = .bl c ∧ if c = true then Q (.bl true) H1 else tb σ H1 Q) : tOrV ta tb σ H Q := k
theorem i_notV (k : ta σ H fun x H1 => ∃ c, x = .bl c ∧ Q (.bl (!c)) H1) : tNotV ta σ H Q := k
theorem i_if (k : tA σ H fun c H1 => if c = true then ta σ H1 Q else tb σ H1 Q) : tIf tA ta tb σ H Q := k
theorem i_chain {r r' : R2} (k : ta σ H fun x H1 => tb σ H1 fun y H2 => r x y H2 fun z H3 => ∃ k, z = .bl k ∧ (if k = true then tc σ H3 fun w H4 => r' y w H4 Q else Q (.bl false) H3)) : tChain r r' ta tb tc σ H Q := k
theorem i_seq (k : s1 { D with nx := s2 D } σ H) : tSeq s1 s2 D σ H := k
theorem i_next (k : D.nx σ H) : tNext D σ H := k
theorem i_brk (k : D.bk σ H) : tBreak D σ H := k
theorem i_cont (k : D.ct σ H) : tCont D σ H := k
theorem i_drop (k : ta σ H fun _ H1 => D.nx σ H1) : tDrop ta D σ H := k
theorem i_ret (k : ta σ H D.rt) : tRet ta D σ H := k
theorem i_retN (k : D.rt .non H) : tRetN D σ H := k
theorem i_ifS (k : tA σ H fun b H1 => if b = true then s1 D σ H1 else s2 D σ H1) : tIfS tA s1 s2 D σ H := k
theorem i_asg {g : TG} (k : ta σ H fun x H1 => g x σ H1 D.nx) : tAsg ta g D σ H := k
theorem i_name {Q : L2.St → Hp → Prop} (k : Q (σ.set i (some v)) H) : gName i v σ H Q := k
theorem i_par (k : t σ H fun vs H1 => ∃ v w, vs = [v, w] ∧ D.nx ((σ.set i (some v)).set j (some w)) H1) : tPar i j t D σ H := k
theorem i_ex2 {R : V → V → Prop} (k : R x y) : ∃ v w, [x, y] = [v, w] ∧ R v w := ⟨x, y, rfl, k⟩
theorem i_aug {ti : TIp} (h : σ[i]? = some (some x)) (k : ta σ H fun y H1 => ti x y H1 fun z H2 => D.nx (σ.set i (some z)) H2) : tAug i ta ti D σ H := ⟨x, h, k⟩
theorem i_ipI {f : Int → Int → Int} (k : Q (.int (f n m)) H) : ipI f (.int n) (.int m) H Q := ⟨n, m, rfl, rfl, k⟩
theorem i_augS {tget : V → V → Hp → VK → Prop} {tip : TIp} {tset : TSet} (k : ta σ H fun o H1 => tb σ H1 fun i H2 => tget o i H2 fun x H3 => tc σ H3 fun y H4 => tip x y H4 fun z H5 => tset o i z H5 fun H6 => D.nx σ H6) :
    tAugS ta tb tc tget tip tset D σ H := k
theorem i_sub {ts : TSet} {Q : L2.St → Hp → Prop} (k : ta σ H fun o H1 => tb σ H1 fun i H2 => ts o i v H2 fun H3 => Q σ H3) : gSub ta tb ts v σ H Q := k
theorem i_tg {n : Nat} {t : TGs} {a : Addr} {xs : List V} {Q : L2.St → Hp → Prop} (h : SqT K H a xs) (l : xs.length = n) (k : t xs σ H Q) : gTup K n t (.ref a) σ H Q := ⟨a, xs, rfl, h, l, k⟩
theorem i_tgc {t : TG} {u : TGs} {xs : List V} {Q : L2.St → Hp → Prop} (k : t v σ H fun σ' H' => u xs σ' H' Q) : gCons t u (v :: xs) σ H Q := ⟨v, xs, rfl, k⟩
theorem i_tgn {Q : L2.St → Hp → Prop} (k : Q σ H) : gNil [] σ H Q := ⟨rfl, k⟩
/-! operations on lists, tuples, texts -/
theorem i_getL {p : Addr} {xs : List V} (h0 : 0 ≤ n) (h : SqL K H p xs) (e : xs[n.toNat]? = some v) (k : Q v H) : rGetL K (.ref p) (.int n) H Q := ⟨p, xs, n, v, rfl, rfl, h0, h, e, k⟩
theorem i_ixL {p : Addr} {xs : List V} (h : SqL K H p xs) (e : atI xs n = some v) (k : Q v H) : rIxL K (.ref p) (.int n) H Q := ⟨p, xs, n, v, rfl, rfl, h, e, k⟩
theorem i_ixT {p : Addr} {xs : List V} (h : SqT K H p xs) (e : atI xs n = some v) (k : Q v H) : rIxT K (.ref p) (.int n) H Q := ⟨p, xs, n, v, rfl, rfl, h, e, k⟩
theorem i_ixS {c : Nat} (h : z.length ≤ sizeLine) (e : atI z.cps.toList n = some c) (k : Q (.str ⟨#[c]⟩) H) : rIxS (.str z) (.int n) H Q := ⟨z, n, c, rfl, rfl, h, e, k⟩
theorem i_setL {p : Addr} {xs : List V} {Q : Hp → Prop} (h : H p = some (.lst xs)) (e : ixN xs.length n = some j) (k : Q (upd H p (.lst (xs.set j v)))) : rSetL (.ref p) (.int n) v H Q := ⟨p, xs, n, j, rfl, rfl, h, e, k⟩
theorem i_slL {a : Addr} {xs : List V} {lo hi : Option Int} (h : SqL K H a xs) (k : ∀ p, H p = none → Q (.ref p) (upd H p (.lst (cutV xs lo hi)))) : rSlL K (.ref a) lo hi H Q := ⟨a, xs, rfl, h, k⟩
theorem i_slS {lo hi : Option Int} (h : z.length ≤ sizeLine) (k : Q (.str (cutS z lo hi)) H) : rSlS (.str z) lo hi H Q := ⟨z, rfl, h, k⟩
theorem i_cat {l q : Addr} {xs zs : List V} (h : H l = some (.lst xs)) (h2 : H q = some (.lst zs)) (hl : xs.length + zs.length ≤ sizeLine) (k : ∀ p, H p = none → Q (.ref p) (upd H p (.lst (xs ++ zs)))) : rCat (.ref l) (.ref q) H Q :=
  ⟨l, q, xs, zs, rfl, rfl, h, h2, hl, k⟩
theorem i_app {l : Addr} {xs : List V} (h : H l = some (.lst xs)) (hl : xs.length < sizeLine) (k : Q .non (upd H l (.lst (xs ++ [y])))) : rAppend (.ref l) [y] H Q := ⟨l, xs, y, rfl, rfl, h, hl, k⟩
theorem i_bm {T : String} {r : V → List V → Hp → VK → Prop} (k : ta σ H fun x H1 => tyV K T x H1 ∧ t σ H1 fun xs H2 => r x xs H2 Q) : tBM K T r ta t σ H Q := k
theorem i_bm0 {T : String} {r : V → List V → Hp → VK → Prop} (k : ta σ H fun x H1 => tyV K T x H1 ∧ r x [] H1 Q) : tBM0 K T r ta σ H Q := k
theorem i_tyl {p : Addr} {xs : List V} (h : SqL K H p xs) : tyV K "list" (.ref p) H := .inl ⟨rfl, _, h⟩
theorem i_repr {d : PyData} (h : Dt K H v d) (w : Showy d) (k : Q (.str d.shown) H) : rRepr K [v] H Q := ⟨v, d, rfl, h, w, k⟩
theorem i_isD {d : PyData} {T : String} (h : Dt K H v d) (e : kitB (tyN d) T = some b) (k : Q (.bl b) H) : rIsD K [v, .ty T] H Q := ⟨v, T, d, b, rfl, h, e, k⟩
theorem i_eqDt {d e : PyData} (h1 : Dt K H x d) (h2 : Dt K H y e) (s1 : SeqAt.shaped d = true) (s2 : SeqAt.shaped e = true) (k : Q (.bl (PyData.eqv d e)) H) : rEqDt K x y H Q := ⟨d, e, h1, h2, s1, s2, k⟩
theorem i_neDt {d e : PyData} (h1 : Dt K H x d) (h2 : Dt K H y e) (s1 : SeqAt.shaped d = true) (s2 : SeqAt.shaped e = true) (k : Q (.bl (!PyData.eqv d e)) H) : rNeDt K x y H Q := ⟨d, e, h1, h2, s1, s2, k⟩
end
/-! module constants; isinstance of data -/
section
variable {X : Cx} {x : Str} {pos : Pos}
theorem pe_gI {n : Int} (hg : Gl X x) (hm : ∃ t, X.mg x = some (.int n t)) (hd : (x == ("__debug__" : Str)) = false := by decide) : PE X (.Name x pos) (tC (.int n)) := by
  obtain ⟨t, e⟩ := hm
  exact pe_glob hg e ⟨t, rfl⟩ hd
theorem pe_gS {z : Str} (hg : Gl X x) (hm : ∃ t, X.mg x = some (.str z t)) (hd : (x == ("__debug__" : Str)) = false := by decide) : PE X (.Name x pos) (tC (.str z)) := by
  obtain ⟨t, e⟩ := hm
  exact pe_glob hg e ⟨t, rfl⟩ hd
theorem pe_gR {a : Addr} (hg : Gl X x) (hm : X.mg x = some (.ref a)) (hd : (x == ("__debug__" : Str)) = false := by decide) : PE X (.Name x pos) (tC (.ref a)) := pe_glob hg hm rfl hd
end
theorem kit_int : ∀ d : PyData, kitB (tyN d) "int" = some (match d with | .int _ => true | .bool _ => true | _ => false)
  | .none => (by decide +kernel : kitB "NoneType" "int" = some false)
  | .bool _ => (by decide +kernel : kitB "bool" "int" = some true)
  | .int _ => (by decide +kernel : kitB "int" "int" = some true)
  | .str _ => (by decide +kernel : kitB "str" "int" = some false)
  | .list _ => (by decide +kernel : kitB "list" "int" = some false)
  | .tuple _ => (by decide +kernel : kitB "tuple" "int" = some false)
  | .dict _ => (by decide +kernel : kitB "dict" "int" = some false)
theorem kit_bool : ∀ d : PyData, kitB (tyN d) "bool" = some (match d with | .bool _ => true | _ => false)
  | .none => (by decide +kernel : kitB "NoneType" "bool" = some false)
  | .bool _ => (by decide +kernel : kitB "bool" "bool" = some true)
  | .int _ => (by decide +kernel : kitB "int" "bool" = some false)
  | .str _ => (by decide +kernel : kitB "str" "bool" = some false)
  | .list _ => (by decide +kernel : kitB "list" "bool" = some false)
  | .tuple _ => (by decide +kernel : kitB "tuple" "bool" = some false)
  | .dict _ => (by decide +kernel : kitB "dict" "bool" = some false)
theorem kit_str : ∀ d : PyData, kitB (tyN d) "str" = some (match d with | .str _ => true | _ => false)
  | .none => (by decide +kernel : kitB "NoneType" "str" = some false)
  | .bool _ => (by decide +kernel : kitB "bool" "str" = some false)
  | .int _ => (by decide +kernel : kitB "int" "str" = some false)
  | .str _ => (by decide +kernel : kitB "str" "str" = some true)
  | .list _ => (by decide +kernel : kitB "list" "str" = some false)
  | .tuple _ => (by decide +kernel : kitB "tuple" "str" = some false)
  | .dict _ => (by decide +kernel : kitB "dict" "str" = some false)
theorem kit_list : ∀ d : PyData, kitB (tyN d) "list" = some (match d with | .list _ => true | _ => false)
  | .none => (by decide +kernel : kitB "NoneType" "list" = some false)
  | .bool _ => (by decide +kernel : kitB "bool" "list" = some false)
  | .int _ => (by decide +kernel : kitB "int" "list" = some false)
  | .str _ => (by decide +kernel : kitB "str" "list" = some false)
  | .list _ => (by decide +kernel : kitB "list" "list" = some true)
  | .tuple _ => (by decide +kernel : kitB "tuple" "list" = some false)
  | .dict _ => (by decide +kernel : kitB "dict" "list" = some false)
theorem kit_tuple : ∀ d : PyData, kitB (tyN d) "tuple" = some (match d with | .tuple _ => true | _ => false)
  | .none => (by decide +kernel : kitB "NoneType" "tuple" = some false)
  | .bool _ => (by decide +kernel : kitB "bool" "tuple" = some false)
  | .int _ => (by decide +kernel : kitB "int" "tuple" = some false)
  | .str _ => (by decide +kernel : kitB "str" "tuple" = some false)
  | .list _ => (by decide +kernel : kitB "list" "tuple" = some false)
  | .tuple _ => (by decide +kernel : kitB "tuple" "tuple" = some true)
  | .dict _ => (by decide +kernel : kitB "dict" "tuple" = some false)
theorem kit_dict : ∀ d : PyData, kitB (tyN d) "dict" = some (match d with | .dict _ => true | _ => false)
  | .none => (by decide +kernel : kitB "NoneType" "dict" = some false)
  | .bool _ => (by decide +kernel : kitB "bool" "dict" = some false)
  | .int _ => (by decide +kernel : kitB "int" "dict" = some false)
  | .str _ => (by decide +kernel : kitB "str" "dict" = some false)
  | .list _ => (by decide +kernel : kitB "list" "dict" = some false)
  | .tuple _ => (by decide +kernel : kitB "tuple" "dict" = some false)
  | .dict _ => (by decide +kernel : kitB "dict" "dict" = some true)
/-! built-ins by named readings -/
section
variable {X : Cx}
def rLenL (K : PySem.W.Frag) : List V → Hp → VK → Prop := fun xs H Q => ∃ p ys, xs = [.ref p] ∧ (SqL K H p ys ∨ SqT K H p ys) ∧ Q (.int ys.length) H
theorem call_lenL : CallR X (.builtin "len") (rLenL X.K) := call_len_seq
def rLenS : List V → Hp → VK → Prop := fun xs H Q => ∃ z, xs = [.str z] ∧ z.length ≤ sizeLine ∧ Q (.int z.length) H
theorem call_lenS : CallR X (.builtin "len") rLenS := call_len_str
def rAbs : List V → Hp → VK → Prop := fun xs H Q => ∃ i, xs = [.int i] ∧ Q (.int (if i < 0 then -i else i)) H
theorem call_absI : CallR X (.builtin "abs") rAbs := call_abs
def rMax2 : List V → Hp → VK → Prop := fun xs H Q => ∃ i j, xs = [.int i, .int j] ∧ Q (.int (if j > i then j else i)) H
theorem call_mx (hc : X.calm = true) : CallR X (.builtin "max") rMax2 := call_max2 hc
def rMin2 : List V → Hp → VK → Prop := fun xs H Q => ∃ i j, xs = [.int i, .int j] ∧ Q (.int (if j < i then j else i)) H
theorem call_mn (hc : X.calm = true) : CallR X (.builtin "min") rMin2 := call_min2 hc
def rInt1 : List V → Hp → VK → Prop := fun xs H Q => (∃ i, xs = [.int i] ∧ Q (.int i) H) ∨ ∃ k, xs = [.bl k] ∧ Q (.int (if k then 1 else 0)) H
theorem call_intI : CallR X (.type "int") rInt1 := call_int1
def rStrI : List V → Hp → VK → Prop := fun xs H Q => ∃ i, xs = [.int i] ∧ i.natAbs.log2 < 1920 ∧ Q (.str (toString i)) H
theorem call_strI : CallR X (.type "str") rStrI := call_str_int
def rListOf (K : PySem.W.Frag) : List V → Hp → VK → Prop := fun xs H Q => ∃ p ys, xs = [.ref p] ∧ (SqL K H p ys ∨ SqT K H p ys) ∧ ∀ l, H l = none → Q (.ref l) (upd H l (.lst ys))
theorem call_listO : CallR X (.type "list") (rListOf X.K) := call_list_of
end
section
variable {K : PySem.W.Frag} {σ : L2.St} {H : Hp} {Q : VK} {p : Addr} {xs : List V} {n m : Int} {z : Str} {b : Bool} {ta tb : TE} {D : Ends} {s1 s2 : TS} {y v : V}
theorem i_lenL (h : SqL K H p xs) (k : Q (.int xs.length) H) : rLenL K [.ref p] H Q := ⟨p, xs, rfl, .inl h, k⟩
theorem i_lenT (h : SqT K H p xs) (k : Q (.int xs.length) H) : rLenL K [.ref p] H Q := ⟨p, xs, rfl, .inr h, k⟩
theorem i_lenS (h : z.length ≤ sizeLine) (k : Q (.int z.length) H) : rLenS [.str z] H Q := ⟨z, rfl, h, k⟩
theorem i_abs (k : Q (.int (if n < 0 then -n else n)) H) : rAbs [.int n] H Q := ⟨n, rfl, k⟩
theorem i_mx (k : Q (.int (if m > n then m else n)) H) : rMax2 [.int n, .int m] H Q := ⟨n, m, rfl, k⟩
theorem i_mn (k : Q (.int (if m < n then m else n)) H) : rMin2 [.int n, .int m] H Q := ⟨n, m, rfl, k⟩
theorem i_intB (k : Q (.int (if b then 1 else 0)) H) : rInt1 [.bl b] H Q := .inr ⟨b, rfl, k⟩
theorem i_intI (k : Q (.int n) H) : rInt1 [.int n] H Q := .inl ⟨n, rfl, k⟩
theorem i_strI (h : n.natAbs.log2 < 1920) (k : Q (.str (toString n)) H) : rStrI [.int n] H Q := ⟨n, rfl, h, k⟩
theorem i_listO (h : SqL K H p xs) (k : ∀ l, H l = none → Q (.ref l) (upd H l (.lst xs))) : rListOf K [.ref p] H Q := ⟨p, xs, rfl, .inl h, k⟩
theorem i_listT (h : SqT K H p xs) (k : ∀ l, H l = none → Q (.ref l) (upd H l (.lst xs))) : rListOf K [.ref p] H Q := ⟨p, xs, rfl, .inr h, k⟩
theorem i_cut (Mid : L2.St → Hp → Prop) (h1 : s1 { D with nx := Mid } σ H) (h2 : ∀ σ' H', Mid σ' H' → s2 D σ' H') : C8.tCut s1 s2 D σ H := ⟨Mid, h1, h2⟩
theorem i_m1 {r : V → List V → Hp → VK → Prop} (k : ta σ H fun x H1 => (∃ a, x = .str a) ∧ tb σ H1 fun y H2 => r x [y] H2 Q) : tM1 r ta tb σ H Q := k
theorem i_m0 {r : V → List V → Hp → VK → Prop} (k : ta σ H fun x H1 => (∃ a, x = .str a) ∧ r x [] H1 Q) : tM0 r ta σ H Q := k
theorem i_isS {A : Prop} (k : A) : (∃ a, V.str z = .str a) ∧ A := ⟨⟨z, rfl⟩, k⟩
end
/-! ### ways -/
theorem w2 {A B : Prop} {p : Prop} [Decidable p] (h1 : p → A) (h2 : ¬ p → B) : if decide p = true then A else B := by
  by_cases h : p
  · rw [decide_eq_true h, if_pos rfl]; exact h1 h
  · rw [decide_eq_false h, if_neg Bool.false_ne_true]; exact h2 h
theorem w2n {A B : Prop} {p : Prop} [Decidable p] (h1 : ¬ p → A) (h2 : p → B) : if (!decide p) = true then A else B := by
  by_cases h : p
  · rw [decide_eq_true h]; exact h2 h
  · rw [decide_eq_false h]; exact h1 h
theorem wb {A B : Prop} {b : Bool} (h1 : b = true → A) (h2 : b = false → B) : if b = true then A else B := by
  cases b with
  | true => exact h1 rfl
  | false => exact h2 rfl
/-! ### heaps -/
theorem same_upd {H H' : Hp} {p : Addr} {o : HO} (e : Same H H') (h : H' p = none) : Same H (upd H' p o) := fun b x q => by
  have := e b x q
  rw [upd_ne (ne_of_none this h)]
  exact this
/-- an object that H does not know has changed -/
theorem same_mut {H H' : Hp} {p : Addr} {o : HO} (e : Same H H') (h : H p = none) : Same H (upd H' p o) := fun b x q => by
  rw [upd_ne (ne_of_none q h)]
  exact e b x q
/-- all but b is kept -/
def But (b : Addr) (H H' : Hp) : Prop := ∀ c o, c ≠ b → H c = some o → H' c = some o
theorem But.refl {b : Addr} {H : Hp} : But b H H := fun _ _ _ h => h
theorem But.trans {b : Addr} {H H1 H2 : Hp} (a : But b H H1) (c : But b H1 H2) : But b H H2 := fun x o n h => c x o n (a x o n h)
theorem But.of {b : Addr} {H H1 : Hp} (a : Same H H1) : But b H H1 := fun x o _ h => a x o h
theorem But.upd {b p : Addr} {H H' : Hp} {o : HO} (a : But b H H') (h : H' p = none) : But b H (upd H' p o) := fun c x n q => by
  have := a c x n q
  rw [upd_ne (ne_of_none this h)]
  exact this
theorem But.self {b : Addr} {H H' : Hp} {o : HO} (a : But b H H') : But b H (L2.upd H' b o) := fun c x n q => by
  rw [upd_ne n]
  exact a c x n q
theorem But.mut {b p : Addr} {H H' : Hp} {o : HO} (a : But b H H') (h : H p = none) : But b H (L2.upd H' p o) := fun c x n q => by
  rw [upd_ne (ne_of_none q h)]
  exact a c x n q
theorem SqL.lst {K : PySem.W.Frag} {H : Hp} {a : Addr} {xs : List V} (h : H a = some (.lst xs)) : SqL K H a xs := .inl (.inl h)
theorem SqT.tup {K : PySem.W.Frag} {H : Hp} {a : Addr} {xs : List V} (h : H a = some (.tup xs)) : SqT K H a xs := .inl (.inl h)
end Gd

namespace Gd
open PySem PySem.Spec PyProof.Rows L2
/-! ### loops and comprehensions -/
def LcW (J : It) (g : TG) (tt : TT) (te : TE) (vs : List Nat) (σ : L2.St) (H1 : Hp) (D : Addr) (Qd : Hp → Prop) : Prop :=
  ∃ W : Nat → Nat → Hp → Prop, (∃ m, W 0 m (upd H1 D (.lst []))) ∧ ∀ i m H, W i m H →
    (J.stop i H ∧ Qd H) ∨ (J.go i H ∧ ∃ Nx : Hp → Prop, (∀ H', Nx H' → ∃ m', m' < m ∧ W (i + 1) m' H') ∧ ∀ x H', J.yld i H x H' → g x (wipe σ vs) H' fun σ2 H2 => wipe σ2 vs = wipe σ vs ∧ tt σ2 H2 fun b H3 =>
      if b = true then te σ2 H3 fun y H4 => ∃ acc, H4 D = some (.lst acc) ∧ acc.length < sizeLine ∧ Nx (upd H4 D (.lst (acc ++ [y]))) else Nx H3)
def ForW (J : It) (g : TG) (tb : TS) (D : Ends) (σ : L2.St) (H : Hp) : Prop :=
  ∃ W : Nat → Nat → L2.St → Hp → Prop, (∃ m, W 0 m σ H) ∧ ∀ i m σ H, W i m σ H →
    (J.stop i H ∧ D.nx σ H) ∨ (J.go i H ∧ ∃ N : L2.St → Hp → Prop, (∀ σ' H', N σ' H' → ∃ m', m' < m ∧ W (i + 1) m' σ' H') ∧ ∀ x H', J.yld i H x H' → g x σ H' fun σ2 H2 => tb { D with nx := N, ct := N, bk := D.nx } σ2 H2)
section
variable {K : PySem.W.Frag} {σ : L2.St} {H H1 : Hp} {Q : VK} {ta : TE} {t : TA} {wi : TI} {g : TG} {tt : TT} {te : TE} {vs : List Nat} {tb : TS} {D : Ends} {R : It → Hp → Prop} {a Da : Addr} {xs : List V} {z : Str} {Qd : Hp → Prop} {ix : Nat}
theorem i_yes {Q : Bool → Hp → Prop} (k : Q true H) : tYes σ H Q := k
theorem i_lc (k : wi σ H fun J H1 => ∀ Da, H1 Da = none → LcW J g tt te vs σ H1 Da (fun H' => Q (.ref Da) H')) : tLc wi g tt te vs σ H Q := k
theorem i_for (k : wi σ H fun J H1 => ForW J g tb D σ H1) : tFor wi g tb D σ H := k
theorem i_iL (k : ta σ H fun x H1 => ∃ a, x = .ref a ∧ (∃ xs, SqL K H1 a xs) ∧ R (Itl K a) H1) : iList K ta σ H R := k
theorem i_iT (k : ta σ H fun x H1 => ∃ a, x = .ref a ∧ (∃ xs, SqT K H1 a xs) ∧ R (Itt K a) H1) : iTup K ta σ H R := k
theorem i_iS (k : ta σ H fun v H1 => ∃ x, v = .str x ∧ R (Its x) H1) : iStr ta σ H R := k
theorem i_iR1 (k : t σ H fun vs H1 => ∃ j : Int, vs = [.int j] ∧ -(2 ^ 62) ≤ j ∧ j < 2 ^ 62 ∧ R (Itr 0 j.toNat) H1) : iRng1 t σ H R := k
theorem i_iR2 (k : t σ H fun vs H1 => ∃ i j : Int, vs = [.int i, .int j] ∧ (-(2 ^ 62) ≤ i ∧ i < 2 ^ 62 ∧ -(2 ^ 62) ≤ j ∧ j < 2 ^ 62) ∧ R (Itr i (j - i).toNat) H1) : iRng2 t σ H R := k
theorem i_exRL {R : Addr → Prop} (h : SqL K H a xs) (k : R a) : ∃ b, V.ref a = .ref b ∧ (∃ xs, SqL K H b xs) ∧ R b := ⟨a, rfl, ⟨xs, h⟩, k⟩
theorem i_exRT {R : Addr → Prop} (h : SqT K H a xs) (k : R a) : ∃ b, V.ref a = .ref b ∧ (∃ xs, SqT K H b xs) ∧ R b := ⟨a, rfl, ⟨xs, h⟩, k⟩
theorem i_exR1 {R : Nat → Prop} {n : Nat} (h : (n : Int) < 2 ^ 62) (k : R n) : ∃ j : Int, [V.int (n : Int)] = [.int j] ∧ -(2 ^ 62) ≤ j ∧ j < 2 ^ 62 ∧ R j.toNat := ⟨n, rfl, by omega, h, by rw [Int.toNat_natCast]; exact k⟩
theorem go_for {J : It} {n : Nat} {G : Hp → Prop} {Y : Nat → Hp → V → Hp → Prop} (w : Walk J n G Y) (Pv : Nat → L2.St → Hp → Prop) (h0 : Pv 0 σ H) (hG : ∀ i σ H, i ≤ n → Pv i σ H → G H)
    (hs : ∀ i x σ H H', i < n → Pv i σ H → Y i H x H' → g x σ H' fun σ2 H2 => tb { D with nx := Pv (i + 1), ct := Pv (i + 1), bk := D.nx } σ2 H2) (hd : ∀ σ H, Pv n σ H → D.nx σ H) : ForW J g tb D σ H := for_it w Pv h0 hG hs hd
theorem go_lc {J : It} {n : Nat} {G : Hp → Prop} {Y : Nat → Hp → V → Hp → Prop} (w : Walk J n G Y) (Pv : Nat → Hp → Prop) (h0 : Pv 0 (upd H1 Da (.lst []))) (hG : ∀ i H, i ≤ n → Pv i H → G H)
    (hs : ∀ i x H H', i < n → Pv i H → Y i H x H' → g x (wipe σ vs) H' fun σ2 H2 => wipe σ2 vs = wipe σ vs ∧ tt σ2 H2 fun b H3 =>
      if b = true then te σ2 H3 fun y H4 => ∃ acc, H4 Da = some (.lst acc) ∧ acc.length < sizeLine ∧ Pv (i + 1) (upd H4 Da (.lst (acc ++ [y]))) else Pv (i + 1) H3) (hd : ∀ H, Pv n H → Qd H) : LcW J g tt te vs σ H1 Da Qd := lc_it w Pv h0 hG hs hd
/-- over n things, each turn i giving x i, without a change: [f i for each i] -/
theorem lc_map {J : It} {n : Nat} {G : Hp → Prop} {x : Nat → V} (w : Walk J n G (fun i H y H' => H' = H ∧ y = x i)) (f : Nat → V) (hn : n < sizeLine) (nD : H1 Da = none) (hG : ∀ H', Same H1 H' → G H')
    (he : ∀ i H', i < n → Same H1 H' → ∀ R : VK, (∀ H'', Same H' H'' → R (f i) H'') → te ((wipe σ vs).set ix (some (x i))) H' R)
    (hd : ∀ H', Same H1 H' → H' Da = some (.lst ((List.range n).map f)) → Qd H')
    (hw : ∀ y, wipe ((wipe σ vs).set ix (some y)) vs = wipe σ vs := by intro y; rfl) : LcW J (gName ix) tYes te vs σ H1 Da Qd := by
  refine go_lc w (fun i H' => Same H1 H' ∧ H' Da = some (.lst ((List.range i).map f))) ⟨same_upd (Same.refl _) nD, upd_same⟩ (fun i H' _ h => hG H' h.1) ?_ (fun H' h => hd H' h.1 h.2)
  rintro i y H' _ hi ⟨h1, h2⟩ ⟨rfl, rfl⟩
  refine ⟨hw _, ?_⟩
  refine i_yes (iteT ?_)
  refine he i _ hi h1 _ fun H'' s => ⟨_, s _ _ h2, by simp only [List.length_map, List.length_range]; omega, ?_, ?_⟩
  · intro b o e
    rw [upd_ne (ne_of_none e nD)]
    exact s _ _ (h1 _ _ e)
  · rw [upd_same, List.range_succ, List.map_append]
    rfl
theorem walk_listF {d : V} : Walk (Itl K a) xs.length (fun H => SqL K H a xs) (fun i H y H' => H' = H ∧ y = xs.getD i d) :=
  walk_list.mono (fun _ h => h) fun i H y H' hi _ h => ⟨h.1, by rw [List.getD_eq_getElem?_getD, h.2]; rfl⟩
theorem walk_strF : Walk (Its z) z.cps.size (fun _ => True) (fun i H y H' => H' = H ∧ y = .str ⟨#[z.cps.toList.getD i 0]⟩) :=
  walk_str.mono (fun _ h => h) fun i H y H' hi _ h => by
    obtain ⟨h1, c, h2, h3⟩ := h
    refine ⟨h1, ?_⟩
    rw [h3, List.getD_eq_getElem?_getD, Array.getElem?_toList, h2]
    rfl
/-- [x for each turn's x if p] -/
theorem lc_keep {J : It} {n : Nat} {G : Hp → Prop} {x : Nat → V} (w : Walk J n G (fun i H y H' => H' = H ∧ y = x i)) (p : Nat → Bool) (hn : n < sizeLine) (nD : H1 Da = none) (hG : ∀ H', Same H1 H' → G H')
    (ht : ∀ i H', i < n → Same H1 H' → ∀ R : Bool → Hp → Prop, (∀ H'', Same H' H'' → R (p i) H'') → tt ((wipe σ vs).set ix (some (x i))) H' R)
    (he : ∀ i H', i < n → p i = true → Same H1 H' → ∀ R : VK, (∀ H'', Same H' H'' → R (x i) H'') → te ((wipe σ vs).set ix (some (x i))) H' R)
    (hd : ∀ H', Same H1 H' → H' Da = some (.lst (((List.range n).filter p).map x)) → Qd H')
    (hw : ∀ y, wipe ((wipe σ vs).set ix (some y)) vs = wipe σ vs := by intro y; rfl) : LcW J (gName ix) tt te vs σ H1 Da Qd := by
  refine go_lc w (fun i H' => Same H1 H' ∧ H' Da = some (.lst (((List.range i).filter p).map x))) ⟨same_upd (Same.refl _) nD, upd_same⟩ (fun i H' _ h => hG H' h.1) ?_ (fun H' h => hd H' h.1 h.2)
  rintro i y H' _ hi ⟨h1, h2⟩ ⟨rfl, rfl⟩
  refine ⟨hw _, ?_⟩
  refine ht i _ hi h1 _ fun H2 s2 => ?_
  have e1 : ((List.range (i + 1)).filter p).map x = ((List.range i).filter p).map x ++ (if p i = true then [x i] else []) := by
    rw [List.range_succ, List.filter_append, List.map_append, List.filter_cons, List.filter_nil]
    split <;> rfl
  cases hp : p i with
  | false =>
    refine iteF ?_
    rw [e1, hp]
    simp only [Bool.false_eq_true, if_false, List.append_nil]
    exact ⟨h1.trans s2, s2 _ _ h2⟩
  | true =>
    refine iteT ?_
    refine he i _ hi hp (h1.trans s2) _ fun H'' s => ⟨_, s _ _ (s2 _ _ h2), ?_, ?_, ?_⟩
    · rw [List.length_map]
      have := List.length_filter_le p (List.range i)
      rw [List.length_range] at this
      omega
    · intro b o e
      rw [upd_ne (ne_of_none e nD)]
      exact s _ _ (s2 _ _ (h1 _ _ e))
    · rw [upd_same, e1, hp]
      rfl
end
/-! ### texts -/
def cd (z : Str) : List Nat := z.cps.toList
theorem cd_len (z : Str) : (cd z).length = z.length := by
  show z.cps.toList.length = z.cps.size
  exact Array.length_toList
theorem cd_app (x y : Str) : cd (x ++ y) = cd x ++ cd y := by
  show (x.cps ++ y.cps).toList = _
  rw [Array.toList_append]
  rfl
theorem cd_cut (z : Str) (lo hi : Option Int) : cd (cutS z lo hi) = ((cd z).drop (HT.sIx (cd z).length 0 lo)).take (HT.sIx (cd z).length (cd z).length hi - HT.sIx (cd z).length 0 lo) := by
  rw [cd_len]
  show (List.toArray _).toList = _
  rfl
theorem cd_one (c : Nat) : cd ⟨#[c]⟩ = [c] := rfl
theorem cd_join (ys : List Str) : cd (Txt.join ("" : Str) ys) = (ys.map cd).flatten := by
  rw [TL.join_eq]
  induction ys with
  | nil => rfl
  | cons x r ih =>
    cases r with
    | nil => show cd x = _; simp
    | cons y r =>
      show cd (x ++ ("" : Str) ++ Str.join ("" : Str) (y :: r)) = _
      rw [cd_app, cd_app, ih]
      show cd x ++ [] ++ _ = _
      simp
theorem cd_ext {x y : Str} (h : cd x = cd y) : x = y := by
  cases x with
  | mk a =>
    cases y with
    | mk b =>
      have e : a = b := Array.toList_inj.mp h
      rw [e]
section
variable {X : Cx} {H : Hp} {Q : VK} {x y : Str}
def rAddSt : R2 := fun x y H Q => ∃ i j, x = .str i ∧ y = .str j ∧ i.length + j.length ≤ sizeLine ∧ Q (.str (i ++ j)) H
theorem op_addS : OpR X (binaryOp .Add) rAddSt := op_add_str
theorem i_addS (h : x.length + y.length ≤ sizeLine) (k : Q (.str (x ++ y)) H) : rAddSt (.str x) (.str y) H Q := ⟨x, y, rfl, rfl, h, k⟩
theorem i_mulS {n : Int} (h1 : 1 ≤ n) (h2 : n ≤ 1000) (hz : x.length * n.toNat ≤ sizeLine) (k : ∀ r : Str, cd r = (List.replicate n.toNat (cd x)).flatten → Q (.str r) H) : rMulS (.str x) (.int n) H Q :=
  ⟨x, n.toNat, rfl, by rw [Int.toNat_of_nonneg (by omega)], by omega, by omega, hz, k⟩
end
theorem exR1 {j : Int} {R : Nat → Prop} (h0 : -(2 ^ 62) ≤ j) (h : j < 2 ^ 62) (k : R j.toNat) : ∃ i : Int, [V.int j] = [.int i] ∧ -(2 ^ 62) ≤ i ∧ i < 2 ^ 62 ∧ R i.toNat := ⟨j, rfl, h0, h, k⟩
theorem exR2 {a j : Int} {R : Int → Nat → Prop} (h : -(2 ^ 62) ≤ a ∧ a < 2 ^ 62 ∧ -(2 ^ 62) ≤ j ∧ j < 2 ^ 62) (k : R a (j - a).toNat) : ∃ i i' : Int, [V.int a, V.int j] = [.int i, .int i'] ∧ (-(2 ^ 62) ≤ i ∧ i < 2 ^ 62 ∧ -(2 ^ 62) ≤ i' ∧ i' < 2 ^ 62) ∧ R i (i' - i).toNat := ⟨a, j, rfl, h, k⟩
theorem line_le {n : Nat} (h : n ≤ 100000) : n ≤ sizeLine := Nat.le_trans h (by decide)
theorem sz {n : Nat} (h : Nat.ble n 100000 = true := by rfl) : n ≤ sizeLine := line_le (Nat.le_of_ble_eq_true h)
theorem line_lt {n : Nat} (h : n ≤ 100000) : n < sizeLine := Nat.lt_of_le_of_lt h (by decide)
theorem range_getD {α : Type} (d : α) : ∀ l : List α, (List.range l.length).map (fun i => l.getD i d) = l := by
  intro l
  apply List.ext_getElem
  · simp
  · intro i h1 h2
    simp [List.getD_eq_getElem?_getD, h2]
theorem one_lt (a b : Nat) : (([a] : List Nat) < [b]) ↔ a < b := by
  rw [List.cons_lt_cons_iff]
  simp
section
variable {X : Cx} {H : Hp} {Q : VK} {x y : Str} {K : PySem.W.Frag} {a : Addr}
def rLeS : R2 := fun x y H Q => ∃ i j, x = .str i ∧ y = .str j ∧ Q (.bl (!decide (j.cps.toList < i.cps.toList))) H
theorem op_leS : OpR X (compareOp .LtE) rLeS := op_le_str
theorem i_leS (k : Q (.bl (!decide (cd y < cd x))) H) : rLeS (.str x) (.str y) H Q := ⟨x, y, rfl, rfl, k⟩
theorem i_all {bs : List Bool} (h : SqL K H a (bs.map V.bl)) (k : Q (.bl (bs.all id)) H) : rAll K [.ref a] H Q := ⟨a, bs, rfl, h, k⟩
def rNinS : R2 := fun x y H Q => ∃ (c : Nat) (z : Str), x = .str ⟨#[c]⟩ ∧ y = .str z ∧ Q (.bl (!decide (c ∈ z.cps.toList))) H
theorem op_ninS : OpR X (compareOp .NotIn) rNinS := op_notIn_sign
theorem i_ninS {c : Nat} (k : Q (.bl (!decide (c ∈ cd y))) H) : rNinS (.str ⟨#[c]⟩) (.str y) H Q := ⟨c, y, rfl, rfl, k⟩
def rInS1 : R2 := fun x y H Q => ∃ (c : Nat) (z : Str), x = .str ⟨#[c]⟩ ∧ y = .str z ∧ Q (.bl (decide (c ∈ z.cps.toList))) H
theorem op_inS1 : OpR X (compareOp .In) rInS1 := op_in_sign
theorem i_inS1 {c : Nat} (k : Q (.bl (decide (c ∈ cd y))) H) : rInS1 (.str ⟨#[c]⟩) (.str y) H Q := ⟨c, y, rfl, rfl, k⟩
end
/-! ### slices -/
def cutA {α : Type} (xs : List α) (lo hi : Option Int) : List α := (xs.drop (HT.sIx xs.length 0 lo)).take (HT.sIx xs.length xs.length hi - HT.sIx xs.length 0 lo)
theorem cutV_map {α : Type} (f : α → V) (xs : List α) (lo hi : Option Int) : cutV (xs.map f) lo hi = (cutA xs lo hi).map f := by
  unfold cutV cutA
  rw [List.length_map, List.map_take, List.map_drop]
theorem cutA_from {α : Type} (xs : List α) (k : Nat) : cutA xs (some (k : Int)) none = xs.drop k := by
  unfold cutA
  rw [HT.sIx_nat, HT.sIx_none]
  by_cases h : k ≤ xs.length
  · rw [Nat.min_eq_left h]
    exact List.take_of_length_le (by rw [List.length_drop]; omega)
  · rw [Nat.min_eq_right (by omega), List.drop_of_length_le (Nat.le_refl _), List.drop_of_length_le (by omega)]
    exact List.take_nil
theorem cutA_to {α : Type} (xs : List α) (k : Nat) : cutA xs none (some (k : Int)) = xs.take k := by
  unfold cutA
  rw [HT.sIx_nat, HT.sIx_none, List.drop_zero, Nat.sub_zero]
  by_cases h : k ≤ xs.length
  · rw [Nat.min_eq_left h]
  · rw [Nat.min_eq_right (by omega), List.take_length, List.take_of_length_le (by omega)]
theorem cd_cutA (z : Str) (lo hi : Option Int) : cd (cutS z lo hi) = cutA (cd z) lo hi := cd_cut z lo hi
theorem cutA_mem {α : Type} {xs : List α} {lo hi : Option Int} {x : α} (h : x ∈ cutA xs lo hi) : x ∈ xs := List.mem_of_mem_drop (List.mem_of_mem_take h)
theorem cutA_len {α : Type} (xs : List α) (lo hi : Option Int) : (cutA xs lo hi).length ≤ xs.length := by
  unfold cutA
  rw [List.length_take, List.length_drop]
  omega
/-! ### data and heaps -/
section
variable {K : PySem.W.Frag} {H H' : Hp}
theorem Same.rd {a : Addr} {u : HO} (e : Same H H') (h : Rd H a u) : Rd H' a u := by
  rcases h with h | ⟨o, h⟩
  · exact .inl (e _ _ h)
  · exact .inr ⟨o, e _ _ h⟩
theorem Same.tup {a : Addr} {xs : List V} (e : Same H H') (h : SqT K H a xs) : SqT K H' a xs := by
  rcases h with h | h
  · exact .inl (Same.rd e h)
  · exact .inr h
mutual
theorem Dt.same (e : Same H H') : ∀ (d : PyData) (v : V), Dt K H v d → Dt K H' v d
  | .none, _, h => by cases h; exact .non
  | .bool b, _, h => by cases h; exact .bl b
  | .int i, _, h => by cases h; exact .int i
  | .str x, _, h => by cases h; exact .str x
  | .list ds, _, h => by cases h with | lst h1 h2 => exact .lst (e.seq h1) (Dts.same e ds _ h2)
  | .tuple ds, _, h => by cases h with | tup h1 h2 => exact .tup (Same.tup e h1) (Dts.same e ds _ h2)
  | .dict ds, _, h => by cases h with | dic h1 h2 => exact .dic (e _ _ h1) (Dtk.same e ds _ h2)
theorem Dts.same (e : Same H H') : ∀ (ds : List PyData) (vs : List V), Dts K H vs ds → Dts K H' vs ds
  | [], _, h => by cases h; exact .nil
  | d :: ds, _, h => by cases h with | cons h1 h2 => exact .cons (Dt.same e d _ h1) (Dts.same e ds _ h2)
theorem Dtk.same (e : Same H H') : ∀ (ds : List (PyData × PyData)) (vs : List (Key × V)), Dtk K H vs ds → Dtk K H' vs ds
  | [], _, h => by cases h; exact .nil
  | _ :: ds, _, h => by cases h with | cons h1 h2 => exact .cons (Dt.same e _ _ h1) (Dtk.same e ds _ h2)
end
theorem Dts.strs {xs : List Str} : Dts K H (xs.map V.str) (xs.map PyData.str) := by
  induction xs with
  | nil => exact .nil
  | cons x r ih => exact .cons (.str x) ih
theorem Dts.ints {xs : List Int} : Dts K H (xs.map V.int) (xs.map PyData.int) := by
  induction xs with
  | nil => exact .nil
  | cons x r ih => exact .cons (.int x) ih
end
end Gd

namespace Gd
open PySem PySem.Spec PyProof.Rows L2
theorem iteNT {A B : Prop} (h : A) : if (!false) = true then A else B := h
theorem iteNF {A B : Prop} (h : B) : if (!true) = true then A else B := h
/-! ### names -/
/-- the codes of a name -/
def nameL (l : List Nat) : Bool := decide (1 ≤ l.length ∧ l.length ≤ 8) && l.all fun c => decide (97 ≤ c ∧ c ≤ 122)
def NameS (z : Str) : Prop := nameL (cd z) = true
theorem nameL_iff {l : List Nat} : nameL l = true ↔ (1 ≤ l.length ∧ l.length ≤ 8) ∧ ∀ c ∈ l, 97 ≤ c ∧ c ≤ 122 := by
  unfold nameL
  rw [Bool.and_eq_true, decide_eq_true_iff, List.all_eq_true]
  simp only [decide_eq_true_iff]
theorem abc_at : ∀ r : Nat, r < 26 → (cd ("abcdefghijklmnopqrstuvwxyz" : Str))[r]? = some (97 + r) := by decide +kernel
theorem abc_mem (c : Nat) : c ∈ cd ("abcdefghijklmnopqrstuvwxyz" : Str) ↔ 97 ≤ c ∧ c ≤ 122 := by
  constructor
  · have h : ∀ c ∈ cd ("abcdefghijklmnopqrstuvwxyz" : Str), 97 ≤ c ∧ c ≤ 122 := by decide +kernel
    exact h c
  · rintro ⟨h1, h2⟩
    have h := abc_at (c - 97) (by omega)
    rw [show 97 + (c - 97) = c from by omega] at h
    exact List.mem_of_getElem? h
theorem low_iff (c : Nat) : ((!decide (([c] : List Nat) < [97])) && (!decide (([122] : List Nat) < [c]))) = decide (97 ≤ c ∧ c ≤ 122) := by
  have e1 : decide (([c] : List Nat) < [97]) = decide (c < 97) := decide_eq_decide.mpr (one_lt c 97)
  have e2 : decide (([122] : List Nat) < [c]) = decide (122 < c) := decide_eq_decide.mpr (one_lt 122 c)
  rw [e1, e2]
  by_cases h1 : c < 97 <;> by_cases h2 : 122 < c <;> simp [h1, h2] <;> omega
def isInt : PyData → Bool
  | .int _ => true
  | _ => false
def isNm : PyData → Bool
  | .str z => nameL (cd z)
  | _ => false
end Gd

namespace Gd
open PySem PySem.Spec PyProof.Rows L2
theorem len_app (x y : Str) : (x ++ y).length = x.length + y.length := by
  rw [← cd_len, cd_app, List.length_append, cd_len, cd_len]
theorem len_one (c : Nat) : (⟨#[c]⟩ : Str).length = 1 := rfl
theorem len_cut (z : Str) (lo hi : Option Int) : (cutS z lo hi).length ≤ z.length := by
  rw [← cd_len, cd_cutA, ← cd_len]
  exact cutA_len _ _ _
theorem mem_cut {z : Str} {lo hi : Option Int} {c : Nat} (h : c ∈ cd (cutS z lo hi)) : c ∈ cd z := by
  rw [cd_cutA] at h
  exact cutA_mem h
section
variable {K : PySem.W.Frag} {σ : L2.St} {H H' : Hp} {Q : VK} {ta tb : TE} {b a : Addr} {o : HO}
theorem i_dnew (k : ∀ p, H p = none → Q (.ref p) (upd H p (.dK []))) : tDNewK σ H Q := k
theorem i_disp {trs : List (TE × TE)} (k : ∀ p, H p = none → tPairs trs σ (upd H p (.dK [])) fun ps H2 => H2 p = some (.dK []) ∧ ∃ kvs : List (Key × V), ps = kvs.map (fun kv => (kV kv.1, kv.2)) ∧ kvs.length ≤ 15 ∧ Q (.ref p) (upd H2 p (.dK (mergeK [] kvs)))) : tDisp trs σ H Q := k
theorem i_pnil {Q : List (V × V) → Hp → Prop} (k : Q [] H) : tPairs [] σ H Q := k
theorem i_pcons {Q : List (V × V) → Hp → Prop} {r : List (TE × TE)} (k : ta σ H fun x H1 => tb σ H1 fun y H2 => tPairs r σ H2 fun ps H3 => Q ((x, y) :: ps) H3) : tPairs ((ta, tb) :: r) σ H Q := k
/-- the heap without the object at b -/
def hid (b : Addr) (H : Hp) : Hp := fun a => if a = b then none else H a
theorem hid_ne (h : a ≠ b) : hid b H a = H a := if_neg h
theorem hid_same : Same (hid b H) H := fun a o e => by
  unfold hid at e
  split at e
  · cases e
  · exact e
theorem But.hid (h : But b H H') : Same (hid b H) (hid b H') := fun a o e => by
  by_cases n : a = b
  · unfold Gd.hid at e
    rw [if_pos n] at e
    cases e
  · rw [hid_ne n] at e ⊢
    exact h a o n e
end
/-! ### data of small parts -/
mutual
def tame : PyData → Bool
  | .none | .bool _ => true
  | .int i => decide (i.natAbs.log2 < 1900)
  | .str z => z.cps.toList.all fun c => decide (c < 128)
  | .list xs | .tuple xs => tames xs
  | .dict kvs => tamek kvs
def tames : List PyData → Bool
  | [] => true
  | x :: xs => tame x && tames xs
def tamek : List (PyData × PyData) → Bool
  | [] => true
  | (k, v) :: r => tame k && tame v && tamek r
end
mutual
theorem tame_short : ∀ d : PyData, tame d = true → d.leavesShort 1921 = true
  | .none, _ => by simp only [PyData.leavesShort]
  | .bool _, _ => by simp only [PyData.leavesShort]
  | .int i, h => by
    have h1 : i.natAbs.log2 < 1900 := by simpa only [tame, decide_eq_true_eq] using h
    have h2 := PySem.int_text_length_le (a := i) (k := 1920) (by decide) (by omega)
    simp only [PyData.leavesShort, decide_eq_true_eq]
    have e : (PyData.shown (.int i)).length = (Str.ofString (toString i)).length := rfl
    rw [e]
    exact int_text_len_1921 (by omega)
  | .str z, h => by
    have h1 : ∀ c ∈ z.cps.toList, c < 128 := by simpa only [tame, List.all_eq_true, decide_eq_true_eq] using h
    simp only [PyData.leavesShort, List.all_eq_true, decide_eq_true_eq]
    intro c hc
    have := h1 c hc
    omega
  | .list xs, h => by
    have := tames_short xs (by simpa only [tame] using h)
    simpa only [PyData.leavesShort] using this
  | .tuple xs, h => by
    have := tames_short xs (by simpa only [tame] using h)
    simpa only [PyData.leavesShort] using this
  | .dict xs, h => by
    have := tamek_short xs (by simpa only [tame] using h)
    simpa only [PyData.leavesShort] using this
theorem tames_short : ∀ xs : List PyData, tames xs = true → PyData.leavesShortAll 1921 xs = true
  | [], _ => by simp only [PyData.leavesShortAll]
  | x :: xs, h => by
    have h1 : tame x = true ∧ tames xs = true := by simpa only [tames, Bool.and_eq_true] using h
    simp only [PyData.leavesShortAll, tame_short x h1.1, tames_short xs h1.2, Bool.and_self]
theorem tamek_short : ∀ xs : List (PyData × PyData), tamek xs = true → PyData.leavesShortKv 1921 xs = true
  | [], _ => by simp only [PyData.leavesShortKv]
  | (k, v) :: xs, h => by
    have h1 : (tame k = true ∧ tame v = true) ∧ tamek xs = true := by simpa only [tamek, Bool.and_eq_true] using h
    simp only [PyData.leavesShortKv, tame_short k h1.1.1, tame_short v h1.1.2, tamek_short xs h1.2, Bool.and_self]
end
mutual
theorem tame_show : ∀ d : PyData, tame d = true → d.showable = true
  | .none, _ => by simp only [PyData.showable]
  | .bool _, _ => by simp only [PyData.showable]
  | .int i, h => by
    have h1 : i.natAbs.log2 < 1900 := by simpa only [tame, decide_eq_true_eq] using h
    simp only [PyData.showable, decide_eq_true_eq]
    omega
  | .str z, h => by simp only [PyData.showable]
  | .list xs, h => by
    have := tames_show xs (by simpa only [tame] using h)
    simpa only [PyData.showable] using this
  | .tuple xs, h => by
    have := tames_show xs (by simpa only [tame] using h)
    simpa only [PyData.showable] using this
  | .dict xs, h => by
    have := tamek_show xs (by simpa only [tame] using h)
    simpa only [PyData.showable] using this
theorem tames_show : ∀ xs : List PyData, tames xs = true → PyData.showableAll xs = true
  | [], _ => by simp only [PyData.showableAll]
  | x :: xs, h => by
    have h1 : tame x = true ∧ tames xs = true := by simpa only [tames, Bool.and_eq_true] using h
    simp only [PyData.showableAll, tame_show x h1.1, tames_show xs h1.2, Bool.and_self]
theorem tamek_show : ∀ xs : List (PyData × PyData), tamek xs = true → PyData.showableKv xs = true
  | [], _ => by simp only [PyData.showableKv]
  | (k, v) :: xs, h => by
    have h1 : (tame k = true ∧ tame v = true) ∧ tamek xs = true := by simpa only [tamek, Bool.and_eq_true] using h
    simp only [PyData.showableKv, tame_show k h1.1.1, tame_show v h1.1.2, tamek_show xs h1.2, Bool.and_self]
end
mutual
theorem tame_lay : ∀ d : PyData, tame d = true → d.hasDict = false → d.canLay0 = true
  | .none, _, _ => by simp only [PyData.canLay0]
  | .bool _, _, _ => by simp only [PyData.canLay0]
  | .int i, _, _ => by simp only [PyData.canLay0]
  | .str z, h, _ => by
    have h1 : ∀ c ∈ z.cps.toList, c < 128 := by simpa only [tame, List.all_eq_true, decide_eq_true_eq] using h
    simp only [PyData.canLay0]
    show (z.cps.all fun c => decide (c < 0x110000)) = true
    rw [← Array.all_toList, List.all_eq_true]
    intro c hc
    have := h1 c hc
    exact decide_eq_true (by omega)
  | .list xs, h, n => by
    have := tames_lay xs (by simpa only [tame] using h) (by simpa only [PyData.hasDict] using n)
    simpa only [PyData.canLay0] using this
  | .tuple xs, h, n => by
    have := tames_lay xs (by simpa only [tame] using h) (by simpa only [PyData.hasDict] using n)
    simpa only [PyData.canLay0] using this
  | .dict xs, _, n => by simp [PyData.hasDict] at n
theorem tames_lay : ∀ xs : List PyData, tames xs = true → PyData.hasDictAll xs = false → PyData.canLayAll0 xs = true
  | [], _, _ => by simp only [PyData.canLayAll0]
  | x :: xs, h, n => by
    have h1 : tame x = true ∧ tames xs = true := by simpa only [tames, Bool.and_eq_true] using h
    have h2 : x.hasDict = false ∧ PyData.hasDictAll xs = false := by simpa only [PyData.hasDictAll, Bool.or_eq_false_iff] using n
    simp only [PyData.canLayAll0, tame_lay x h1.1 h2.1, tames_lay xs h1.2 h2.2, Bool.and_self]
end
theorem Showy.of {d : PyData} (h : tame d = true) (w : d.weight ≤ 8000) (dp : d.depth ≤ 40) (ok : d.hasDict = true → anyL d = false) : Showy d :=
  ⟨tame_show d h, dp, by
    have e := PyData.shown_le 1921 (by decide) d (tame_short d h)
    exact Nat.le_trans e (Nat.le_trans (Nat.add_le_add_right (Nat.mul_le_mul_left _ w) _) (by decide)), ok⟩
theorem Showy.plain {d : PyData} (h : tame d = true) (w : d.weight ≤ 8000) (dp : d.depth ≤ 40) (n : d.hasDict = false) : Showy d := Showy.of h w dp fun z => by rw [n] at z; cases z
theorem shaped_of {d : PyData} (h : tame d = true) (dp : d.depth ≤ 40) (n : d.hasDict = false) : SeqAt.shaped d = true := by
  unfold SeqAt.shaped
  rw [tame_lay d h n, Bool.true_and]
  exact decide_eq_true (by omega)
/-! lists of data -/
theorem tames_iff : ∀ {xs : List PyData}, tames xs = true ↔ ∀ x ∈ xs, tame x = true
  | [] => by simp [tames]
  | x :: xs => by simp only [tames, Bool.and_eq_true, tames_iff (xs := xs), List.mem_cons, forall_eq_or_imp]
theorem hasDicts_iff : ∀ {xs : List PyData}, PyData.hasDictAll xs = false ↔ ∀ x ∈ xs, x.hasDict = false
  | [] => by simp [PyData.hasDictAll]
  | x :: xs => by simp only [PyData.hasDictAll, Bool.or_eq_false_iff, hasDicts_iff (xs := xs), List.mem_cons, forall_eq_or_imp]
theorem depths_le {n : Nat} : ∀ {xs : List PyData}, (∀ x ∈ xs, x.depth ≤ n) → PyData.depthAll xs ≤ n
  | [], _ => by simp [PyData.depthAll]
  | x :: xs, h => by
    simp only [PyData.depthAll]
    exact Nat.max_le.mpr ⟨h x List.mem_cons_self, depths_le fun y hy => h y (List.mem_cons_of_mem _ hy)⟩
theorem weights_le {n : Nat} : ∀ {xs : List PyData}, (∀ x ∈ xs, x.weight ≤ n) → PyData.weightAll xs ≤ (n + 1) * xs.length
  | [], _ => by simp [PyData.weightAll]
  | x :: xs, h => by
    have h1 := h x List.mem_cons_self
    have h2 := weights_le fun y hy => h y (List.mem_cons_of_mem x hy)
    simp only [PyData.weightAll, List.length_cons, Nat.mul_add, Nat.mul_one]
    omega
/-- the measures of a datum in one: tame, its weight, its depth, no dict -/
structure Mild (w p : Nat) (d : PyData) : Prop where
  t : tame d = true
  w : d.weight ≤ w
  p : d.depth ≤ p
  n : d.hasDict = false
theorem Mild.up {w p w' p' : Nat} {d : PyData} (h : Mild w p d) (hw : w ≤ w') (hp : p ≤ p') : Mild w' p' d := ⟨h.t, Nat.le_trans h.w hw, Nat.le_trans h.p hp, h.n⟩
theorem Mild.list {w p k : Nat} {xs : List PyData} (h : ∀ x ∈ xs, Mild w p x) (hk : xs.length ≤ k) : Mild ((w + 1) * k) (p + 1) (.list xs) :=
  ⟨by simp only [tame]; exact tames_iff.mpr fun x hx => (h x hx).t, by simp only [PyData.weight]; exact Nat.le_trans (weights_le fun x hx => (h x hx).w) (Nat.mul_le_mul_left _ hk),
    by simp only [PyData.depth]; exact Nat.add_le_add_right (depths_le fun x hx => (h x hx).p) 1, by simp only [PyData.hasDict]; exact hasDicts_iff.mpr fun x hx => (h x hx).n⟩
theorem Mild.tuple {w p k : Nat} {xs : List PyData} (h : ∀ x ∈ xs, Mild w p x) (hk : xs.length ≤ k) : Mild ((w + 1) * k) (p + 1) (.tuple xs) :=
  ⟨by simp only [tame]; exact tames_iff.mpr fun x hx => (h x hx).t, by simp only [PyData.weight]; exact Nat.le_trans (weights_le fun x hx => (h x hx).w) (Nat.mul_le_mul_left _ hk),
    by simp only [PyData.depth]; exact Nat.add_le_add_right (depths_le fun x hx => (h x hx).p) 1, by simp only [PyData.hasDict]; exact hasDicts_iff.mpr fun x hx => (h x hx).n⟩
theorem Mild.str {z : Str} {k : Nat} (h : ∀ c ∈ cd z, c < 128) (hk : z.length ≤ k) : Mild k 0 (.str z) :=
  ⟨by simp only [tame, List.all_eq_true, decide_eq_true_eq]; exact h, by simp only [PyData.weight]; exact hk, by simp [PyData.depth], by simp [PyData.hasDict]⟩
theorem Mild.int {i : Int} {k : Nat} (h : i.natAbs.log2 < k) (hk : k ≤ 1900) : Mild k 0 (.int i) :=
  ⟨by simp only [tame, decide_eq_true_eq]; omega, by simp only [PyData.weight]; split <;> omega, by simp [PyData.depth], by simp [PyData.hasDict]⟩
theorem Mild.bool {b : Bool} : Mild 0 0 (.bool b) := ⟨by simp [tame], by simp [PyData.weight], by simp [PyData.depth], by simp [PyData.hasDict]⟩
theorem Mild.none : Mild 0 0 .none := ⟨by simp [tame], by simp [PyData.weight], by simp [PyData.depth], by simp [PyData.hasDict]⟩
theorem Mild.show {w p : Nat} {d : PyData} (h : Mild w p d) (hw : w ≤ 8000) (hp : p ≤ 40) : Showy d := Showy.plain h.t (Nat.le_trans h.w hw) (Nat.le_trans h.p hp) h.n
theorem Mild.shape {w p : Nat} {d : PyData} (h : Mild w p d) (hp : p ≤ 40) : SeqAt.shaped d = true := shaped_of h.t (Nat.le_trans h.p hp) h.n
theorem NameS.asc {z : Str} (h : NameS z) : ∀ c ∈ cd z, c < 128 := fun c hc => by
  have := (nameL_iff.mp h).2 c hc
  omega
theorem NameS.len {z : Str} (h : NameS z) : z.length ≤ 8 := by
  have := (nameL_iff.mp h).1
  rw [cd_len] at this
  exact this.2
theorem NameS.pos {z : Str} (h : NameS z) : 1 ≤ z.length := by
  have := (nameL_iff.mp h).1
  rw [cd_len] at this
  exact this.1
theorem num_asc (i : Int) : ∀ c ∈ cd (Str.ofString (toString i)), c < 128 := by
  intro c hc
  have h := int_ascii i
  have e : cd (Str.ofString (toString i)) = (toString i).toList.map Char.toNat := by
    rw [Str.ofString_eq_toList]
    rfl
  rw [e] at hc
  obtain ⟨x, hx, rfl⟩ := List.mem_map.mp hc
  exact h x hx
theorem num_len {i : Int} {k : Nat} (hk : 0 < k) (h : i.natAbs.log2 < k) : (Str.ofString (toString i)).length ≤ k + 1 := by
  have h1 := PySem.int_text_length_le hk h
  rw [PySem.ofString_length]
  exact h1
theorem up_asc {z : Str} (h : ∀ c ∈ cd z, c < 128) : ∀ c ∈ cd (Txt.upper z), c < 128 := by
  rw [upper_ascii h]
  intro c hc
  have e : cd (⟨z.cps.map up1⟩ : Str) = (cd z).map up1 := by
    show (z.cps.map up1).toList = _
    rw [Array.toList_map]
    rfl
  rw [e] at hc
  obtain ⟨x, hx, rfl⟩ := List.mem_map.mp hc
  have := h x hx
  unfold up1
  split <;> omega
theorem up_len {z : Str} (h : ∀ c ∈ cd z, c < 128) : (Txt.upper z).length = z.length := by
  rw [upper_ascii h]
  show (z.cps.map up1).size = z.cps.size
  exact Array.size_map
end Gd

namespace Gd
open PySem PySem.Spec PyProof.Rows L2
section
variable {X : Cx} {K : PySem.W.Frag} {H : Hp} {Q : VK} {σ : L2.St} {a b : Addr} {xs : List V} {n : Int} {ta : TE} {t : TA}
/-- != of two lists that hold the same items -/
def rNeSame (K : PySem.W.Frag) : R2 := fun x y H Q => ∃ (a b : Addr) (xs : List V), x = .ref a ∧ y = .ref b ∧ SqL K H a xs ∧ SqL K H b xs ∧ (∀ v ∈ xs, flatB v = true ∨ ∃ r, v = .ref r) ∧ Q (.bl false) H
theorem op_neSame (hu : X.A.units + 64 < cLine) : OpR X (compareOp .NotEq) (rNeSame X.K) := by
  intro pins s σ H x y v u Q I rx ry h
  obtain ⟨a, b, xs, rfl, rfl, ha, hb, hx, q⟩ := h
  cases rx
  cases ry
  obtain ⟨us, r1, p1, _⟩ := I.list ha
  obtain ⟨ws, r2, p2, _⟩ := I.list hb
  have e1 := r1.length
  have e2 := r2.length
  have hs : us.toArray.size = ws.toArray.size := by rw [List.size_toArray, List.size_toArray]; omega
  have := SeqAt.RcNeAt.lists (A := X.A) (s := s) (e := fun _ => true) p1.isList p2.isList hs (by omega) (fun j h1 h2 => by
    have j1 : j < us.length := by simpa using h1
    have j2 : j < ws.length := by simpa using h2
    have jx : j < xs.length := by omega
    obtain ⟨u1, f1, g1⟩ := r1.get (List.getElem?_eq_getElem jx)
    obtain ⟨u2, f2, g2⟩ := r2.get (List.getElem?_eq_getElem jx)
    rw [List.getElem?_eq_getElem j1] at f1
    rw [List.getElem?_eq_getElem j2] at f2
    cases f1
    cases f2
    show SeqAt.EqAt X.A.in1 s us.toArray[j] ws.toArray[j] true
    rw [List.getElem_toArray, List.getElem_toArray]
    rcases hx _ (List.getElem_mem jx) with f | ⟨r, f⟩
    · exact eqAt_same g1 g2 f
    · rw [f] at g1 g2
      rw [show us[j] = Value.ref r from g1, show ws[j] = Value.ref r from g2]
      exact SeqAt.EqAt.same _)
  refine this X.prog X.w X.xe _ ?_
  have e : (!((List.range us.toArray.size).all fun _ => true)) = false := by simp
  first
    | (rw [e]; exact ⟨.bl false, H, I, rfl, q⟩)
    | exact ⟨.bl false, H, I, by simp [RelV], q⟩
theorem i_neSame (ha : SqL K H a xs) (hb : SqL K H b xs) (hx : ∀ v ∈ xs, flatB v = true ∨ ∃ r, v = .ref r) (k : Q (.bl false) H) : rNeSame K (.ref a) (.ref b) H Q := ⟨a, b, xs, rfl, rfl, ha, hb, hx, k⟩
theorem i_lstRg {te : L2.St → Hp → (Int → Int → Hp → Prop) → Prop} (k : te σ H fun a b H1 => RgOk a b ∧ ∀ q, H1 q = none → Q (.ref q) (upd H1 q (.lst (rgV a b)))) : tLstRg te σ H Q := k
theorem i_rg1 {R : Int → Int → Hp → Prop} (k : ta σ H fun x H1 => ∃ n, x = .int n ∧ R 0 n H1) : tRg1 ta σ H R := k
theorem rgV_nat (n : Nat) : rgV 0 (n : Int) = ((List.range n).map fun i : Nat => (i : Int)).map V.int := by
  unfold rgV
  rw [Int.sub_zero, Int.toNat_natCast, List.map_map]
  apply List.map_congr_left
  intro i _
  show V.int (0 + (i : Int)) = V.int (i : Int)
  rw [Int.zero_add]
theorem i_enum {R : It → Hp → Prop} (k : t σ H fun vs H1 => ∃ a xs, vs = [.ref a] ∧ SqL K H1 a xs ∧ R (Ite K a) H1) : iEnum K t σ H R := k
theorem i_exE {R : Addr → Prop} (h : SqL K H a xs) (k : R a) : ∃ b xs, [V.ref a] = [.ref b] ∧ SqL K H b xs ∧ R b := ⟨a, xs, rfl, h, k⟩
theorem i_rem {ns : List Int} {k : Int} {j : Nat} (h : H a = some (.lst (ns.map V.int))) (e : ns[j]? = some k) (f : ∀ m : Nat, m < j → ns[m]? ≠ some k) (q : Q .non (upd H a (.lst ((ns.eraseIdx j).map V.int)))) : rRemI (.ref a) [.int k] H Q :=
  ⟨a, ns, k, j, rfl, rfl, h, e, f, q⟩
theorem i_rev (h : H a = some (.lst xs)) (q : Q .non (upd H a (.lst xs.reverse))) : rReverse (.ref a) [] H Q := ⟨a, xs, rfl, rfl, h, q⟩
theorem i_while {c : TT} {tb : TS} {D : Ends} (W : Nat → L2.St → Hp → Prop) (m : Nat) (h0 : W m σ H) (hs : ∀ m σ H, W m σ H →
    c σ H fun b H1 => if b = true then ∃ N : L2.St → Hp → Prop, (∀ σ' H', N σ' H' → ∃ m', m' < m ∧ W m' σ' H') ∧ tb { D with nx := N, ct := N, bk := D.nx } σ H1 else D.nx σ H1) : tWhile c tb D σ H := ⟨W, ⟨m, h0⟩, hs⟩
end
/-! the same where the written part is named (within a comprehension's block) -/
section
variable {X : Cx} {K : PySem.W.Frag}
theorem ix_listK (h : X.K = K) : IxR X (rIxL K) := h ▸ ix_list
theorem ix_tupK (h : X.K = K) : IxR X (rIxT K) := h ▸ ix_tup
theorem sl_listK (h : X.K = K) : SlR X (rSlL K) := h ▸ sl_list
theorem call_lenLK (h : X.K = K) : CallR X (.builtin "len") (rLenL K) := h ▸ call_lenL
theorem op_eqDtK (h : X.K = K) (hu : X.A.units + 64 < cLine) : OpR X (compareOp .Eq) (rEqDt K) := h ▸ op_eqDt hu
theorem op_neDtK (h : X.K = K) (hu : X.A.units + 64 < cLine) : OpR X (compareOp .NotEq) (rNeDt K) := h ▸ op_neDt hu
theorem call_isDK (h : X.K = K) : CallR X (.builtin "isinstance") (rIsD K) := h ▸ call_isD
theorem call_reprK (h : X.K = K) (hG : X.A.guards = some []) (hu : X.A.units + 64 < cLine) : CallR X (.builtin "repr") (rRepr K) := h ▸ call_repr hG hu
theorem call_listOK (h : X.K = K) : CallR X (.type "list") (rListOf K) := h ▸ call_listO
theorem cr_allK (h : X.K = K) (hc : X.calm = true) : CallR X (.builtin "all") (rAll K) := h ▸ cr_all hc
end
/-! ### an order of indexes by falling weights -/
def ahead (w : Nat → Int) (i j : Nat) : Prop := w j < w i ∨ (w i = w j ∧ i < j)
def OrdL (w : Nat → Int) (n : Nat) (zs : List Nat) : Prop := zs.Perm (List.range n) ∧ zs.Pairwise (ahead w)
theorem OrdL.uniq {w : Nat → Int} {n : Nat} {xs ys : List Nat} (h1 : OrdL w n xs) (h2 : OrdL w n ys) : xs = ys := by
  refine List.Perm.eq_of_pairwise ?_ h1.2 h2.2 (h1.1.trans h2.1.symm)
  intro a b _ _ x y
  rcases x with x | ⟨x1, x2⟩ <;> rcases y with y | ⟨y1, y2⟩ <;> omega
theorem OrdL.range {w : Nat → Int} {n : Nat} (h : ∀ i j, w i = w j) : OrdL w n (List.range n) :=
  ⟨List.Perm.refl _, List.pairwise_lt_range.imp fun {a b} h' => .inr ⟨h a b, h'⟩⟩
/-- the first of the greatest -/
def best (w : Nat → Int) : List Nat → Nat → Nat
  | [], b => b
  | k :: r, b => best w r (if w b < w k then k else b)
theorem best_mem (w : Nat → Int) : ∀ (l : List Nat) (b : Nat), best w l b = b ∨ best w l b ∈ l
  | [], b => .inl rfl
  | k :: r, b => by
    rcases best_mem w r (if w b < w k then k else b) with h | h
    · show best w r _ = b ∨ best w r _ ∈ k :: r
      rw [h]
      split
      · exact .inr List.mem_cons_self
      · exact .inl rfl
    · exact .inr (List.mem_cons_of_mem _ h)
theorem best_ge (w : Nat → Int) : ∀ (l : List Nat) (b : Nat), w b ≤ w (best w l b) ∧ ∀ k ∈ l, w k ≤ w (best w l b)
  | [], b => ⟨Int.le_refl _, fun k h => (by cases h)⟩
  | k :: r, b => by
    obtain ⟨h1, h2⟩ := best_ge w r (if w b < w k then k else b)
    have e : best w (k :: r) b = best w r (if w b < w k then k else b) := rfl
    rw [e]
    refine ⟨?_, fun j hj => ?_⟩
    · by_cases h : w b < w k
      · rw [if_pos h] at h1 ⊢
        omega
      · rw [if_neg h] at h1 ⊢
        exact h1
    · rcases List.mem_cons.mp hj with rfl | hj
      · by_cases h : w b < w j
        · rw [if_pos h] at h1 ⊢
          exact h1
        · rw [if_neg h] at h1 ⊢
          omega
      · exact h2 j hj
/-- of equal ones the first: what is as great as the chosen one stands behind it -/
theorem best_first (w : Nat → Int) : ∀ (l : List Nat) (b : Nat), (∀ k ∈ l, b < k) → l.Pairwise (· < ·) → (∀ k ∈ l, w k = w (best w l b) → best w l b ≤ k) ∧ (w b = w (best w l b) → best w l b = b)
  | [], b, _, _ => ⟨fun k h => (by cases h), fun _ => rfl⟩
  | k :: r, b, hb, hp => by
    have e : best w (k :: r) b = best w r (if w b < w k then k else b) := rfl
    rw [e]
    have hp' := List.pairwise_cons.mp hp
    by_cases h : w b < w k
    · rw [if_pos h]
      obtain ⟨h1, h2⟩ := best_first w r k hp'.1 hp'.2
      have g := (best_ge w r k).1
      refine ⟨fun j hj q => ?_, fun q => by omega⟩
      rcases List.mem_cons.mp hj with rfl | hj
      · rw [h2 q]
        exact Nat.le_refl _
      · exact h1 j hj q
    · rw [if_neg h]
      obtain ⟨h1, h2⟩ := best_first w r b (fun j hj => hb j (List.mem_cons_of_mem _ hj)) hp'.2
      refine ⟨fun j hj q => ?_, h2⟩
      rcases List.mem_cons.mp hj with rfl | hj
      · have g := (best_ge w r b).1
        have : w b = w (best w r b) := by omega
        rw [h2 this]
        exact Nat.le_of_lt (hb j List.mem_cons_self)
      · exact h1 j hj q
theorem best_ahead (w : Nat → Int) {x : Nat} {r : List Nat} (hp : (x :: r).Pairwise (· < ·)) : ∀ k ∈ x :: r, k ≠ best w (x :: r) x → ahead w (best w (x :: r) x) k := by
  have e : best w (x :: r) x = best w r x := by
    show best w r (if w x < w x then x else x) = _
    rw [if_neg (Int.lt_irrefl _)]
  have hp' := List.pairwise_cons.mp hp
  obtain ⟨g1, g2⟩ := best_ge w r x
  obtain ⟨f1, f2⟩ := best_first w r x hp'.1 hp'.2
  rw [e]
  intro k hk ne
  have gk : w k ≤ w (best w r x) := by
    rcases List.mem_cons.mp hk with rfl | hk
    · exact g1
    · exact g2 k hk
  by_cases q : w k = w (best w r x)
  · refine .inr ⟨q.symm, ?_⟩
    have : best w r x ≤ k := by
      rcases List.mem_cons.mp hk with rfl | hk
      · rw [f2 q]
        exact Nat.le_refl _
      · exact f1 k hk q
    omega
  · exact .inl (by omega)
end Gd

namespace Gd
open PySem PySem.Spec PyProof.Rows L2
theorem Same.none {H H' : Hp} {p : Addr} (h : Same H H') (n : H' p = none) : H p = none := by
  cases e : H p with
  | none => rfl
  | some o => exact absurd (h _ _ e) (by rw [n]; intro z; cases z)
theorem map_eraseIdx {α β : Type} (f : α → β) : ∀ (l : List α) (i : Nat), (l.eraseIdx i).map f = (l.map f).eraseIdx i
  | [], _ => rfl
  | _ :: _, 0 => rfl
  | x :: l, i + 1 => by
    show f x :: (l.eraseIdx i).map f = f x :: (l.map f).eraseIdx i
    rw [map_eraseIdx f l i]
theorem cons_eraseIdx {α : Type} : ∀ (l : List α) (i : Nat) (h : i < l.length), (l[i] :: l.eraseIdx i).Perm l
  | [], _, h => (by cases h)
  | x :: l, 0, _ => List.Perm.refl _
  | x :: l, i + 1, h => (List.Perm.swap x _ _).trans ((cons_eraseIdx l i (Nat.lt_of_succ_lt_succ h)).cons x)
theorem But.none {H H' : Hp} {b p : Addr} (h : But b H H') (pb : p ≠ b) (n : H' p = none) : H p = none := by
  cases e : H p with
  | none => rfl
  | some o => exact absurd (h _ _ pb e) (by rw [n]; intro z; cases z)
/-! ### lists of ints, and of indexes -/
def ixs (zs : List Nat) : List V := (zs.map fun i : Nat => (i : Int)).map V.int
theorem ixs_app (xs ys : List Nat) : ixs (xs ++ ys) = ixs xs ++ ixs ys := by
  unfold ixs
  rw [List.map_append, List.map_append]
theorem ixs_len (xs : List Nat) : (ixs xs).length = xs.length := by
  unfold ixs
  rw [List.length_map, List.length_map]
theorem ixs_at {xs : List Nat} {i : Nat} {x : Nat} (h : xs[i]? = some x) : (ixs xs)[i]? = some (.int (x : Int)) := by
  unfold ixs
  rw [List.getElem?_map, List.getElem?_map, h]
  rfl
section
variable {X : Cx} {K : PySem.W.Frag} {H : Hp} {Q : VK} {a b : Addr} {ns : List Int}
theorem Dt.ints (h : H a = some (.lst (ns.map V.int))) : Dt K H (.ref a) (.list (ns.map .int)) := Dt.lst (SqL.lst h) Dts.ints
theorem Mild.ints {k m : Nat} (h : ∀ n ∈ ns, n.natAbs.log2 < k) (hk : k ≤ 1900) (hl : ns.length ≤ m) : Mild ((k + 1) * m) 1 (.list (ns.map .int)) :=
  Mild.list (w := k) (p := 0) (fun x hx => by
    obtain ⟨n, hn, rfl⟩ := List.mem_map.mp hx
    exact Mild.int (h n hn) hk) (by rw [List.length_map]; exact hl)
theorem Mild.ixs {zs : List Nat} {k m : Nat} (h : ∀ z ∈ zs, z < 2 ^ k) (h0 : 0 < k) (hk : k ≤ 1900) (hl : zs.length ≤ m) : Mild ((k + 1) * m) 1 (.list ((zs.map fun i : Nat => (i : Int)).map .int)) :=
  Mild.ints (fun n hn => by
    obtain ⟨z, hz, rfl⟩ := List.mem_map.mp hn
    rw [Int.natAbs_natCast]
    exact PySem.Flt.log2_lt_of h0 (h z hz)) hk (by rw [List.length_map]; exact hl)
theorem eqv_nil (ds : List PyData) : PyData.eqv (.list ds) (.list []) = ds.isEmpty := by
  cases ds <;> simp [PyData.eqv, PyData.eqvAll]
/-- xs != [] -/
theorem i_neNil {k : Nat} (h : H a = some (.lst (ns.map V.int))) (hb : H b = some (.lst [])) (hk : ∀ n ∈ ns, n.natAbs.log2 < k) (k2 : k ≤ 1900) (q : Q (.bl (!ns.isEmpty)) H) : rNeDt K (.ref a) (.ref b) H Q := by
  refine i_neDt (Dt.ints h) (Dt.lst (ds := []) (SqL.lst hb) .nil) ((Mild.ints hk k2 (Nat.le_refl _)).shape (by decide)) ((Mild.list (w := 0) (p := 0) (xs := []) (fun x hx => by cases hx) (Nat.le_refl _)).shape (by decide)) ?_
  rw [eqv_nil]
  have e : (ns.map PyData.int).isEmpty = ns.isEmpty := by cases ns <;> rfl
  rw [e]
  exact q
end
theorem best_app (w : Nat → Int) (k : Nat) : ∀ (l : List Nat) (b : Nat), best w (l ++ [k]) b = if w (best w l b) < w k then k else best w l b
  | [], b => rfl
  | x :: l, b => best_app w k l _
theorem best_take (w : Nat → Int) {l : List Nat} {i k : Nat} (h : l[i]? = some k) (b : Nat) : best w (l.take (i + 1)) b = if w (best w (l.take i) b) < w k then k else best w (l.take i) b := by
  obtain ⟨hi, e⟩ := List.getElem?_eq_some_iff.mp h
  rw [List.take_succ_eq_append_getElem hi, e, best_app]
end Gd

namespace Gd
open PySem PySem.Spec PyProof.Rows L2
/-! ### data in a list: in, count -/
section
variable {X : Cx}
def rInDt (K : PySem.W.Frag) : R2 := fun x y H Q => ∃ d ds, Dt K H x d ∧ Dt K H y (.list ds) ∧ SeqAt.shaped d = true ∧ SeqAt.shaped (.list ds) = true ∧ Q (.bl (ds.any fun z => PyData.eqv z d)) H
def rNinDt (K : PySem.W.Frag) : R2 := fun x y H Q => ∃ d ds, Dt K H x d ∧ Dt K H y (.list ds) ∧ SeqAt.shaped d = true ∧ SeqAt.shaped (.list ds) = true ∧ Q (.bl (!ds.any fun z => PyData.eqv z d)) H
theorem op_inDt (hu : X.A.units + 65 < cLine) : OpR X (compareOp .In) (rInDt X.K) := by
  intro pins s σ H x y v u Q I rx ry h
  obtain ⟨d, ds, hd, he, sd, se, q⟩ := h
  obtain ⟨as, r1, _⟩ := Dt.reads I d x v hd rx
  obtain ⟨bs, r2, _⟩ := Dt.reads I (.list ds) y u he ry
  exact SeqAt.in_list_reads r2 r1 (SeqAt.canLay_of_shaped se) (SeqAt.canLay_of_shaped sd) (room_in_shaped sd hu) ⟨.bl _, H, I, rfl, q⟩
theorem op_ninDt (hu : X.A.units + 65 < cLine) : OpR X (compareOp .NotIn) (rNinDt X.K) := by
  intro pins s σ H x y v u Q I rx ry h
  obtain ⟨d, ds, hd, he, sd, se, q⟩ := h
  obtain ⟨as, r1, _⟩ := Dt.reads I d x v hd rx
  obtain ⟨bs, r2, _⟩ := Dt.reads I (.list ds) y u he ry
  exact SeqAt.notIn_list_reads r2 r1 (SeqAt.canLay_of_shaped se) (SeqAt.canLay_of_shaped sd) (room_in_shaped sd hu) ⟨.bl _, H, I, rfl, q⟩
theorem op_ninDtK {K : PySem.W.Frag} (h : X.K = K) (hu : X.A.units + 65 < cLine) : OpR X (compareOp .NotIn) (rNinDt K) := h ▸ op_ninDt hu
/-- l.count(x) of data -/
def rCntD (K : PySem.W.Frag) : V → List V → Hp → VK → Prop := fun x xs H Q => ∃ (a : Addr) (vs : List V) (ds : List PyData) (y : V) (d : PyData), x = .ref a ∧ xs = [y] ∧ SqL K H a vs ∧ Dts K H vs ds ∧ Dt K H y d ∧
  SeqAt.shaped (.list ds) = true ∧ SeqAt.shaped d = true ∧ Q (.int (ds.countP fun z => PyData.eqv z d : Nat)) H
theorem mt_cntD (hu : X.A.units + 65 < cLine) : MtR X "list.count" (rCntD X.K) := by
  intro pins s σ H x xs v us Q I rx rxs h
  obtain ⟨a, vs, ds, y, d, rfl, rfl, hs, hv, hy, sl, sd, q⟩ := h
  cases rx
  obtain ⟨u, rfl, ru⟩ := rxs.one
  obtain ⟨bs, r1, _⟩ := Dt.reads I d y u hy ru
  obtain ⟨its, rv, ⟨⟨cls, dd, data, sls⟩, n, ho, hc, hdn, hdt⟩, hlen⟩ := I.list hs
  simp only at hc hdt
  subst hc hdt
  obtain ⟨as, h4, _⟩ := Dt.readss I ds vs its hv rv
  have hxs : PyData.canLayAll0 ds = true := SeqAt.canLay_of_shaped sl
  have hroom : X.A.units + 1 + min (PyData.depthAll ds) d.depth < cLine := room_in_shaped sd hu
  have hmap : its.map (SeqAt.readOf s.heap) = ds := SeqAt.readsAll_map ds its as hxs h4
  refine call_meets PySem.F.slot_list_count ⟨_, ho, rfl⟩ PySem.F.entry_list_count (PySem.F.args_list_count_2 _ _)
    (SeqAt.list_countAt a its.toArray n dd sls u (fun z => PyData.eqv (SeqAt.readOf s.heap z) d)) ⟨ho, SeqAt.items_eqAt (vs := its.toArray) (show ReadsAll s.heap its.toArray.toList ds as from h4) r1 hxs (SeqAt.canLay_of_shaped sd) hroom, ?_⟩
  have ec : its.toArray.toList.countP (fun z => PyData.eqv (SeqAt.readOf s.heap z) d) = ds.countP fun z => PyData.eqv z d := by
    rw [← hmap, List.countP_map]
    rfl
  refine ⟨.int (ds.countP fun z => PyData.eqv z d : Nat), H, I.tok _, ⟨s.toks, ?_⟩, q⟩
  show Value.int ((its.toArray.toList.countP _ : Nat) : Int) s.toks = Value.int ((ds.countP fun z => PyData.eqv z d : Nat) : Int) s.toks
  rw [ec]
/-- l.extend(t), t a tuple -/
theorem extend_tup (l : Addr) (items : Array Value) (n : Nat) (b : Addr) (items2 : Array Value) (n2 : Nat) (dd : Option Addr) (sl : Array (Option Value)) (hs0 : ¬(!items.isEmpty && Builtin.List.listTooLong (items.size + items2.size)) = true) (hs1 : items.size ≤ sizeLine) (hs2 : items.size + items2.size ≤ sizeLine + 1) :
    Meets (Builtin.«list.extend» ⟨[.ref l, .ref b], []⟩) (fun _ R s => s.heap.get? l = some { cls := .type "list", dict := none, data := .seq items n, slots := #[] } ∧ s.heap.get? b = some { cls := .type "tuple", dict := dd, data := .seq items2 n2, slots := sl } ∧ R (.ok (.ret Value.none)) { s with heap := s.heap.update l (Obj.mapSeq fun x => x ++ items2), toks := s.toks }) :=
  .of_wp fun prog w A R s h => by
    obtain ⟨hp, g, d, tk, os⟩ := s; obtain ⟨hl, hb, h⟩ := h; have f1 := AutoSeq1.idx_int; have f2 := AutoSeq1.sub_tuple_tuple; have f3 := AutoSeq1.sub_list_list; have f4 := AutoSeq1.sub_tuple_list; have f5 := AutoSeq1.sub_list_tuple;
    have hz' : (items ++ items2).size ≤ sizeLine + 1 := by rw [Array.size_append]; exact hs2
    wp_walk using (wpAny_updateSeq hl rfl (hz := hs1) (_hz' := hz')), wpAny_loadPart' hl, wpAny_loadPart' hb; exact ⟨_, rfl, h⟩
def rExtT (K : PySem.W.Frag) : V → List V → Hp → VK → Prop := fun x vs H Q => ∃ l b xs zs, x = .ref l ∧ vs = [.ref b] ∧ H l = some (.lst xs) ∧ SqT K H b zs ∧ xs.length + zs.length ≤ sizeLine ∧ Q .non (upd H l (.lst (xs ++ zs)))
theorem mt_extT : MtM X "list.extend" (rExtT X.K) := by
  intro pins s σ H x vs v us Q I rx rv h
  obtain ⟨l, b, xs, zs, rfl, rfl, hH, hB, hz, q⟩ := h
  cases rx
  obtain ⟨u, rfl, ru⟩ := rv.one
  cases ru
  obtain ⟨z, its, n, r, hl, e⟩ := I.lstM hH
  obtain ⟨its2, r2, ⟨⟨cls, dd, data, sl⟩, ho, hc, n2, hd⟩, hl2⟩ := I.tuple hB
  simp only at hc hd
  subst hc hd
  have e1 := r.length
  have e2 := r2.length
  have hsz : its.toArray.size + its2.toArray.size ≤ sizeLine := by rw [List.size_toArray, List.size_toArray]; omega
  have hlong : ¬ (!its.toArray.isEmpty && Builtin.List.listTooLong (its.toArray.size + its2.toArray.size)) = true := by
    rw [notLongL hsz, Bool.and_false]
    exact Bool.false_ne_true
  refine call_meets F.slot_list_extend ⟨_, e, rfl⟩ F.entry_list_extend (F.args_list_extend_2 _ _)
    (extend_tup l its.toArray n b its2.toArray n2 dd sl hlong (by rw [List.size_toArray]; omega) (by omega)) ⟨e, ho, ?_⟩
  refine ⟨.non, _, I.lset (its' := its ++ its2) hH e (by simp) (r.append r2) ?_, rfl, q⟩
  rw [List.length_append]
  omega
end
end Gd

namespace Gd
open PySem PySem.Spec PyProof.Rows L2
/-! ### a comprehension with two fors -/
def LcIn (J1 : It) (g1 : TG) (tt1 : TT) (te : TE) (vs1 : List Nat) (σ2 : L2.St) (H4 : Hp) (D : Addr) (Nx : Hp → Prop) : Prop :=
  ∃ W1 : Nat → Nat → Hp → Prop, (∃ m, W1 0 m H4) ∧ ∀ j k H, W1 j k H →
    (J1.stop j H ∧ Nx H) ∨ (J1.go j H ∧ ∃ Nx1 : Hp → Prop, (∀ H', Nx1 H' → ∃ k', k' < k ∧ W1 (j + 1) k' H') ∧ ∀ x H', J1.yld j H x H' → g1 x (wipe σ2 vs1) H' fun σ3 H5 => wipe σ3 vs1 = wipe σ2 vs1 ∧ tt1 σ3 H5 fun b H6 =>
      if b = true then te σ3 H6 fun y H7 => ∃ acc, H7 D = some (.lst acc) ∧ acc.length < sizeLine ∧ Nx1 (upd H7 D (.lst (acc ++ [y]))) else Nx1 H6)
def Lc2W (J : It) (g : TG) (tt : TT) (wi1 : TI) (g1 : TG) (tt1 : TT) (te : TE) (vs vs1 : List Nat) (σ : L2.St) (H1 : Hp) (D : Addr) (Qd : Hp → Prop) : Prop :=
  ∃ W : Nat → Nat → Hp → Prop, (∃ m, W 0 m (upd H1 D (.lst []))) ∧ ∀ i m H, W i m H →
    (J.stop i H ∧ Qd H) ∨ (J.go i H ∧ ∃ Nx : Hp → Prop, (∀ H', Nx H' → ∃ m', m' < m ∧ W (i + 1) m' H') ∧ ∀ x H', J.yld i H x H' → g x (wipe σ vs) H' fun σ2 H2 => wipe σ2 vs = wipe σ vs ∧ tt σ2 H2 fun b H3 =>
      if b = true then wi1 σ2 H3 fun J1 H4 => LcIn J1 g1 tt1 te vs1 σ2 H4 D Nx else Nx H3)
section
variable {K : PySem.W.Frag} {σ : L2.St} {H H1 : Hp} {Q : VK} {wi wi1 : TI} {g g1 : TG} {tt tt1 : TT} {te : TE} {vs vs1 : List Nat} {D : Addr} {Qd : Hp → Prop}
theorem i_lc2 (k : wi σ H fun J H1 => ∀ D, H1 D = none → Lc2W J g tt wi1 g1 tt1 te vs vs1 σ H1 D (fun H' => Q (.ref D) H')) : tLc2 wi g tt wi1 g1 tt1 te vs vs1 σ H Q := k
theorem go_in {J : It} {n : Nat} {G : Hp → Prop} {Y : Nat → Hp → V → Hp → Prop} (w : Walk J n G Y) (Pv : Nat → Hp → Prop) (h0 : Pv 0 H1) (hG : ∀ i H, i ≤ n → Pv i H → G H)
    (hs : ∀ i x H H', i < n → Pv i H → Y i H x H' → g1 x (wipe σ vs1) H' fun σ2 H2 => wipe σ2 vs1 = wipe σ vs1 ∧ tt1 σ2 H2 fun b H3 =>
      if b = true then te σ2 H3 fun y H4 => ∃ acc, H4 D = some (.lst acc) ∧ acc.length < sizeLine ∧ Pv (i + 1) (upd H4 D (.lst (acc ++ [y]))) else Pv (i + 1) H3) (hd : ∀ H, Pv n H → Qd H) : LcIn J g1 tt1 te vs1 σ H1 D Qd := by
  refine ⟨fun i m H => m = n - i ∧ i ≤ n ∧ Pv i H, ⟨n, by simp, Nat.zero_le _, h0⟩, ?_⟩
  rintro i m H ⟨rfl, hi, p⟩
  have q := hG i H hi p
  by_cases hlt : i < n
  · refine .inr ⟨w.goes i H hlt q, Pv (i + 1), fun H' p' => ⟨n - (i + 1), by omega, rfl, hlt, p'⟩, fun x H' y => hs i x H H' hlt p (w.yields i H x H' hlt q y)⟩
  · have e : i = n := by omega
    subst e
    exact .inl ⟨w.stops H q, hd H p⟩
theorem go_lc2 {J : It} {n : Nat} {G : Hp → Prop} {Y : Nat → Hp → V → Hp → Prop} (w : Walk J n G Y) (Pv : Nat → Hp → Prop) (h0 : Pv 0 (upd H1 D (.lst []))) (hG : ∀ i H, i ≤ n → Pv i H → G H)
    (hs : ∀ i x H H', i < n → Pv i H → Y i H x H' → g x (wipe σ vs) H' fun σ2 H2 => wipe σ2 vs = wipe σ vs ∧ tt σ2 H2 fun b H3 =>
      if b = true then wi1 σ2 H3 fun J1 H4 => LcIn J1 g1 tt1 te vs1 σ2 H4 D (Pv (i + 1)) else Pv (i + 1) H3) (hd : ∀ H, Pv n H → Qd H) : Lc2W J g tt wi1 g1 tt1 te vs vs1 σ H1 D Qd := by
  refine ⟨fun i m H => m = n - i ∧ i ≤ n ∧ Pv i H, ⟨n, by simp, Nat.zero_le _, h0⟩, ?_⟩
  rintro i m H ⟨rfl, hi, p⟩
  have q := hG i H hi p
  by_cases hlt : i < n
  · refine .inr ⟨w.goes i H hlt q, Pv (i + 1), fun H' p' => ⟨n - (i + 1), by omega, rfl, hlt, p'⟩, fun x H' y => hs i x H H' hlt p (w.yields i H x H' hlt q y)⟩
  · have e : i = n := by omega
    subst e
    exact .inl ⟨w.stops H q, hd H p⟩
end
/-! ### tuples: + and [a:b], new or the same -/
section
variable {K : PySem.W.Frag} {H : Hp} {Q : VK} {a b : Addr} {xs ys : List V} {lo hi : Option Int}
theorem i_catA (ha : SqT K H a xs) (hb : SqT K H b ys) (hz : xs.length + ys.length ≤ sizeLine) (k : ∀ p H', Same H H' → SqT K H' p (xs ++ ys) → Q (.ref p) H') : rCatA K (.ref a) (.ref b) H Q :=
  ⟨a, b, xs, ys, rfl, rfl, ha, hb, hz, fun e => k b H (Same.refl _) (by rw [e]; exact hb), fun _ e => k a H (Same.refl _) (by rw [e, List.append_nil]; exact ha),
    fun _ _ p np => k p _ (same_upd (Same.refl _) np) (SqT.tup upd_same)⟩
theorem i_slA (ha : SqT K H a xs) (k : ∀ p H', Same H H' → SqT K H' p (cutV xs lo hi) → Q (.ref p) H') : rSlA K (.ref a) lo hi H Q :=
  ⟨a, xs, rfl, ha, fun ⟨e1, e2⟩ => k a H (Same.refl _) (by
    have e : cutV xs lo hi = xs := by
      unfold cutV
      rw [e1, e2]
      simp
    rw [e]
    exact ha), fun _ p np => k p _ (same_upd (Same.refl _) np) (SqT.tup upd_same)⟩
theorem i_inL {neg : Bool} {x : V} (h : SqL K H a xs) (f : flatV x = true) (fs : xs.all flatV = true) (k : Q (.bl (if neg then !inV x xs else inV x xs)) H) : rIn K neg x (.ref a) H Q := ⟨a, xs, rfl, .inl h, f, fs, k⟩
theorem i_inT {neg : Bool} {x : V} (h : SqT K H a xs) (f : flatV x = true) (fs : xs.all flatV = true) (k : Q (.bl (if neg then !inV x xs else inV x xs)) H) : rIn K neg x (.ref a) H Q := ⟨a, xs, rfl, .inr h, f, fs, k⟩
theorem i_ninDt {x y : V} {d : PyData} {ds : List PyData} (h1 : Dt K H x d) (h2 : Dt K H y (.list ds)) (s1 : SeqAt.shaped d = true) (s2 : SeqAt.shaped (.list ds) = true) (k : Q (.bl (!ds.any fun z => PyData.eqv z d)) H) : rNinDt K x y H Q := ⟨d, ds, h1, h2, s1, s2, k⟩
theorem i_cntD {y : V} {d : PyData} {ds : List PyData} (h : SqL K H a xs) (hv : Dts K H xs ds) (hy : Dt K H y d) (s1 : SeqAt.shaped (.list ds) = true) (s2 : SeqAt.shaped d = true) (k : Q (.int (ds.countP fun z => PyData.eqv z d : Nat)) H) : rCntD K (.ref a) [y] H Q :=
  ⟨a, xs, ds, y, d, rfl, rfl, h, hv, hy, s1, s2, k⟩
theorem i_extT (h : H a = some (.lst xs)) (h2 : SqT K H b ys) (hl : xs.length + ys.length ≤ sizeLine) (k : Q .non (upd H a (.lst (xs ++ ys)))) : rExtT K (.ref a) [.ref b] H Q := ⟨a, b, xs, ys, rfl, rfl, h, h2, hl, k⟩
end
section
variable {X : Cx} {K : PySem.W.Frag}
theorem op_in_seqK (h : X.K = K) : OpR X (compareOp .In) (rIn K false) := h ▸ op_in_seq
theorem mt_cntDK (h : X.K = K) (hu : X.A.units + 65 < cLine) : MtR X "list.count" (rCntD K) := h ▸ mt_cntD hu
end
section
variable {X : Cx} {K : PySem.W.Frag}
theorem pi_listK (h : X.K = K) {tg l : Expr} {tl : TE} (hl : PE X l tl) : PI X tg l (iList K tl) := h ▸ pi_list hl
theorem pi_tupK (h : X.K = K) {tg l : Expr} {tl : TE} (hl : PE X l tl) : PI X tg l (iTup K tl) := h ▸ pi_tup hl
def rTupOf (K : PySem.W.Frag) : List V → Hp → VK → Prop := fun xs H Q => ∃ p ys, xs = [.ref p] ∧ ((SqL K H p ys ∧ ∀ l, H l = none → Q (.ref l) (upd H l (.tup ys))) ∨ (SqT K H p ys ∧ Q (.ref p) H))
theorem call_tupO : CallR X (.type "tuple") (rTupOf X.K) := call_tuple_of
theorem call_tupOK (h : X.K = K) : CallR X (.type "tuple") (rTupOf K) := h ▸ call_tupO
theorem i_tupL {H : Hp} {Q : VK} {p : Addr} {ys : List V} (h : SqL K H p ys) (k : ∀ l, H l = none → Q (.ref l) (upd H l (.tup ys))) : rTupOf K [.ref p] H Q := ⟨p, ys, rfl, .inl ⟨h, k⟩⟩
theorem i_tupT {H : Hp} {Q : VK} {p : Addr} {ys : List V} (h : SqT K H p ys) (k : Q (.ref p) H) : rTupOf K [.ref p] H Q := ⟨p, ys, rfl, .inr ⟨h, k⟩⟩
end
section
variable {X : Cx} {K : PySem.W.Frag} {o e : Expr} {es : List Expr} {to : TE} {t : TA} {name : Str} {apos cpos : Pos} {T id : String} {r : V → List V → Hp → VK → Prop}
theorem pe_bmK (hK : X.K = K) (pa : PlainAttrs T) (slot : Slot T name id) (hty : typeOf (.builtin id) = pure (.type "method_descriptor")) (hm : MtR X id r) (ho : PE X o to) (ha : PA X (e :: es) t)
    (hbase : attributeBase o name X.env (eval o X.env) = eval o X.env := by rfl)
    (hfew : ((backTo cpos (starEach (e :: es) X.env)).all (fun x => !x.1) && (backToKw cpos (keywordEach [] X.env)).all (fun x => x.1.isSome)
      && decide ((e :: es).length + ([] : List Keyword).length + (if ([] : List Keyword).isEmpty then 0 else 1) < 30)) = true := by rfl)
    (hline : (apos.endLine == cpos.line) = true := by rfl) (hs : starEach (e :: es) X.env = (false, eval e X.env) :: starEach es X.env := by rfl) (hplain : (backTo cpos (starEach es X.env)).any (·.1) = false := by rfl) :
    PE X (.Call (.Attribute o name apos) (e :: es) [] cpos) (tBM K T r to t) := hK ▸ pe_bm pa slot hty hm ho ha hbase hfew hline hs hplain
end
theorem _root_.L2.Room.units65 {k : Nat} {A : Around} (r : Room k A) : A.units + 65 < cLine := by have := r.un; omega
section
variable {K : PySem.W.Frag} {H : Hp} {Q : VK} {l : Addr} {xs : List Str} {k : Int}
/-- a list times 0 or 1 -/
theorem i_rep01 (h : H l = some (.lst (xs.map V.str))) (hl : xs.length ≤ 1000) (k01 : k = 0 ∨ k = 1) (q : ∀ p (zs : List Str), H p = none → zs.length ≤ xs.length → (∀ z ∈ zs, z ∈ xs) → Q (.ref p) (upd H p (.lst (zs.map V.str)))) : rRep (.ref l) (.int k) H Q := by
  rcases k01 with rfl | rfl
  · exact ⟨l, 0, _, rfl, rfl, h, by decide, by decide, by simp, fun p np => q p [] np (Nat.zero_le _) (fun z h => by cases h)⟩
  · refine ⟨l, 1, _, rfl, rfl, h, by decide, by decide, ?_, fun p np => ?_⟩
    · rw [List.length_map]
      show xs.length * 1 ≤ _
      exact line_le (by omega)
    · have e : (List.replicate (1 : Int).toNat (xs.map V.str)).flatten = xs.map V.str := by
        show (xs.map V.str ++ []) = _
        rw [List.append_nil]
      rw [e]
      exact q p xs np (Nat.le_refl _) (fun z h => h)
end
/-! ### strings among strings -/
theorem inV_strs {z : Str} : ∀ {ys : List Str}, inV (.str z) (ys.map V.str) = decide (z ∈ ys)
  | [] => rfl
  | y :: r => by
    show (eqV (.str y) (.str z) || inV (.str z) (r.map V.str)) = _
    rw [inV_strs]
    have e : eqV (.str y) (.str z) = decide (y = z) := by
      show (y == z) = _
      by_cases q : y = z <;> simp [q]
    rw [e, ← Bool.decide_or, decide_eq_decide, List.mem_cons]
    constructor
    · rintro (h | h)
      · exact .inl h.symm
      · exact .inr h
    · rintro (h | h)
      · exact .inl h.symm
      · exact .inr h
theorem flat_strs (ys : List Str) : (ys.map V.str).all flatV = true := by
  rw [List.all_map, List.all_eq_true]
  intro _ _
  rfl
/-! ### the parts of a mild datum -/
theorem weightAll_mem : ∀ {xs : List PyData} {x : PyData}, x ∈ xs → x.weight + 1 ≤ PyData.weightAll xs
  | y :: r, x, h => by
    simp only [PyData.weightAll]
    rcases List.mem_cons.mp h with rfl | h
    · omega
    · have := weightAll_mem h
      omega
theorem weightAll_len : ∀ (xs : List PyData), xs.length ≤ PyData.weightAll xs
  | [] => Nat.zero_le _
  | y :: r => by
    have := weightAll_len r
    simp only [PyData.weightAll, List.length_cons]
    omega
theorem depthAll_mem : ∀ {xs : List PyData} {x : PyData}, x ∈ xs → x.depth ≤ PyData.depthAll xs
  | y :: r, x, h => by
    simp only [PyData.depthAll]
    rcases List.mem_cons.mp h with rfl | h
    · omega
    · have := depthAll_mem h
      omega
theorem Mild.inL {w p : Nat} {xs : List PyData} (h : Mild w p (.list xs)) : ∀ x ∈ xs, Mild w p x := fun x hx => by
  have h1 := h.w
  have h2 := h.p
  have h3 := weightAll_mem hx
  have h4 := depthAll_mem hx
  simp only [PyData.weight] at h1
  simp only [PyData.depth] at h2
  refine ⟨tames_iff.mp (by simpa only [tame] using h.t) x hx, by omega, by omega, hasDicts_iff.mp (by simpa only [PyData.hasDict] using h.n) x hx⟩
theorem Mild.inT {w p : Nat} {xs : List PyData} (h : Mild w p (.tuple xs)) : ∀ x ∈ xs, Mild w p x := fun x hx => by
  have h1 := h.w
  have h2 := h.p
  have h3 := weightAll_mem hx
  have h4 := depthAll_mem hx
  simp only [PyData.weight] at h1
  simp only [PyData.depth] at h2
  refine ⟨tames_iff.mp (by simpa only [tame] using h.t) x hx, by omega, by omega, hasDicts_iff.mp (by simpa only [PyData.hasDict] using h.n) x hx⟩
theorem Mild.lenT {w p : Nat} {xs : List PyData} (h : Mild w p (.tuple xs)) : xs.length ≤ w := by
  have h1 := h.w
  have := weightAll_len xs
  simp only [PyData.weight] at h1
  omega
theorem Mild.lenL {w p : Nat} {xs : List PyData} (h : Mild w p (.list xs)) : xs.length ≤ w := by
  have h1 := h.w
  have := weightAll_len xs
  simp only [PyData.weight] at h1
  omega
/-! ### the items of data -/
section
variable {K : PySem.W.Frag} {H : Hp}
theorem Dts.len : ∀ {xs : List V} {ds : List PyData}, Dts K H xs ds → xs.length = ds.length
  | _, _, .nil => rfl
  | _, _, .cons _ h => by rw [List.length_cons, List.length_cons, h.len]
theorem Dts.at : ∀ {xs : List V} {ds : List PyData}, Dts K H xs ds → ∀ {i : Nat} {d : PyData}, ds[i]? = some d → ∃ x, xs[i]? = some x ∧ Dt K H x d
  | _, _, .nil, i, d, h => by cases h
  | _, _, .cons (v := v) h1 h2, 0, d, h => ⟨v, rfl, by cases h; exact h1⟩
  | _, _, .cons h1 h2, i + 1, d, h => h2.at (i := i) (by simpa using h)
theorem Dts.app : ∀ {xs ys : List V} {ds es : List PyData}, Dts K H xs ds → Dts K H ys es → Dts K H (xs ++ ys) (ds ++ es)
  | _, _, _, _, .nil, h => h
  | _, _, _, _, .cons h1 h2, h => .cons h1 (h2.app h)
theorem Dts.drop : ∀ {xs : List V} {ds : List PyData} (n : Nat), Dts K H xs ds → Dts K H (xs.drop n) (ds.drop n)
  | _, _, 0, h => h
  | _, _, _ + 1, .nil => .nil
  | _, _, n + 1, .cons _ h => h.drop n
theorem Dts.take : ∀ {xs : List V} {ds : List PyData} (n : Nat), Dts K H xs ds → Dts K H (xs.take n) (ds.take n)
  | _, _, 0, h => .nil
  | _, _, _ + 1, .nil => .nil
  | _, _, n + 1, .cons h1 h => .cons h1 (h.take n)
end
end Gd

namespace HT
open PySem PySem.Spec PyProof.Rows L2
section
variable {prog : Program} {w : World} {A : Around} {E : Value → Shared → Prop} {s : Shared}
theorem adjust_rev (n : Nat) : Builtin.Slice.sliceAdjust none none (-1) (n : Int) = ((n : Int) - 1, -1) := by
  first
    | rfl
    | simp [Builtin.Slice.sliceAdjust]
theorem places_rev (n : Nat) : Builtin.Slice.slicePlaces ((n : Int) - 1) (-1) (-1) = n := by
  unfold Builtin.Slice.slicePlaces
  simp
  split <;> omega
theorem sliceApplied_rev {sl : Addr} {vl vu vs : Value} {n : Nat} {Q : Int × Int × Nat → Shared → Prop} (hs : s.heap.IsSliceOf sl vl vu vs) (pl : IsPart vl none) (pu : IsPart vu none) (ps : IsPart vs (some (-1)))
    (h : Q ((n : Int) - 1, -1, n) s) : wpAny (model prog w) A (Builtin.Slice.sliceApplied (.ref sl) (pure (n : Int))) Q E s := by
  obtain ⟨os, hos, hcs, hds⟩ := id hs
  unfold Builtin.Slice.sliceApplied Builtin.Slice.sliceFields
  refine wpAny_bind (wpAny_bind (wpAny_field hos hds (x := vl) rfl (wpAny_bind (wpAny_field hos hds (x := vu) rfl (wpAny_bind (wpAny_field hos hds (x := vs) rfl (wpAny_pure ?_)))))))
  refine wpAny_bind (slicePart_ ps ?_)
  show wpAny _ _ (if ((-1 : Int) == 0) = true then _ else _) _ _ s
  rw [if_neg (by decide)]
  refine wpAny_bind (slicePart_ pl (wpAny_bind (slicePart_ pu (wpAny_bind (wpAny_pure ?_)))))
  show wpAny _ _ (match Builtin.Slice.sliceAdjust none none (-1) (n : Int) with | (lo, hi) => pure (lo, (-1 : Int), Builtin.Slice.slicePlaces lo hi (-1))) _ _ s
  rw [adjust_rev n]
  show wpAny _ _ (pure ((n : Int) - 1, (-1 : Int), Builtin.Slice.slicePlaces ((n : Int) - 1) (-1) (-1))) _ _ s
  rw [places_rev]
  exact wpAny_pure h
theorem filterMap_some {α β : Type} {f : α → Option β} {g : α → β} : ∀ l : List α, (∀ m ∈ l, f m = some (g m)) → l.filterMap f = l.map g
  | [], _ => rfl
  | x :: l, h => by
    rw [List.filterMap_cons, h x List.mem_cons_self, List.map_cons]
    show g x :: l.filterMap f = _
    rw [filterMap_some l fun m hm => h m (List.mem_cons_of_mem _ hm)]
theorem pick_rev (xs : Array Value) : ((List.range xs.size).filterMap fun (m : Nat) => xs[(((xs.size : Int) - 1) + (m : Int) * (-1)).toNat]?).toArray = xs.toList.reverse.toArray := by
  congr 1
  have e : ∀ m ∈ List.range xs.size, xs[(((xs.size : Int) - 1) + (m : Int) * (-1)).toNat]? = some (xs.toList.reverse.getD m .none) := by
    intro m hm
    have hm' := List.mem_range.mp hm
    have e1 : (((xs.size : Int) - 1) + (m : Int) * (-1)).toNat = xs.size - 1 - m := by omega
    rw [e1, List.getD_eq_getElem?_getD, List.getElem?_reverse (by rw [Array.length_toList]; exact hm'), Array.length_toList]
    rw [Array.getElem?_toList, Array.getElem?_eq_getElem (by omega)]
    rfl
  rw [filterMap_some _ e]
  have := Gd.range_getD Value.none xs.toList.reverse
  rw [List.length_reverse, Array.length_toList] at this
  exact this
theorem getItem_tuple_rev {t sl : Addr} {items : Array Value} {vl vu vs : Value} {Q : Value → Shared → Prop} (ht : IsTup s.heap t items) (hs : s.heap.IsSliceOf sl vl vu vs) (pl : IsPart vl none) (pu : IsPart vu none) (ps : IsPart vs (some (-1)))
    (h : Q (.ref s.heap.objs.size) { s with heap := s.heap.push { cls := .type "tuple", data := .seq items.toList.reverse.toArray } })
    (hsz : items.size ≤ sizeLine) : wpAny (model prog w) A (getItem (.ref t) (.ref sl)) Q E s := by
  have htake : sizeOk (.seq items.toList.reverse.toArray) := by
    show items.toList.reverse.toArray.size ≤ sizeLine
    rw [List.size_toArray, List.length_reverse, Array.length_toList]
    exact hsz
  obtain ⟨os, hos, hcs, hds⟩ := id hs
  have hTs : s.TypeIs (.ref sl) "slice" := ⟨os, hos, hcs⟩
  unfold getItem
  try with_reducible refine wpAny_holding ?_
  first | refine wpAny_bind (wpAny_pure ?_) | skip
  refine wpAny_bind (wpAny_sequenceKey ht.typeIs (by decide) ?_)
  refine wpAny_bind (wpAny_callSpecial?_slot (name := Str.ofString "__getitem__") ht.typeIs PyProof.Rows.slot_tuple_getitem
    (wpAny_call_entry PyProof.Rows.slot_tuple_getitem ht.typeIs entry_tuple_getitem ?_ (args_tuple_getitem _ _)))
  show wpAny _ _ (Builtin.Tuple.tupleItemsOf (.ref t) >>= _) _ _ s
  refine wpAny_bind (tupleItemsOf_ ht ?_)
  refine wpAny_bind (wpAny_typeOf hTs ?_)
  rw [if_pos (by decide)]
  refine wpAny_bind (sliceApplied_rev hs pl pu ps ?_)
  have hno : ¬ ((((items.size : Int) - 1) == 0 && (-1 : Int) == 1 && items.size == items.size) = true) := by
    intro q
    rw [Bool.and_eq_true, Bool.and_eq_true] at q
    exact absurd q.1.2 (by decide)
  show wpAny _ _ (if (((items.size : Int) - 1) == 0 && (-1 : Int) == 1 && items.size == items.size) = true then _ else _) _ _ s
  rw [if_neg hno, pick_rev]
  first
    | exact wpAny_bind (m := Builtin.Tuple.tupleExact _) (wpAny_newObj_type (wpAny_pure ⟨_, rfl, wpAny_pure h⟩) htake)
    | exact wpAny_bind (m := Builtin.Tuple.tupleExact _) (wpAny_newObj_type (wpAny_bind (wpAny_pure (wpAny_pure ⟨_, rfl, wpAny_pure h⟩))) htake)
    | exact wpAny_bind (wpAny_bind (m := Builtin.Tuple.tupleExact _) (wpAny_newObj_type (wpAny_pure (wpAny_pure ⟨_, rfl, wpAny_pure h⟩)) htake))
    | exact wpAny_bind (wpAny_bind (m := Builtin.Tuple.tupleExact _) (wpAny_newObj_type (wpAny_pure ⟨_, rfl, wpAny_pure h⟩) htake))
end
end HT
namespace Gd
open PySem PySem.Spec PyProof.Rows L2
section
variable {X : Cx} {K : PySem.W.Frag} {σ : L2.St} {H : Hp} {Q : VK} {te : TE}
/-- t[::-1] of a tuple: a new one -/
def tRevT (K : PySem.W.Frag) (te : TE) : TE := fun σ H Q => te σ H fun x H1 => ∃ a xs, x = .ref a ∧ SqT K H1 a xs ∧ ∀ p, H1 p = none → Q (.ref p) (upd H1 p (.tup xs.reverse))
theorem pe_revT {e : Expr} {te : TE} {k : Nat} {p1 p2 p3 pos : Pos} (he : PE X e te) : PE X (.Subscript e (.Slice none none (some (.UnaryOp .USub (.Constant (.int 1) k p1) p2)) p3) pos) (tRevT X.K te) := by
  refine ⟨fun pins s σ H Q I h => ?_⟩
  refine Subscript_ (thn (he.run pins s σ H _ I h) fun v s1 ⟨x, H1, I1, r1, q1⟩ => ?_)
  obtain ⟨a, xs, ex, hx, q⟩ := q1
  subst ex
  cases r1
  have hst : PO X (some (.UnaryOp .USub (.Constant (.int 1) k p1) p2)) (tPart (tUn (rU fun i => .int (-i)) (tC (.int 1)))) := po_some (pe_un un_neg pe_int)
  refine wpAny_Slice (thn (po_none.run pins s1 σ H1 (fun o H2 => o = none ∧ H2 = H1) I1 ⟨rfl, rfl⟩) fun vl s2 ⟨l, H2, I2, pl, el, e2⟩ => ?_)
  subst el e2
  refine thn (po_none.run pins s2 σ H2 (fun o H3 => o = none ∧ H3 = H2) I2 ⟨rfl, rfl⟩) fun vu s3 ⟨u, H3, I3, pu, eu, e3⟩ => ?_
  subst eu e3
  refine thn (hst.run pins s3 σ H3 (fun o H4 => o = some (-1) ∧ H4 = H3) I3 ⟨1, rfl, -1, rfl, rfl, rfl⟩) fun vs s4 ⟨o, H4, I4, ps, eo, e4⟩ => ?_
  subst eo e4
  have I5 : Inv X pins σ H4 { s4 with heap := s4.heap.push { cls := .type "slice", data := .fields #[vl, vu, vs] } } := I4.kept (t' := s4.toks) fun b ob q => Heap.get?_push_of_some _ q
  obtain ⟨its, r, ht, hz⟩ := I5.tuple hx
  have hlen := r.length
  show wpAny (model X.prog X.w) X.A (subscriptTail e (.Slice none none (some (.UnaryOp .USub (.Constant (.int 1) k p1) p2)) p3) (.ref a) (.ref s4.heap.objs.size)) (EP X pins σ Q) X.xe { s4 with heap := s4.heap.push { cls := .type "slice", data := .fields #[vl, vu, vs] } }
  refine tail_any (ops := [.ref a, .ref s4.heap.objs.size]) ht.typeIs (PyProof.Rows.slot_tuple_getitem.lookup) ?_ (by with_unfolding_all rfl)
  refine HT.getItem_tuple_rev ht (Heap.IsSliceOf.new _ vl vu vs) pl pu ps ?_ (by rw [List.size_toArray]; omega)
  refine ⟨.ref _, _, I5.laid (t' := s4.toks) (o := .tup xs.reverse) (fun b ob q => Heap.get?_push_of_some _ q) (Nat.le_refl _) ?_, rfl, q _ (I5.hok.fresh (Nat.le_refl _))⟩
  exact ⟨by rw [List.length_reverse]; exact hz, _, r.reverse, IsTup.new _ _⟩
theorem i_revT (k : te σ H fun x H1 => ∃ a xs, x = .ref a ∧ SqT K H1 a xs ∧ ∀ p, H1 p = none → Q (.ref p) (upd H1 p (.tup xs.reverse))) : tRevT K te σ H Q := k
end
end Gd

namespace Gd
open PySem PySem.Spec PyProof.Rows L2
section
variable {K : PySem.W.Frag} {H : Hp} {b p : Addr} {xs ys : List V}
theorem hid_tup (hb : H b = some (.lst ys)) (h : SqT K H p xs) : SqT K (hid b H) p xs := by
  rcases h with h | h
  · refine .inl ?_
    have ne : p ≠ b := by
      rintro rfl
      rcases h with h | ⟨o, h⟩
      · rw [hb] at h
        cases h
      · rw [hb] at h
        cases h
    rcases h with h | ⟨o, h⟩
    · exact .inl (by rw [hid_ne ne]; exact h)
    · exact .inr ⟨o, by rw [hid_ne ne]; exact h⟩
  · exact .inr h
theorem hid_lst (ne : p ≠ b) (h : H p = some (.lst xs)) : SqL K (hid b H) p xs := SqL.lst (by rw [hid_ne ne]; exact h)
end
theorem sIx_nat (n k d : Nat) : HT.sIx n d (some (k : Int)) = min k n := by
  unfold HT.sIx
  simp
  try omega
theorem cutT (xs : List V) (k : Nat) : cutV xs none (some (k : Int)) = xs.take k := by
  unfold cutV
  have e : HT.sIx xs.length 0 none = 0 := rfl
  rw [e, sIx_nat, List.drop_zero, Nat.sub_zero]
  by_cases h : k ≤ xs.length
  · rw [Nat.min_eq_left h]
  · rw [Nat.min_eq_right (by omega), List.take_of_length_le (Nat.le_refl _), List.take_of_length_le (by omega)]
theorem cutD (xs : List V) (k : Nat) : cutV xs (some (k : Int)) none = xs.drop k := by
  unfold cutV
  have e : HT.sIx xs.length xs.length none = xs.length := rfl
  rw [e, sIx_nat]
  by_cases h : k ≤ xs.length
  · rw [Nat.min_eq_left h, List.take_of_length_le (by rw [List.length_drop]; omega)]
  · rw [Nat.min_eq_right (by omega), Nat.sub_self, List.take_zero, List.drop_eq_nil_of_le (by omega)]
theorem weightAll_app : ∀ xs ys : List PyData, PyData.weightAll (xs ++ ys) = PyData.weightAll xs + PyData.weightAll ys
  | [], ys => by simp [PyData.weightAll]
  | x :: r, ys => by
    simp only [List.cons_append, PyData.weightAll]
    rw [weightAll_app r ys]
    omega
theorem weightAll_take (n : Nat) (xs : List PyData) : PyData.weightAll (xs.take n) ≤ PyData.weightAll xs := by
  conv => rhs; rw [← List.take_append_drop n xs]
  rw [weightAll_app]
  omega
theorem weightAll_drp (n : Nat) (xs : List PyData) : PyData.weightAll (xs.drop n) ≤ PyData.weightAll xs := by
  conv => rhs; rw [← List.take_append_drop n xs]
  rw [weightAll_app]
  omega
theorem weightAll_td (n m : Nat) (h : n ≤ m) (xs : List PyData) : PyData.weightAll (xs.take n) + PyData.weightAll (xs.drop m) ≤ PyData.weightAll xs := by
  conv => rhs; rw [← List.take_append_drop n xs]
  rw [weightAll_app]
  have e : xs.drop m = (xs.drop n).drop (m - n) := by
    rw [List.drop_drop]
    congr 1
    omega
  rw [e]
  have := weightAll_drp (m - n) (xs.drop n)
  omega
theorem weightAll_rev : ∀ xs : List PyData, PyData.weightAll xs.reverse = PyData.weightAll xs
  | [] => rfl
  | x :: r => by
    rw [List.reverse_cons, weightAll_app, weightAll_rev r]
    simp only [PyData.weightAll]
    omega
theorem mildT {w p : Nat} {xs : List PyData} (h : ∀ x ∈ xs, Mild w p x) (hw : PyData.weightAll xs ≤ w) : Mild w (p + 1) (.tuple xs) :=
  ⟨by simp only [tame]; exact tames_iff.mpr fun x hx => (h x hx).t, by simp only [PyData.weight]; exact hw,
    by simp only [PyData.depth]; exact Nat.add_le_add_right (depths_le fun x hx => (h x hx).p) 1, by simp only [PyData.hasDict]; exact hasDicts_iff.mpr fun x hx => (h x hx).n⟩
theorem mildL {w p : Nat} {xs : List PyData} (h : ∀ x ∈ xs, Mild w p x) (hw : PyData.weightAll xs ≤ w) : Mild w (p + 1) (.list xs) :=
  ⟨by simp only [tame]; exact tames_iff.mpr fun x hx => (h x hx).t, by simp only [PyData.weight]; exact hw,
    by simp only [PyData.depth]; exact Nat.add_le_add_right (depths_le fun x hx => (h x hx).p) 1, by simp only [PyData.hasDict]; exact hasDicts_iff.mpr fun x hx => (h x hx).n⟩
theorem cd_joinP : ∀ ys : List Str, (∀ y ∈ ys, ∀ c ∈ cd y, c < 128) → (Txt.join ("+" : Str) ys).length ≤ PyData.weightAll (ys.map .str) ∧ ∀ c ∈ cd (Txt.join ("+" : Str) ys), c < 128 := by
  intro ys
  rw [TL.join_eq]
  induction ys with
  | nil => exact fun _ => ⟨Nat.zero_le _, fun c hc => by cases hc⟩
  | cons x r ih =>
    intro h
    have hx := h x List.mem_cons_self
    have hr := ih fun y hy => h y (List.mem_cons_of_mem _ hy)
    cases r with
    | nil =>
      refine ⟨?_, hx⟩
      show x.cps.size ≤ _
      simp only [List.map_cons, List.map_nil, PyData.weightAll, PyData.weight]
      omega
    | cons y r =>
      refine ⟨?_, ?_⟩
      · show (x ++ ("+" : Str) ++ Str.join ("+" : Str) (y :: r)).length ≤ _
        rw [len_app, len_app]
        have h1 := hr.1
        have h2 : ("+" : Str).length = 1 := rfl
        rw [List.map_cons]
        show _ ≤ (PyData.str x).weight + 1 + PyData.weightAll ((y :: r).map PyData.str)
        have h3 : (PyData.str x).weight = x.length := by simp only [PyData.weight]; rfl
        omega
      · intro c hc
        have hc' : c ∈ cd (x ++ ("+" : Str) ++ Str.join ("+" : Str) (y :: r)) := hc
        rw [cd_app, cd_app] at hc'
        rcases List.mem_append.mp hc' with hc' | hc'
        · rcases List.mem_append.mp hc' with hc' | hc'
          · exact hx c hc'
          · rw [List.mem_singleton.mp hc']
            decide
        · exact hr.2 c hc'
theorem sum_le_weight : ∀ ys : List Str, (ys.map (·.length)).sum + ys.length ≤ PyData.weightAll (ys.map .str)
  | [] => Nat.zero_le _
  | y :: r => by
    have := sum_le_weight r
    simp only [List.map_cons, List.sum_cons, List.length_cons, PyData.weightAll, PyData.weight]
    have e : y.length = y.cps.size := rfl
    omega
end Gd

namespace Gd
open PySem PySem.Spec PyProof.Rows L2
/-! ### sep.join, by name -/
def rJoin (K : PySem.W.Frag) : V → List V → Hp → VK → Prop := fun x xs H Q => ∃ a p, ∃ ys : List Str, x = .str a ∧ xs = [.ref p] ∧ (SqL K H p (ys.map V.str) ∨ SqT K H p (ys.map V.str)) ∧
  (ys.map (·.length)).sum + ys.length * a.length ≤ 16777216 ∧ Q (.str (Txt.join a ys)) H
section
variable {X : Cx} {K : PySem.W.Frag} {o e : Expr} {to te : TE} {H : Hp} {Q : VK} {a : Str} {p : Addr} {ys : List Str}
theorem pe_joinS {apos pos : Pos} (ho : PE X o to) (he : PE X e te) (hs : starEach [e] X.env = [(false, eval e X.env)] := by rfl) (hbase : attributeBase o "join" X.env (eval o X.env) = eval o X.env := by rfl) (hline : (apos.endLine == pos.line) = true := by rfl) :
    PE X (.Call (.Attribute o "join" apos) [e] [] pos) (tM1 (rJoin X.K) to te) := pe_join ho he hs hbase hline
theorem pe_joinSK (hK : X.K = K) {apos pos : Pos} (ho : PE X o to) (he : PE X e te) (hs : starEach [e] X.env = [(false, eval e X.env)] := by rfl) (hbase : attributeBase o "join" X.env (eval o X.env) = eval o X.env := by rfl) (hline : (apos.endLine == pos.line) = true := by rfl) :
    PE X (.Call (.Attribute o "join" apos) [e] [] pos) (tM1 (rJoin K) to te) := hK ▸ pe_joinS ho he hs hbase hline
theorem i_joinL (h : SqL K H p (ys.map V.str)) (hz : (ys.map (·.length)).sum + ys.length * a.length ≤ 16777216) (q : Q (.str (Txt.join a ys)) H) : rJoin K (.str a) [.ref p] H Q := ⟨a, p, ys, rfl, rfl, .inl h, hz, q⟩
theorem i_joinT (h : SqT K H p (ys.map V.str)) (hz : (ys.map (·.length)).sum + ys.length * a.length ≤ 16777216) (q : Q (.str (Txt.join a ys)) H) : rJoin K (.str a) [.ref p] H Q := ⟨a, p, ys, rfl, rfl, .inr h, hz, q⟩
end
/-- a list of tuples of words -/
def Parts (K : PySem.W.Frag) (H : Hp) (a : Addr) (tss : List (List Str)) : Prop := ∃ qs : List Addr, SqL K H a (qs.map V.ref) ∧ qs.length = tss.length ∧ ∀ (i : Nat) (q : Addr) (ts : List Str), qs[i]? = some q → tss[i]? = some ts → SqT K H q (ts.map V.str)
theorem Parts.same {K : PySem.W.Frag} {H H' : Hp} {a : Addr} {tss : List (List Str)} (h : Parts K H a tss) (e : Same H H') : Parts K H' a tss := by
  obtain ⟨qs, h1, h2, h3⟩ := h
  exact ⟨qs, e.seq h1, h2, fun i q ts a b => Same.tup e (h3 i q ts a b)⟩
end Gd

namespace Gd
open PySem PySem.Spec PyProof.Rows L2
/-! ### own errors: made without arguments, isinstance of a caught one -/
section
variable {X : Cx}
theorem pmk_own0 {C : Addr} {bmB : List Value} {B newId initId : String} {x : Str} {p pos : Pos} (F : ExcBaseFacts B newId initId bmB) (q : PySem.W.excIn X.K C bmB newId = true) (gC : X.mg x = some (.ref C)) (kC : PySem.W.keepIn X.K (.ref C) = true) (r : Raises X (.ref C)) (hg : Gl X x)
    (hdb : (x == ("__debug__" : Str)) = false := by decide) : PMk X (.Call (.Name x p) [] [] pos) (fun _ H Q => Q (.ref C) none H) := by
  intro pins s σ H Q I h
  refine wpAny_Call_Name_kw (ld_glob I hg gC ?_ hdb)
  refine PySem.W.callWith_K0 I.kIn kC ?_
  obtain ⟨bm, N, nm, qn, bs, hdct, sn, sub, ab, col, dd, k0, k1, k2, k3, k5, mN, hC, hN, hni, T⟩ := exc_obj I.kIn q
  refine wpAny_call_exc_subT F T hC hN hni (fun h' e hm => ?_) (Nat.zero_le _)
  exact mk_of I hm r h (I.hok.gone hm.new)
/-- isinstance(e, c), e the exception that the suite holds, whose class is told -/
def rIsEg (K : PySem.W.Frag) (a : Addr) (cls : Value) (d : Option Addr) : List V → Hp → VK → Prop := fun xs H Q => ∃ (c : V) (cv : Value) (b : Bool) (D : Addr), xs = [.ref a, c] ∧ cls = .ref D ∧ d = none ∧ ExcC K D ∧ (∀ u, RelV c u → u = cv) ∧ PySem.W.kitOne K (.ref D) cv = some b ∧ Q (.bl b) H
theorem inst_at {a D : Addr} {cls : Value} {d : Option Addr} {oe : Obj} {pn pins : List (Addr × Obj)} {σ : L2.St} {H : Hp} {s : Shared} (I : Inv (X.suite a ((a, oe) :: pn)) pins σ H s) (hz : Zc cls d oe) (hf : ∃ vs, oe.data = .fields vs) (e1 : cls = .ref D) (e2 : d = none) : PySem.W.InstAt s.heap a oe D none := by
  subst e1 e2
  obtain ⟨hget, _⟩ := I.pin (a, oe) (List.mem_append.mpr (.inl List.mem_cons_self))
  obtain ⟨vs, hv⟩ := hf
  obtain ⟨oc, od, oda, osl⟩ := oe
  obtain ⟨h1, h2⟩ := hz
  dsimp only at h1 h2 hv
  subst h1 h2 hv
  exact ⟨hget, rfl, rfl, trivial⟩
theorem call_isEg {a : Addr} {cls : Value} {d : Option Addr} {oe : Obj} {pn : List (Addr × Obj)} (hz : Zc cls d oe) (hf : ∃ vs, oe.data = .fields vs) : CallR (X.suite a ((a, oe) :: pn)) (.builtin "isinstance") (rIsEg X.K a cls d) := by
  intro pins s σ H xs us Q I r h
  obtain ⟨c, cv, b, D, rfl, e1, e2, C, hcv, e, q⟩ := h
  obtain ⟨u1, u2, rfl, rx, rt⟩ := vals2 r
  cases rx
  have ec := hcv _ rt
  subst ec
  have J := inst_at I hz hf e1 e2
  exact PySem.W.kia_one (PySem.W.handS_kitx_exc C.hg C.hk C.hs C.hd C.ha C.hn C.ht C.hm) I.kIn J e (fun z => nomatch z) fun tk => ⟨.bl b, H, I.kept (t' := tk) fun _ _ z => z, rfl, q⟩
/-- .. (c, ..), a tuple of own classes -/
def rIsEt (K : PySem.W.Frag) (a : Addr) (cls : Value) (d : Option Addr) : List V → Hp → VK → Prop := fun xs H Q => ∃ (tp : Addr) (cs : List Addr) (b : Bool) (D : Addr), xs = [.ref a, .ref tp] ∧ SqT K H tp (cs.map V.ref) ∧ cls = .ref D ∧ d = none ∧ ExcC K D ∧ PySem.W.kitAny K (.ref D) (cs.map Value.ref) = some b ∧ Q (.bl b) H
theorem vals_refs : ∀ {cs : List Addr} {us : List Value}, Vals (cs.map V.ref) us → us = cs.map Value.ref
  | [], _, h => by cases h; rfl
  | c :: cs, _, h => by
    cases h with
    | cons h1 h2 =>
      cases h1
      rw [vals_refs h2]
      rfl
theorem call_isEt {a : Addr} {cls : Value} {d : Option Addr} {oe : Obj} {pn : List (Addr × Obj)} (hz : Zc cls d oe) (hf : ∃ vs, oe.data = .fields vs) : CallR (X.suite a ((a, oe) :: pn)) (.builtin "isinstance") (rIsEt X.K a cls d) := by
  intro pins s σ H xs us Q I r h
  obtain ⟨tp, cs, b, D, rfl, hs, e1, e2, C, e, q⟩ := h
  obtain ⟨u1, u2, rfl, rx, rt⟩ := vals2 r
  cases rx
  cases rt
  have J := inst_at I hz hf e1 e2
  obtain ⟨its, rv, ⟨⟨cl, dd, data, sl⟩, ho, hc, n, hd⟩, _⟩ := I.tuple hs
  simp only at hc hd
  subst hc hd
  have ei := vals_refs rv
  subst ei
  exact PySem.W.kia_tup (PySem.W.handS_kitx_exc C.hg C.hk C.hs C.hd C.ha C.hn C.ht C.hm) I.kIn J ho e (fun z => nomatch z) fun tk => ⟨.bl b, H, I.kept (t' := tk) fun _ _ z => z, rfl, q⟩
end
/-- an own error class, by the written part -/
structure OwnE (K : PySem.W.Frag) (mg : Str → Option Value) (x : Str) (C : Addr) : Prop where
  g : mg x = some (.ref C)
  k : PySem.W.keepIn K (.ref C) = true
  b : PySem.W.subIn K (.ref C) (.type "BaseException") = some true
  t : PySem.W.typeIn K (.ref C) = some (.type "type")
  h : PySem.W.hasDictIn K C = true
section
variable {K : PySem.W.Frag} {mg : Str → Option Value} {x : Str} {C D : Addr} {b : Bool}
theorem OwnE.exm (E : OwnE K mg x C) (s : PySem.W.subIn K (.ref D) (.ref C) = some b) : PySem.W.exmOne K (.ref D) (.ref C) = some b := PySem.W.exm_ref E.b E.h E.t s
theorem OwnE.kit (E : OwnE K mg x C) (ss : PySem.W.subIn K (.ref D) (.ref D) = some true) (s : PySem.W.subIn K (.ref D) (.ref C) = some b) : PySem.W.kitOne K (.ref D) (.ref C) = some b := by
  unfold PySem.W.kitOne
  by_cases e : D = C
  · subst e
    rw [ss] at s
    rw [if_pos (by simp)]
    exact s
  · rw [if_neg (by simpa using e)]
    obtain ⟨cd, hc, _⟩ := PySem.W.any_some E.h
    show (if ((PySem.W.clsIn K C).isSome && PySem.W.typeIn K (.ref C) == some (.type "type")) = true then PySem.W.subIn K (.ref D) (.ref C) else none) = some b
    have e2 : ((PySem.W.clsIn K C).isSome && PySem.W.typeIn K (.ref C) == some (.type "type")) = true := by rw [hc, E.t] <;> rfl
    rw [if_pos e2]
    exact s
theorem kit_ve (s : PySem.W.subIn K (.ref D) (.type "ValueError") = some b) : PySem.W.kitOne K (.ref D) (.type "ValueError") = some b := by
  unfold PySem.W.kitOne
  rw [if_neg (by simp)]
  show (if PySem.W.kitMeta "ValueError" = true then PySem.W.subIn K (.ref D) (.type "ValueError") else none) = some b
  rw [if_pos (show PySem.W.kitMeta "ValueError" = true from by decide +kernel)]
  exact s
end
section
variable {K : PySem.W.Frag} {H : Hp} {Q : VK} {a tp : Addr} {cls : Value} {d : Option Addr} {c : V} {cv : Value} {b : Bool} {D : Addr} {cs : List Addr}
theorem i_isEg (e1 : cls = .ref D) (e2 : d = none) (C : ExcC K D) (hcv : ∀ u, RelV c u → u = cv) (e : PySem.W.kitOne K (.ref D) cv = some b) (k : Q (.bl b) H) : rIsEg K a cls d [.ref a, c] H Q := ⟨c, cv, b, D, rfl, e1, e2, C, hcv, e, k⟩
theorem i_isEt (hs : SqT K H tp (cs.map V.ref)) (e1 : cls = .ref D) (e2 : d = none) (C : ExcC K D) (e : PySem.W.kitAny K (.ref D) (cs.map Value.ref) = some b) (k : Q (.bl b) H) : rIsEt K a cls d [.ref a, .ref tp] H Q := ⟨tp, cs, b, D, rfl, hs, e1, e2, C, e, k⟩
end
end Gd

namespace Gd
open PySem PySem.P
theorem args_sum2 (a b : Value) : argsOk "sum" ⟨[a, b], []⟩ := by unfold argsOk; kernel_rfl
section
variable {prog : Program} {w : World} {A : Around} {R : Result → Shared → Prop} {I ax S : Addr} {items : Array Value}
theorem sum_go (hh : A.handled = none) (ne1 : ax ≠ I) (ne2 : S ≠ I) (ne3 : S ≠ ax) (cs : Nat → List Value) :
    ∀ (k i : Nat) (s : Shared) (tot : Addr) (acc : List Value) (c m : Nat), items.size - i = k → i ≤ items.size → s.heap.IsListIter I ax i → s.heap.IsList ax items →
      (∀ j v, items[j]? = some v → ∃ b q, v = .ref b ∧ b ≠ S ∧ b ≠ I ∧ IsL s.heap b (cs j).toArray q) → tot ≠ S → tot ≠ I → IsL s.heap tot acc.toArray m →
      s.heap.get? S = some { cls := .type "list", dict := none, data := .seq #[.ref tot] c, slots := #[] } →
      acc.length + ((List.range' i k).map fun j => (cs j).length).sum ≤ sizeLine →
      (∀ s' p q, Moved [S, I] (fun a b => b = a) s s' → (k = 0 ∧ p = tot ∨ s.heap.get? p = none) → IsL s'.heap p (acc ++ ((List.range' i k).map cs).flatten).toArray q → R (.ok (.ret (.ref p))) s') →
      codeAny (model prog w) A (.builtin "sum.loop" ⟨[.ref I, .ref S, rawInt 2, rawInt 0], []⟩) R s := by
  have W := (Walks.list (prog := prog) (w := w) (A := A.in1) hh I ax ne1 items).toS
  intro k
  induction k with
  | zero =>
    intro i s tot acc c m hk hi hst1 hst2 hv t1 t2 ht hS hz hR
    have hin : i = items.size := by omega
    subst hin
    refine codeAny_builtin F.entry_sum_loop ?_
    rw [Around.under_plainId F.plain_sum_loop _]
    show wpAny _ A.in1 (seqItems? (.ref S) >>= _) _ _ s
    refine wpAny_bind (wpAny_seqItems hS rfl ?_)
    show wpAny _ A.in1 (tryCatch (pyNext (.ref I)) _ >>= _) _ _ s
    refine wpAny_bind (wpAny_tryCatch (W.done s _ _ ⟨hst1, hst2⟩ fun s' hm => ?_))
    refine wpAny_pure (hR s' tot m (hm.mono (by simp)) (.inl ⟨rfl, rfl⟩) ?_)
    have := hm.heap tot _ (by simp; exact t2) ht
    simpa using this
  | succ k ih =>
    intro i s tot acc c m hk hi hst1 hst2 hv t1 t2 ht hS hz hR
    have hlt : i < items.size := by omega
    refine codeAny_builtin F.entry_sum_loop ?_
    rw [Around.under_plainId F.plain_sum_loop _]
    show wpAny _ A.in1 (seqItems? (.ref S) >>= _) _ _ s
    refine wpAny_bind (wpAny_seqItems hS rfl ?_)
    show wpAny _ A.in1 (tryCatch (pyNext (.ref I)) _ >>= _) _ _ s
    refine wpAny_bind (wpAny_tryCatch (W.item i s _ _ hlt ⟨hst1, hst2⟩ fun v s' hP hst' hm => ?_))
    obtain ⟨b, q, rfl, b1, b2, hb⟩ := hv i v hP
    have keep : ∀ x o, x ≠ I → s.heap.get? x = some o → s'.heap.get? x = some o := fun x o hx e => hm.heap x o (by simpa using hx) e
    have hS' := keep S _ ne2 hS
    have ht' : IsL s'.heap tot acc.toArray m := keep tot _ t2 ht
    have hb' : IsL s'.heap b (cs i).toArray q := keep b _ b2 hb
    have er : List.range' i (k + 1) = i :: List.range' (i + 1) k := rfl
    rw [er, List.map_cons, List.sum_cons] at hz
    show wpAny _ A.in1 ((holding [Value.ref b] (binaryOp .Add (.ref tot) (.ref b))).attempt >>= _) _ _ _
    refine wpAny_bind (wpAny_attempt (wpAny_holding (PySem.P.add_list ht' hb' ?_ (by rw [List.size_toArray, List.size_toArray]; omega))))
    have eSz : S ≠ s'.heap.objs.size := Nat.ne_of_lt (Heap.lt_size hS')
    have hS1 : (s'.heap.push { cls := .type "list", data := .seq (acc.toArray ++ (cs i).toArray) }).get? S = some { cls := .type "list", dict := none, data := .seq #[.ref tot] c, slots := #[] } := Heap.get?_push_of_some _ hS'
    show wpAny _ A.in1 (updateSeq S (fun _ => #[.ref s'.heap.objs.size]) >>= _) _ _ _
    refine wpAny_bind (wpAny_updateSeq hS1 rfl ?_)
    have hS₂ := Heap.get?_update_self (Obj.mapSeq fun _ => #[Value.ref s'.heap.objs.size]) hS1 rfl
    refine wpAny_bind (wpAny_letGo ?_)
    have hI' : ∃ o, s'.heap.get? I = some o := by
      obtain ⟨h1, _⟩ := hst'
      obtain ⟨o, ho, _⟩ := h1
      exact ⟨o, ho⟩
    have eIz : I ≠ s'.heap.objs.size := by
      obtain ⟨o, ho⟩ := hI'
      exact Nat.ne_of_lt (Heap.lt_size ho)
    have kp : ∀ x o, x ≠ S → s'.heap.get? x = some o → ((s'.heap.push { cls := .type "list", data := .seq (acc.toArray ++ (cs i).toArray) }).update S (Obj.mapSeq fun _ => #[Value.ref s'.heap.objs.size])).get? x = some o := fun x o hx e =>
      (Heap.get?_update_other _ _ (Ne.symm hx)).trans (Heap.get?_push_of_some _ e)
    refine wpAny_bind (wpAny_updateSeq hS₂ rfl (wpAny_pure ⟨plainId_quiet F.plain_sum_loop _, ?_⟩))
    have kp2 : ∀ x o, x ≠ S → s'.heap.get? x = some o → (((s'.heap.push { cls := .type "list", data := .seq (acc.toArray ++ (cs i).toArray) }).update S (Obj.mapSeq fun _ => #[Value.ref s'.heap.objs.size])).update S (Obj.mapSeq fun _ => #[Value.ref s'.heap.objs.size])).get? x = some o := fun x o hx e =>
      (Heap.get?_update_other _ _ (Ne.symm hx)).trans (kp x o hx e)
    have newL : IsL (((s'.heap.push { cls := .type "list", data := .seq (acc.toArray ++ (cs i).toArray) }).update S (Obj.mapSeq fun _ => #[Value.ref s'.heap.objs.size])).update S (Obj.mapSeq fun _ => #[Value.ref s'.heap.objs.size])) s'.heap.objs.size (acc ++ cs i).toArray 0 := by
      have e : (acc ++ cs i).toArray = acc.toArray ++ (cs i).toArray := by simp
      rw [e]
      exact (Heap.get?_update_other _ _ eSz).trans ((Heap.get?_update_other _ _ eSz).trans (Heap.get?_push_size _ rfl))
    have W' := W.frame (i + 1) s' _ s'.toks hst' (Nat.le_refl _) (fun x hx o e => kp2 x o (by rintro rfl; simp at hx; rcases hx with hx | hx; exact ne2 hx; exact ne3 hx) e)
    refine ih (i + 1) _ s'.heap.objs.size (acc ++ cs i) _ 0 (by omega) hlt W'.1 W'.2 (fun j v hj => ?_) (Ne.symm eSz) (Ne.symm eIz) newL (Heap.get?_update_self _ hS₂ rfl) (by rw [List.length_append]; omega) fun s'' p q' hm'' hp hL => ?_
    · obtain ⟨b', q2, e, x1, x2, x3⟩ := hv j v hj
      exact ⟨b', q2, e, x1, x2, kp2 _ _ x1 (keep _ _ x2 x3)⟩
    · refine hR s'' p q' (Moved.trans W.gtrans ((hm.mono (by simp)).then_heap (Nat.le_refl _) fun x o hx e => ?_) hm'') (.inr ?_) ?_
      · exact kp2 x o (by rintro rfl; simp at hx) e
      · have none_of : ∀ x, (∀ o, s.heap.get? x = some o → False) → s.heap.get? x = none := fun x h => by
          cases e : s.heap.get? x with
          | none => rfl
          | some o => exact (h o e).elim
        refine none_of p fun o e => ?_
        have kk : ∃ o', s'.heap.get? p = some o' := by
          by_cases hx : p = I
          · rw [hx]
            exact hI'
          · exact ⟨o, keep p o hx e⟩
        obtain ⟨o', e'⟩ := kk
        rcases hp with ⟨_, rfl⟩ | hp
        · exact Nat.lt_irrefl _ (Heap.lt_size e')
        · by_cases hx : p = S
          · rw [hx] at hp
            have := (Heap.get?_update_self (Obj.mapSeq fun _ => #[Value.ref s'.heap.objs.size]) hS₂ rfl).symm.trans hp
            cases this
          · have := (kp2 p o' hx e').symm.trans hp
            cases this
      · rw [er, List.map_cons, List.flatten_cons, ← List.append_assoc]
        exact hL
end
end Gd
namespace Gd
open PySem PySem.P
section
variable {prog : Program} {w : World} {A : Around} {E : Value → Shared → Prop} {s : Shared} {ax m0 : Addr} {items : Array Value}
theorem sum_lists (hh : A.handled = none) (hl : s.heap.IsList ax items) (cs : Nat → List Value) (hv : ∀ j v, items[j]? = some v → ∃ b q, v = .ref b ∧ IsL s.heap b (cs j).toArray q) {k0 : Nat} (h0 : IsL s.heap m0 #[] k0)
    (hz : ((List.range items.size).map fun j => (cs j).length).sum ≤ sizeLine) {Q : Value → Shared → Prop}
    (hQ : ∀ h' tk p q, (∀ b o, s.heap.get? b = some o → h'.get? b = some o) → (items.size = 0 ∧ p = m0 ∨ s.heap.get? p = none) → IsL h' p ((List.range items.size).map cs).flatten.toArray q → Q (.ref p) { s with heap := h', toks := tk }) :
    wpAny (model prog w) A (call (.builtin "sum") [.ref ax, .ref m0]) Q E s := by
  refine call_function_tree F.kind_sum F.plain_sum F.entry_sum (args_sum2 _ _) ?_
  unfold Builtin.«sum»
  simp only [List.length_cons, List.length_nil]
  rw [if_neg (by decide)]
  refine wpAny_bind (wpAny_of_eq (show Builtin.Builtins.bindParams "sum" ["start"] 0 ⟨[.ref m0], []⟩ = pure [some (.ref m0)] from rfl) ?_)
  refine wpAny_bind (wpAny_pyIter_list hl ?_)
  have hT : ∀ {h' : Heap} {tk : Nat}, (∀ b o, s.heap.get? b = some o → h'.get? b = some o) → Shared.TypeIs { s with heap := h', toks := tk } (.ref m0) "list" := fun k => ⟨_, k _ _ h0, rfl⟩
  simp only [List.forIn_cons, List.forIn_nil]
  refine wpAny_bind (wpAny_pure ?_)
  refine wpAny_bind (wpAny_bind (wpAny_bind (wpAny_isInstance (T := "list") (b := false) (hT fun b o e => Heap.get?_push_of_some _ e) F.sub_list_str ?_)))
  simp only [Bool.false_eq_true, if_false]
  refine wpAny_pure (wpAny_bind (wpAny_bind (wpAny_isInstance (T := "list") (b := false) (hT fun b o e => Heap.get?_push_of_some _ e) F.sub_list_bytes ?_)))
  simp only [Bool.false_eq_true, if_false]
  refine wpAny_pure (wpAny_bind (wpAny_bind (wpAny_isInstance (T := "list") (b := false) (hT fun b o e => Heap.get?_push_of_some _ e) F.sub_list_bytearray ?_)))
  simp only [Bool.false_eq_true, if_false]
  refine wpAny_pure (wpAny_pure ?_)
  refine wpAny_bind (wpAny_newObj_type ?_)
  obtain ⟨ol, hol, hr⟩ := id hl
  have lt : ∀ b o, s.heap.get? b = some o → b < s.heap.objs.size := fun b o e => Heap.lt_size e
  have k1 : ∀ {x y : Obj} b o, s.heap.get? b = some o → ((s.heap.push x).push y).get? b = some o := fun b o e => Heap.get?_push_of_some _ (Heap.get?_push_of_some _ e)
  refine wpAny_pure ⟨plainId_quiet F.plain_sum_loop _, ?_⟩
  rw [show (s.heap.push _).objs.size = s.heap.objs.size + 1 from Heap.size_push _ _]
  refine sum_go hh (Nat.ne_of_lt (lt _ _ hol)) (Nat.succ_ne_self _) (Nat.ne_of_gt (Nat.lt_succ_of_lt (lt _ _ hol))) cs items.size 0 _ m0 [] 0 k0 rfl (Nat.zero_le _) ?_ (hl.at fun o e => k1 _ _ e) (fun j v hj => ?_) ?_ ?_ (k1 _ _ h0) ?_ ?_ fun s' p q hm hp hL => ?_
  · exact ⟨_, Heap.get?_push_of_some _ (Heap.get?_push_size _ rfl), rfl, rfl⟩
  · obtain ⟨b, q, e, hb⟩ := hv j v hj
    exact ⟨b, q, e, Nat.ne_of_lt (Nat.lt_succ_of_lt (lt _ _ hb)), Nat.ne_of_lt (lt _ _ hb), k1 _ _ hb⟩
  · exact Nat.ne_of_lt (Nat.lt_succ_of_lt (lt _ _ h0))
  · exact Nat.ne_of_lt (lt _ _ h0)
  · have := Heap.get?_push_size (s.heap.push { cls := .type "list_iterator", data := .fields #[.ref ax, rawInt 0] }) (o := { cls := .type "list", data := .seq #[.ref m0] 0 }) rfl
    rw [Heap.size_push] at this
    exact this
  · simpa [List.range_eq_range'] using hz
  · obtain ⟨h', g', d', tk', os'⟩ := s'
    have e1 : g' = s.gens := hm.gens
    have e2 : d' = s.drawn := hm.drawn
    have e3 : os' = s.os := hm.os
    subst e1 e2 e3
    refine hQ h' tk' p q (fun b o e => ?_) ?_ ?_
    · refine hm.heap b o (fun hx => ?_) (k1 _ _ e)
      rcases List.mem_cons.mp hx with hx | hx
      · exact Nat.ne_of_lt (Nat.lt_succ_of_lt (lt _ _ e)) hx
      · exact Nat.ne_of_lt (lt _ _ e) (List.mem_singleton.mp hx)
    · rcases hp with ⟨a, b⟩ | hp
      · exact .inl ⟨a, b⟩
      · refine .inr ?_
        cases e : s.heap.get? p with
        | none => rfl
        | some o =>
          have := (k1 _ _ e).symm.trans hp
          cases this
    · simpa [List.range_eq_range'] using hL
end
end Gd
namespace Gd
open PySem PySem.Spec PyProof.Rows L2
/-! ### sum(lists, []) -/
theorem vals_flat {f : Nat → List V} {g : Nat → List Value} : ∀ l : List Nat, (∀ j ∈ l, Vals (f j) (g j)) → Vals (l.map f).flatten (l.map g).flatten
  | [], _ => .nil
  | j :: l, h => by
    rw [List.map_cons, List.map_cons, List.flatten_cons, List.flatten_cons]
    exact (h j List.mem_cons_self).append (vals_flat l fun i hi => h i (List.mem_cons_of_mem _ hi))
theorem sum_flat {α : Type} : ∀ l : List (List α), (l.map (·.length)).sum = l.flatten.length
  | [] => rfl
  | x :: l => by rw [List.map_cons, List.sum_cons, List.flatten_cons, List.length_append, sum_flat l]
section
variable {X : Cx} {K : PySem.W.Frag} {H : Hp} {Q : VK}
def rSumL (K : PySem.W.Frag) : List V → Hp → VK → Prop := fun xs H Q => ∃ (l m : Addr) (qs : List Addr) (yss : List (List V)), xs = [.ref l, .ref m] ∧ SqL K H l (qs.map V.ref) ∧ qs.length = yss.length ∧ (∀ (i : Nat) (q : Addr) (ys : List V), qs[i]? = some q → yss[i]? = some ys → H q = some (.lst ys)) ∧
  H m = some (.lst []) ∧ yss.flatten.length ≤ sizeLine ∧ ∀ p H', Same H H' → SqL K H' p yss.flatten → Q (.ref p) H'
theorem call_sumL (hc : X.calm = true) : CallR X (.builtin "sum") (rSumL X.K) := by
  intro pins s σ H xs us Q I r h
  obtain ⟨l, m, qs, yss, rfl, hl, el, hq, hm, hz, q⟩ := h
  obtain ⟨u1, u2, rfl, r1, r2⟩ := vals2 r
  cases r1
  cases r2
  obtain ⟨its, rv, pl, _⟩ := I.list hl
  have ei := vals_refs rv
  subst ei
  obtain ⟨z0, its0, n0, rv0, _, e0⟩ := I.lstM hm
  cases rv0
  have hch : ∀ j : Nat, ∃ c : List Value, ∀ (a : Addr), qs[j]? = some a → (∃ n, PySem.IsL s.heap a c.toArray n) ∧ Vals (yss.getD j []) c := by
    intro j
    cases e : qs[j]? with
    | none => exact ⟨[], fun a h => by cases h⟩
    | some a =>
      have hj := (List.getElem?_eq_some_iff.mp e).1
      have ey : yss[j]? = some (yss[j]'(by omega)) := List.getElem?_eq_getElem (by omega)
      obtain ⟨_, c, n, rc, _, ec⟩ := I.lstM (hq j a _ e ey)
      refine ⟨c, fun b hb => ?_⟩
      cases hb
      exact ⟨⟨n, ec⟩, by rw [List.getD_eq_getElem?_getD, ey]; exact rc⟩
  obtain ⟨cs, hcs⟩ := Classical.axiomOfChoice hch
  have hsz : ((qs.map Value.ref).toArray).size = qs.length := by rw [List.size_toArray, List.length_map]
  have ef : ((List.range qs.length).map fun j => yss.getD j []) = yss := by
    rw [el]
    exact Gd.range_getD [] yss
  have hvl : ∀ j ∈ List.range qs.length, Vals (yss.getD j []) (cs j) := fun j hj => by
    have hj' := List.mem_range.mp hj
    exact (hcs j (qs[j]'hj') (List.getElem?_eq_getElem hj')).2
  have hf := vals_flat (List.range qs.length) hvl
  rw [ef] at hf
  have hlen := hf.length
  refine sum_lists (I.ok.hd hc) pl.isList cs (fun j v hj => ?_) e0 ?_ (fun h' tk p k keep hp hL => ?_)
  · rw [List.getElem?_toArray, List.getElem?_map] at hj
    cases e : qs[j]? with
    | none => rw [e] at hj; cases hj
    | some a =>
      rw [e] at hj
      cases hj
      obtain ⟨⟨n, hn⟩, _⟩ := hcs j a e
      exact ⟨a, n, rfl, hn⟩
  · rw [hsz]
    have e1 : ((List.range qs.length).map fun j => (cs j).length) = ((List.range qs.length).map cs).map (·.length) := by rw [List.map_map]; rfl
    rw [e1, sum_flat]
    omega
  · rw [hsz] at hp hL
    rcases hp with ⟨a, rfl⟩ | hp
    · have hy : yss = [] := List.eq_nil_of_length_eq_zero (by omega)
      subst hy
      exact ⟨.ref p, H, I.kept (t' := tk) keep, rfl, q p H (Same.refl _) (SqL.lst hm)⟩
    · have hn : H p = none := I.hok.gone hp
      exact ⟨.ref p, upd H p (.lst yss.flatten), I.laidN (t' := tk) keep hp hn ⟨hz, _, k, hf, hL⟩, rfl, q p _ (same_upd (Same.refl _) hn) (SqL.lst upd_same)⟩
theorem call_sumLK (h : X.K = K) (hc : X.calm = true) : CallR X (.builtin "sum") (rSumL K) := h ▸ call_sumL hc
theorem i_sumL {l m : Addr} {qs : List Addr} {yss : List (List V)} (hl : SqL K H l (qs.map V.ref)) (el : qs.length = yss.length) (hq : ∀ (i : Nat) (q : Addr) (ys : List V), qs[i]? = some q → yss[i]? = some ys → H q = some (.lst ys)) (hm : H m = some (.lst [])) (hz : yss.flatten.length ≤ sizeLine)
    (k : ∀ p H', Same H H' → SqL K H' p yss.flatten → Q (.ref p) H') : rSumL K [.ref l, .ref m] H Q := ⟨l, m, qs, yss, rfl, hl, el, hq, hm, hz, k⟩
end
end Gd

namespace Gd
open PySem PySem.Spec PyProof.Rows L2 CwR
/-! ### a token is out behind a written text -/
section
variable {X : Cx} {st : Stmt} {rest : List Stmt} {t u : TS} {e f : Expr} {te tf : TE} {pos : Pos}
/-- as PE; a token is out behind it -/
def PE1 (X : Cx) (e : Expr) (t : TE) : Prop :=
  ∀ (pins : List (Addr × Obj)) (s : Shared) (σ : L2.St) (H : Hp) (Q : VK), Inv X pins σ H s → t σ H Q → wpAny (model X.prog X.w) X.A (eval e X.env) (fun v s1 => 1 ≤ s1.toks ∧ EP X pins σ Q v s1) X.xe s
theorem pe1_str {x : Str} {j : Nat} {p : Pos} : PE1 X (.Constant (.str x) j p) (tC (.str x)) := fun pins s σ H Q I h => Calls.Constant_str ⟨by show 1 ≤ s.toks + 1; omega, .str x, H, I.tok _, ⟨_, rfl⟩, h⟩
theorem pe1_op {op : Operator} {r : R2} (ho : OpR X (binaryOp op) r) (ha : PE1 X e te) (hb : PE X f tf) : PE1 X (.BinOp e op f pos) (tOp r te tf) := by
  intro pins s σ H Q I h
  refine wpAny_BinOp (wpAny_mono (ha pins s σ H _ I h) (fun v s1 q => ?_) fun _ _ z => z)
  obtain ⟨hk, x, H1, I1, r1, q1⟩ := q
  refine wpAny_mono (PySem.wpAny_toks (hb.run pins s1 σ H1 _ I1 q1)) (fun w s2 q => ?_) fun _ _ z => z.2
  obtain ⟨hk2, y, H2, I2, r2, q2⟩ := q
  refine wpAny_mono (PySem.wpAny_toks (ho pins s2 σ H2 x y v w Q I2 r1 r2 q2)) (fun z s3 q => ?_) fun _ _ z => z.2
  exact ⟨Nat.le_trans (Nat.le_trans hk hk2) q.1, q.2⟩
/-- x = e, behind which a token is out -/
theorem pss_set1 {i : Nat} {x : Str} {pos' : Pos} (hN : X.N.Nodup) (hi : X.N[i]? = some x) (hx : Loc X.env.scope x) (he : PE1 X e te) (h2 : PSsT X rest u)
    (hs : swapsWith e (some (.Name x pos')) pos.line X.env = pure false := by rfl) (hf : X.fn x = true ∨ X.env.scope.names.lookup x = some .local := by first | exact .inl rfl | exact .inr rfl | assumption) :
    PSs X (.Assign [.Name x pos'] e pos :: rest) (tSeq (tAsg te (gName i)) u) := by
  refine ⟨fun pins s σ H D I h => ?_⟩
  refine wpAny_execs_cons (wpAny_Assign_Name (wpAny_mono (he pins s σ H _ I h) (fun v s1 q => ?_) fun _ _ z => z) hs)
  obtain ⟨hk, y, H1, I1, r1, q1⟩ := q
  refine wpAny_mono (PySem.wpAny_toks (store_ok (v := y) (u := v) (Q := fun _ s2 => Inv X pins (σ.set i (some y)) H1 s2) I1 hN hi hx r1 (fun _ I2 => I2) hf)) (fun _ s2 q => ?_) fun _ _ z => z.2
  exact h2 pins s2 _ H1 D (Nat.le_trans hk q.1) q.2 q1
/-- x = e, where a token is out -/
theorem pst_set {i : Nat} {x : Str} {pos' : Pos} (hN : X.N.Nodup) (hi : X.N[i]? = some x) (hx : Loc X.env.scope x) (he : PET X e te)
    (hs : swapsWith e (some (.Name x pos')) pos.line X.env = pure false := by rfl) (hf : X.fn x = true ∨ X.env.scope.names.lookup x = some .local := by first | exact .inl rfl | exact .inr rfl | assumption) :
    PST X (.Assign [.Name x pos'] e pos) (tAsg te (gName i)) := by
  intro pins s σ H D h0 I h
  refine wpAny_Assign_Name (thn (he pins s σ H _ h0 I h) fun v s1 ⟨y, H1, I1, r1, q1⟩ => ?_) hs
  exact store_ok (v := y) (u := v) I1 hN hi hx r1 (fun _ I2 => ⟨_, H1, I2, q1⟩) hf
theorem patO {es : List Expr} {ta : TA} (h : PA X es ta) : PAT X es ta := fun pos pins s σ H Q _ I q => h.run pos pins s σ H Q I q
theorem i_repl {to : TE} {y z : Str} {σ : L2.St} {H : Hp} {Q : VK} (k : to σ H fun v H1 => ∃ x, v = .str x ∧ x.length + (x.length + 1) * z.length ≤ 16777216 ∧ Q (.str (Txt.replace x y z)) H1) : tReplC to y z σ H Q := k
end
end Gd

namespace Gd
open PySem PySem.Spec PyProof.Rows L2
/-! ### texts cut at one sign -/
def wOf (ps : List (List Nat)) : Nat := (ps.map fun p => p.length + 1).sum
theorem spl1 (s : Nat) : ∀ (l acc : List Nat), TL.spl [s] 0 acc l ≠ [] ∧ wOf (TL.spl [s] 0 acc l) = acc.length + l.length + 1 ∧ ∀ p ∈ TL.spl [s] 0 acc l, ∀ c ∈ p, c ∈ acc ∨ c ∈ l
  | [], acc => by
    rw [TL.spl_nil]
    refine ⟨by simp, by simp [wOf], fun p hp c hc => ?_⟩
    rw [List.mem_singleton.mp hp] at hc
    exact .inl hc
  | x :: l, acc => by
    cases h : TL.pre [s] (x :: l) with
    | true =>
      rw [TL.spl_hit h]
      obtain ⟨h1, h2, h3⟩ := spl1 s l []
      refine ⟨by simp, ?_, fun p hp c hc => ?_⟩
      · show wOf (acc :: TL.spl [s] 0 [] l) = _
        unfold wOf at h2 ⊢
        rw [List.map_cons, List.sum_cons, h2, List.length_cons, List.length_nil]
        omega
      · rcases List.mem_cons.mp hp with rfl | hp
        · exact .inl hc
        · rcases h3 p hp c hc with h | h
          · cases h
          · exact .inr (List.mem_cons_of_mem _ h)
    | false =>
      rw [TL.spl_miss h]
      obtain ⟨h1, h2, h3⟩ := spl1 s l (acc ++ [x])
      refine ⟨h1, ?_, fun p hp c hc => ?_⟩
      · rw [h2, List.length_append, List.length_cons]
        simp only [List.length_nil, List.length_cons]
        omega
      · rcases h3 p hp c hc with h | h
        · rcases List.mem_append.mp h with h | h
          · exact .inl h
          · rw [List.mem_singleton.mp h]
            exact .inr List.mem_cons_self
        · exact .inr (List.mem_cons_of_mem _ h)
theorem split_facts (x y : Str) {s : Nat} (ey : cd y = [s]) (hs : y.cps.all (· < 256) = true) : Txt.split x y ≠ [] ∧ ((Txt.split x y).map fun p => p.length + 1).sum = x.length + 1 ∧ ∀ p ∈ Txt.split x y, ∀ c ∈ cd p, c ∈ cd x := by
  have e := TL.split_spl x y (by show cd y ≠ []; rw [ey]; simp) (TL.kind_ok hs)
  have e' : (Txt.split x y).map cd = TL.spl [s] 0 [] (cd x) := by
    have : TL.spl (TL.tl y) 0 [] (TL.tl x) = TL.spl [s] 0 [] (cd x) := by
      show TL.spl (cd y) 0 [] (cd x) = _
      rw [ey]
    rw [← this]
    exact e
  obtain ⟨h1, h2, h3⟩ := spl1 s (cd x) []
  refine ⟨fun z => ?_, ?_, fun p hp c hc => ?_⟩
  · rw [z] at e'
    exact h1 e'.symm
  · have e2 : ((Txt.split x y).map fun p => p.length + 1) = ((Txt.split x y).map cd).map fun p => p.length + 1 := by
      rw [List.map_map]
      apply List.map_congr_left
      intro p _
      show p.length + 1 = (cd p).length + 1
      rw [cd_len]
    rw [e2, e']
    have := h2
    unfold wOf at this
    rw [this, List.length_nil, cd_len]
    omega
  · rcases h3 (cd p) (by rw [← e']; exact List.mem_map.mpr ⟨p, hp, rfl⟩) c hc with h | h
    · cases h
    · exact h
theorem par1 (s : Nat) : ∀ (l acc a b : List Nat), TL.par [s] acc l = some (a, b) → a.length + b.length ≤ acc.length + l.length ∧ (∀ c ∈ a, c ∈ acc ∨ c ∈ l) ∧ ∀ c ∈ b, c ∈ l
  | [], acc, a, b, h => by
    unfold TL.par at h
    cases h
  | x :: l, acc, a, b, h => by
    cases hp : TL.pre [s] (x :: l) with
    | true =>
      rw [TL.par_hit hp] at h
      cases h
      refine ⟨?_, fun c hc => .inl hc, fun c hc => List.mem_of_mem_drop hc⟩
      rw [List.length_drop]
      omega
    | false =>
      rw [TL.par_miss hp] at h
      obtain ⟨h1, h2, h3⟩ := par1 s l (acc ++ [x]) a b h
      rw [List.length_append, List.length_singleton] at h1
      refine ⟨by rw [List.length_cons]; omega, fun c hc => ?_, fun c hc => List.mem_cons_of_mem _ (h3 c hc)⟩
      rcases h2 c hc with h | h
      · rcases List.mem_append.mp h with h | h
        · exact .inl h
        · rw [List.mem_singleton.mp h]
          exact .inr List.mem_cons_self
      · exact .inr (List.mem_cons_of_mem _ h)
theorem partition_facts (x y : Str) {s : Nat} (ey : cd y = [s]) : (Txt.partition x y).1.length + (Txt.partition x y).2.2.length ≤ x.length ∧ (∀ c ∈ cd (Txt.partition x y).1, c ∈ cd x) ∧ ∀ c ∈ cd (Txt.partition x y).2.2, c ∈ cd x := by
  rw [TL.partition_par x y (by show cd y ≠ []; rw [ey]; simp)]
  have e : TL.par (TL.tl y) [] (TL.tl x) = TL.par [s] [] (cd x) := by
    show TL.par (cd y) [] (cd x) = _
    rw [ey]
  rw [e]
  cases h : TL.par [s] [] (cd x) with
  | none => exact ⟨by show x.length + 0 ≤ _; omega, fun c hc => hc, fun c hc => by cases hc⟩
  | some ab =>
    obtain ⟨a, b⟩ := ab
    obtain ⟨h1, h2, h3⟩ := par1 s _ _ a b h
    refine ⟨?_, fun c hc => ?_, fun c hc => h3 c hc⟩
    · rw [cd_len] at h1
      rw [← cd_len, ← cd_len]
      show a.length + b.length ≤ _
      simpa using h1
    · rcases h2 c hc with h | h
      · cases h
      · exact h
theorem replS_mem (y z : List Nat) : ∀ (l : List Nat) (k : Nat), ∀ c ∈ StrLaws.replS y z k l, c ∈ z ∨ c ∈ l
  | [], k, c, h => by
    unfold StrLaws.replS at h
    cases h
  | x :: l, 0, c, h => by
    unfold StrLaws.replS at h
    split at h
    · rcases List.mem_append.mp h with h | h
      · exact .inl h
      · rcases replS_mem y z l _ c h with h | h
        · exact .inl h
        · exact .inr (List.mem_cons_of_mem _ h)
    · rcases List.mem_cons.mp h with rfl | h
      · exact .inr List.mem_cons_self
      · rcases replS_mem y z l _ c h with h | h
        · exact .inl h
        · exact .inr (List.mem_cons_of_mem _ h)
  | x :: l, k + 1, c, h => by
    unfold StrLaws.replS at h
    rcases replS_mem y z l k c h with h | h
    · exact .inl h
    · exact .inr (List.mem_cons_of_mem _ h)
theorem repl_asc {x y z : Str} (hy : 1 ≤ y.length) (hx : ∀ c ∈ cd x, c < 128) (hz : ∀ c ∈ cd z, c < 128) : ∀ c ∈ cd (Txt.replace x y z), c < 128 := fun c hc => by
  have e : cd (Txt.replace x y z) = StrLaws.replS (cd y) (cd z) 0 (cd x) := StrLaws.replace_list hy
  rw [e] at hc
  rcases replS_mem _ _ _ _ c hc with h | h
  · exact hz c h
  · exact hx c h
theorem join_facts (y : Str) : ∀ ys : List Str, (Txt.join y ys).length ≤ (ys.map fun p => p.length + y.length).sum ∧ ∀ c ∈ cd (Txt.join y ys), c ∈ cd y ∨ ∃ p ∈ ys, c ∈ cd p := by
  intro ys
  rw [TL.join_eq]
  induction ys with
  | nil => exact ⟨Nat.zero_le _, fun c hc => by cases hc⟩
  | cons x r ih =>
    cases r with
    | nil =>
      refine ⟨?_, fun c hc => .inr ⟨x, List.mem_cons_self, hc⟩⟩
      show x.length ≤ x.length + y.length + 0
      omega
    | cons w r =>
      refine ⟨?_, fun c hc => ?_⟩
      · show (x ++ y ++ Str.join y (w :: r)).length ≤ _
        rw [len_app, len_app, List.map_cons, List.sum_cons]
        have := ih.1
        omega
      · have hc' : c ∈ cd (x ++ y ++ Str.join y (w :: r)) := hc
        rw [cd_app, cd_app] at hc'
        rcases List.mem_append.mp hc' with hc' | hc'
        · rcases List.mem_append.mp hc' with hc' | hc'
          · exact .inr ⟨x, List.mem_cons_self, hc'⟩
          · exact .inl hc'
        · rcases ih.2 c hc' with h | ⟨p, hp, h⟩
          · exact .inl h
          · exact .inr ⟨p, List.mem_cons_of_mem _ hp, h⟩
/-! ### a comprehension whose items are objects -/
theorem hid_upd {H : Hp} {a : Addr} {o : HO} : hid a (upd H a o) = hid a H := by
  funext b
  by_cases h : b = a
  · subst h
    unfold hid
    rw [if_pos rfl, if_pos rfl]
  · rw [hid_ne h, hid_ne h, upd_ne h]
theorem lc_refs {σ : L2.St} {H1 : Hp} {Da : Addr} {te : TE} {vs : List Nat} {ix : Nat} {Qd : Hp → Prop} {J : It} {n : Nat} {G : Hp → Prop} {x : Nat → V} (w : Walk J n G (fun i H y H' => H' = H ∧ y = x i)) (Pr : Nat → Addr → Hp → Prop) (hP : ∀ i q H H', Same H H' → Pr i q H → Pr i q H')
    (hn : n < sizeLine) (nD : H1 Da = none) (hG : ∀ H', Same H1 H' → G H')
    (he : ∀ i H' acc, i < n → Same H1 H' → H' Da = some (.lst acc) → ∀ R : VK, (∀ q H'', Pr i q (hid Da H'') → Same H' H'' → R (.ref q) H'') → te ((wipe σ vs).set ix (some (x i))) H' R)
    (hd : ∀ (qs : List Addr) H', Same H1 H' → H' Da = some (.lst (qs.map V.ref)) → qs.length = n → (∀ i q, qs[i]? = some q → Pr i q (hid Da H')) → Qd H')
    (hw : ∀ y, wipe ((wipe σ vs).set ix (some y)) vs = wipe σ vs := by intro y; rfl) : LcW J (gName ix) tYes te vs σ H1 Da Qd := by
  refine go_lc w (fun i H' => Same H1 H' ∧ ∃ qs : List Addr, H' Da = some (.lst (qs.map V.ref)) ∧ qs.length = i ∧ (∀ j q, qs[j]? = some q → Pr j q (hid Da H'))) ⟨same_upd (Same.refl _) nD, [], upd_same, rfl, fun j q h => by simp at h⟩ (fun i H' _ h => hG H' h.1) ?_ ?_
  · rintro i y H' _ hi ⟨h1, qs, h2, h3, h4⟩ ⟨rfl, rfl⟩
    refine ⟨hw _, ?_⟩
    refine i_yes (iteT ?_)
    refine he i _ _ hi h1 h2 _ fun q H'' pq s => ⟨qs.map V.ref, s _ _ h2, by rw [List.length_map]; omega, ?_, qs ++ [q], ?_, by simp [h3], fun j q' hj => ?_⟩
    · intro b o e
      rw [upd_ne (ne_of_none e nD)]
      exact s _ _ (h1 _ _ e)
    · rw [upd_same, List.map_append]
      rfl
    · rw [hid_upd]
      by_cases hjl : j < qs.length
      · rw [List.getElem?_append_left hjl] at hj
        exact hP j q' _ _ (But.hid (But.of s)) (h4 j q' hj)
      · rw [List.getElem?_append_right (by omega)] at hj
        have j0 : j - qs.length = 0 := by
          have := (List.getElem?_eq_some_iff.mp hj).1
          simp at this
          omega
        rw [j0] at hj
        cases hj
        have : j = i := by omega
        subst this
        exact pq
  · rintro H' ⟨h1, qs, h2, h3, h4⟩
    exact hd qs H' h1 h2 h3 h4
/-! ### plans as texts -/
def partsOf (z : Str) : List (List Str) := (Txt.split z (" " : Str)).map fun p => Txt.split p ("+" : Str)
def planD (z : Str) : PyData := .list ((partsOf z).map fun ts => .tuple (ts.map .str))
theorem sp_blank (z : Str) : Txt.split z (" " : Str) ≠ [] ∧ ((Txt.split z (" " : Str)).map fun p => p.length + 1).sum = z.length + 1 ∧ ∀ p ∈ Txt.split z (" " : Str), ∀ c ∈ cd p, c ∈ cd z := split_facts z _ (s := 32) (by decide +kernel) (by decide +kernel)
theorem sp_plus (z : Str) : Txt.split z ("+" : Str) ≠ [] ∧ ((Txt.split z ("+" : Str)).map fun p => p.length + 1).sum = z.length + 1 ∧ ∀ p ∈ Txt.split z ("+" : Str), ∀ c ∈ cd p, c ∈ cd z := split_facts z _ (s := 43) (by decide +kernel) (by decide +kernel)
theorem weight_strs : ∀ ps : List Str, PyData.weightAll (ps.map .str) = (ps.map fun p => p.length + 1).sum
  | [] => rfl
  | p :: ps => by
    rw [List.map_cons, List.map_cons, List.sum_cons, ← weight_strs ps]
    simp only [PyData.weightAll, PyData.weight]
    rfl
theorem sum_mem {α : Type} (f : α → Nat) : ∀ {l : List α} {x : α}, x ∈ l → f x ≤ (l.map f).sum
  | y :: l, x, h => by
    rw [List.map_cons, List.sum_cons]
    rcases List.mem_cons.mp h with rfl | h
    · omega
    · have := sum_mem f h
      omega
theorem len_sum1 {α : Type} (f : α → Nat) : ∀ l : List α, l.length ≤ (l.map fun x => f x + 1).sum
  | [] => Nat.zero_le _
  | x :: l => by
    have := len_sum1 f l
    rw [List.map_cons, List.sum_cons, List.length_cons]
    omega
theorem split_len (z y : Str) {s : Nat} (ey : cd y = [s]) (hs : y.cps.all (· < 256) = true) : (Txt.split z y).length ≤ z.length + 1 ∧ ∀ p ∈ Txt.split z y, p.length ≤ z.length := by
  obtain ⟨h1, h2, h3⟩ := split_facts z y ey hs
  have h4 := len_sum1 (fun p : Str => p.length) (Txt.split z y)
  refine ⟨by omega, fun p hp => ?_⟩
  have := sum_mem (fun p : Str => p.length + 1) hp
  omega
theorem parts_asc {z : Str} (ha : ∀ c ∈ cd z, c < 128) : ∀ ts ∈ partsOf z, ts ≠ [] ∧ ∀ p ∈ ts, ∀ c ∈ cd p, c < 128 := fun ts hts => by
  obtain ⟨p, hp, rfl⟩ := List.mem_map.mp hts
  obtain ⟨h1, _, h3⟩ := sp_plus p
  exact ⟨h1, fun q hq c hc => ha c ((sp_blank z).2.2 p hp c (h3 q hq c hc))⟩
theorem plan_weight (z : Str) : PyData.weightAll ((partsOf z).map fun ts => .tuple (ts.map .str)) ≤ 2 * (z.length + 1) := by
  obtain ⟨_, h2, _⟩ := sp_blank z
  have h4 := len_sum1 (fun p : Str => p.length) (Txt.split z (" " : Str))
  have e : ∀ l : List Str, PyData.weightAll ((l.map fun p => Txt.split p ("+" : Str)).map fun ts => .tuple (ts.map .str)) = (l.map fun p => p.length + 1).sum + l.length := by
    intro l
    induction l with
    | nil => rfl
    | cons p l ih =>
      rw [List.map_cons, List.map_cons, List.map_cons, List.sum_cons, List.length_cons]
      simp only [PyData.weightAll, PyData.weight]
      rw [ih, weight_strs, (sp_plus p).2.1]
      omega
  unfold partsOf
  rw [e]
  omega
theorem plan_mild {z : Str} (hz : z.length ≤ 3000) (ha : ∀ c ∈ cd z, c < 128) : Mild 6100 2 (planD z) := by
  have hw := plan_weight z
  refine mildL (w := 6100) (p := 1) (fun x hx => ?_) (by omega)
  have hx1 := weightAll_mem hx
  obtain ⟨ts, hts, rfl⟩ := List.mem_map.mp hx
  have h1 : PyData.weightAll (ts.map .str) ≤ 6100 := by
    have : (PyData.tuple (ts.map .str)).weight = PyData.weightAll (ts.map .str) := by simp only [PyData.weight]
    omega
  refine mildT (w := 6100) (p := 0) (fun y hy => ?_) h1
  have hy1 := weightAll_mem hy
  obtain ⟨p, hp, rfl⟩ := List.mem_map.mp hy
  refine Mild.str ((parts_asc ha ts hts).2 p hp) ?_
  have : (PyData.str p).weight = p.length := by simp only [PyData.weight]; rfl
  omega
theorem dts_tups {K : PySem.W.Frag} {H : Hp} : ∀ {qs : List Addr} {tss : List (List Str)}, qs.length = tss.length → (∀ (i : Nat) (q : Addr) (ts : List Str), qs[i]? = some q → tss[i]? = some ts → SqT K H q (ts.map V.str)) → Dts K H (qs.map V.ref) (tss.map fun ts => .tuple (ts.map .str))
  | [], [], _, _ => .nil
  | [], _ :: _, h, _ => by cases h
  | _ :: _, [], h, _ => by cases h
  | q :: qs, ts :: tss, h, k => .cons (.tup (k 0 q ts rfl rfl) Dts.strs) (dts_tups (Nat.succ.inj h) fun i q' t' a b => k (i + 1) q' t' a b)
theorem dts_lists {K : PySem.W.Frag} {H : Hp} : ∀ {qs : List Addr} {tss : List (List Str)}, qs.length = tss.length → (∀ (i : Nat) (q : Addr) (ts : List Str), qs[i]? = some q → tss[i]? = some ts → H q = some (.lst (ts.map V.str))) → Dts K H (qs.map V.ref) (tss.map fun ts => .list (ts.map .str))
  | [], [], _, _ => .nil
  | [], _ :: _, h, _ => by cases h
  | _ :: _, [], h, _ => by cases h
  | q :: qs, ts :: tss, h, k => .cons (.lst (SqL.lst (k 0 q ts rfl rfl)) Dts.strs) (dts_lists (Nat.succ.inj h) fun i q' t' a b => k (i + 1) q' t' a b)
theorem i_callS {sp : Sp} {E : L2.St → XK} {t : TA} {σ : L2.St} {H : Hp} {Q : VK} (k : t σ H fun vs H1 => sp vs H1 Q (E σ)) : tCallS sp E t σ H Q := k
theorem i_par3 {i j l : Nat} {t : TA} {D : Ends} {σ : L2.St} {H : Hp} (k : t σ H fun vs H1 => ∃ u v w, vs = [u, v, w] ∧ D.nx (((σ.set i (some u)).set j (some v)).set l (some w)) H1) : tPar3 i j l t D σ H := k
theorem i_ex3 {R : V → V → V → Prop} {x y z : V} (k : R x y z) : ∃ u v w, [x, y, z] = [u, v, w] ∧ R u v w := ⟨x, y, z, rfl, k⟩
end Gd

namespace Gd
open PySem PySem.Spec PyProof.Rows L2
/-! ### a method's def -/
structure DefM (K : PySem.W.Frag) (x qual : Str) (st : Stmt) (f : Addr) (fd : FuncData) (ps : List Str) : Prop where
  ex : ∃ (oc : Value) (od : Option Addr) (dV kV doc pm : Value) (an : Option Addr) (cdv ct : Value) (osl : Array (Option Value)),
    fd = PySem.W.fnOf x qual (defArgs st) (defBody st) (defScope st) dV kV doc pm an cdv ct ∧ K.lookup f = some ⟨oc, od, .func fd, osl⟩ ∧ PySem.W.codeIn K cdv qual = true
  b : Binds K fd ps []
section
variable {P : Program} {w : World} {K : PySem.W.Frag} {mg : Str → Option Value} {base : Heap} {x qual : Str} {st : Stmt} {f : Addr} {fd : FuncData} {N ps : List Str} {k : Nat} {sp : Sp}
theorem DefM.ok (D : DefM K x qual st f fd ps) (S : FnScope N ps (defScope st)) (len : ∀ vs H Q E, sp vs H Q E → vs.length = ps.length)
    (hbody : ∀ (cdv : Value) (A : Around) (outer : List Env) (s : Shared) (H : Hp) (vs : List V) (Q : VK) (E : XK), Room k (A.deeper (envOfC qual (defScope st) s.heap.objs.size f cdv)) → sp vs H Q E →
      ∃ t, PSs (cxOf CX0 P w K mg base N qual (defScope st) f cdv A outer s H E).nox (defBody st) t ∧ t { nx := fun _ H' => Q .non H', rt := Q } (L2.start N vs) H) : FnOk P w K mg base CX0 (k + 1) f fd ps sp := by
  obtain ⟨oc, od, dV, kV, doc, pm, an, cdv, ct, osl, rfl, lk, hcd⟩ := D.ex
  refine fn_of lk hcd S len fun A outer s H vs Q E hr hsp => ?_
  obtain ⟨t, h, q⟩ := hbody cdv A outer s H vs Q E hr hsp
  exact ⟨t, h.nox, q⟩
theorem DefM.okX (D : DefM K x qual st f fd ps) (S : FnScope N ps (defScope st)) (len : ∀ vs H Q E, sp vs H Q E → vs.length = ps.length)
    (hbody : ∀ (cdv : Value) (A : Around) (outer : List Env) (s : Shared) (H : Hp) (vs : List V) (Q : VK) (E : XK), Room k (A.deeper (envOfC qual (defScope st) s.heap.objs.size f cdv)) → sp vs H Q E →
      ∃ t, PSs (cxOf (L2.CX P w) P w K mg base N qual (defScope st) f cdv A outer s H E) (defBody st) t ∧ t { nx := fun _ H' => Q .non H', rt := Q } (L2.start N vs) H) : FnOk P w K mg base (L2.CX P w) (k + 1) f fd ps sp := by
  obtain ⟨oc, od, dV, kV, doc, pm, an, cdv, ct, osl, rfl, lk, hcd⟩ := D.ex
  exact fn_of lk hcd S len fun A outer s H vs Q E hr hsp => hbody cdv A outer s H vs Q E hr hsp
end
/-! ### a dict of the module with text keys -/
inductive Ent (w : World) : List DictEntry → List (Str × V) → Prop
  | nil : Ent w [] []
  | cons {e : DictEntry} {kv : Str × V} {es : List DictEntry} {kvs : List (Str × V)} : (∃ t, e.key = .str kv.1 t) → e.hash = PyData.keyHash w.params kv.1 → RelV kv.2 e.val → Ent w es kvs → Ent w (e :: es) (kv :: kvs)
/-- at d stands the written dict kvs -/
structure WDict (K : PySem.W.Frag) (w : World) (d : Addr) (kvs : List (Str × V)) : Prop where
  ex : ∃ es n, K.lookup d = some ⟨.type "dict", none, .dict es n, #[]⟩ ∧ Ent w es.toList kvs
  low : (d == sysModules) = false
  nd : (kvs.map (·.1)).Nodup
/-- its pairs, as a tracked dict has them -/
def kS (kvs : List (Str × V)) : List (Key × V) := kvs.map fun kv => (.inr kv.1, kv.2)
section
variable {X : Cx} {P : Program} {w : World} {K : PySem.W.Frag} {d : Addr} {kvs : List (Str × V)}
theorem Ent.vs {es : List DictEntry} (h : Ent w es kvs) : ∃ vs : List (Key × Value), KV (kS kvs) vs ∧ Pairs (mixKind P w) es vs ∧ (∀ e ∈ es, ∃ k, (mixKind P w).is k e.key = true ∧ e.hash = (mixKind P w).hash k) ∧ vs.map (·.1) = (kvs.map (·.1)).map Sum.inr := by
  induction h with
  | nil => exact ⟨[], .nil, .nil, fun e h => (by cases h), rfl⟩
  | @cons e kv es kvs hk hh hv _ ih =>
    obtain ⟨vs, h1, h2, h3, h4⟩ := ih
    obtain ⟨t, hk⟩ := hk
    have hi : keyIs (.inr kv.1) e.key = true := by rw [hk]; exact keyIs_str _ _
    refine ⟨(.inr kv.1, e.val) :: vs, .cons ⟨rfl, hv⟩ h1, .cons hi rfl h2, fun e' he => ?_, ?_⟩
    · rcases List.mem_cons.mp he with rfl | he
      · exact ⟨.inr kv.1, hi, hh⟩
      · exact h3 e' he
    · rw [List.map_cons, List.map_cons, List.map_cons, h4]
theorem WDict.dict {h : Heap} (D : WDict K w d kvs) (Y : K.In h) : ∃ vs : List (Key × Value), KV (kS kvs) vs ∧ h.DictOf (mixKind P w) d vs := by
  obtain ⟨es, n, hl, he⟩ := D.ex
  obtain ⟨vs, h1, h2, h3, h4⟩ := he.vs (P := P)
  refine ⟨vs, h1, _, es, n, Y _ _ hl, ⟨rfl, rfl, rfl⟩, rfl, fun e he => h3 e (Array.mem_toList_iff.mpr he), h2, ?_⟩
  rw [h4]
  exact List.Pairwise.map _ (fun a b h e => h (Sum.inr.inj e)) D.nd
/-- z in D -/
def rInW (K : PySem.W.Frag) (w : World) (neg : Bool) : R2 := fun x y H Q => ∃ (z : Str) (d : Addr) (kvs : List (Str × V)), x = .str z ∧ y = .ref d ∧ WDict K w d kvs ∧ Q (.bl (if neg then !(valV (kS kvs) (.inr z)).isSome else (valV (kS kvs) (.inr z)).isSome)) H
theorem op_inW : OpR X (compareOp .In) (rInW X.K X.w false) := by
  intro pins s σ H x y v u Q I rx ry h
  obtain ⟨z, d, kvs, rfl, rfl, D, q⟩ := h
  obtain ⟨t, rfl⟩ := rx
  cases ry
  obtain ⟨vs, rel, dd⟩ := D.dict (P := X.prog) I.kIn
  refine wpAny_in_of (k := (.inr z : Key)) (keyIs_str z t) D.low dd.mapOf ?_
  refine ⟨.bl (valV (kS kvs) (.inr z)).isSome, H, I.tok _, ?_, q⟩
  rw [(rel.val (.inr z)).isSome_eq]
  rfl
/-- D[z] -/
def rIxW (K : PySem.W.Frag) (w : World) : R2 := fun x y H Q => ∃ (z : Str) (d : Addr) (kvs : List (Str × V)) (v : V), x = .ref d ∧ y = .str z ∧ WDict K w d kvs ∧ valV (kS kvs) (.inr z) = some v ∧ Q v H
theorem ix_W : IxR X (rIxW X.K X.w) := by
  intro value slice pins s σ H x y v u Q I rx ry h hs
  obtain ⟨z, d, kvs, r, rfl, rfl, D, e, q⟩ := h
  cases rx
  obtain ⟨t, rfl⟩ := ry
  obtain ⟨vs, rel, dd⟩ := D.dict (P := X.prog) I.kIn
  obtain ⟨w', hw, rw'⟩ := RelO.some_of (v := r) (o := valueAt vs (.inr z)) (by rw [← e]; exact rel.val _)
  exact tail_any dd.typeIs slot_dict_getitem.lookup (wpAny_getItem_of (keyIs_str z t) dd.mapOf hw ⟨r, H, I.tok _, rw', q⟩) hs
/-- len(D) -/
def rLenW (K : PySem.W.Frag) (w : World) : List V → Hp → VK → Prop := fun xs H Q => ∃ (d : Addr) (kvs : List (Str × V)), xs = [.ref d] ∧ WDict K w d kvs ∧ kvs.length ≤ 1000 ∧ Q (.int kvs.length) H
theorem call_lenW : CallR X (.builtin "len") (rLenW X.K X.w) := by
  intro pins s σ H xs us Q I r h
  obtain ⟨d, kvs, rfl, D, hz, q⟩ := h
  obtain ⟨u, rfl, ru⟩ := vals1 r
  cases ru
  obtain ⟨vs, rel, dd⟩ := D.dict (P := X.prog) I.kIn
  have e : (kS kvs).length = kvs.length := List.length_map _
  have e2 := rel.length
  refine call_len_dict D.low dd (by omega) ?_
  rw [← e2, e]
  exact ⟨.int kvs.length, H, I.tok _, ⟨_, rfl⟩, q⟩
/-- dict(D) -/
def rDictW (K : PySem.W.Frag) (w : World) : List V → Hp → VK → Prop := fun xs H Q => ∃ (d : Addr) (kvs : List (Str × V)), xs = [.ref d] ∧ WDict K w d kvs ∧ kvs.length ≤ 1000 ∧ ∀ p, H p = none → Q (.ref p) (upd H p (.dK (kS kvs)))
theorem call_dictW : CallR X (.type "dict") (rDictW X.K X.w) := by
  intro pins s σ H xs us Q I r h
  obtain ⟨d, kvs, rfl, D, hz, q⟩ := h
  obtain ⟨u, rfl, ru⟩ := vals1 r
  cases ru
  obtain ⟨vs, rel, dd⟩ := D.dict (P := X.prog) I.kIn
  have e : (kS kvs).length = kvs.length := List.length_map _
  have e2 := rel.length
  have z : (kS kvs).length ≤ sizeLine := by rw [e]; exact line_le (by omega)
  refine kt_call_dict D.low dd (by rw [← e2]; exact z) fun h' d' hs => ?_
  have hm : (s.heap.objs.size == sysModules) = false := beq_eq_false_iff_ne.mpr (Nat.ne_of_gt I.big)
  exact ⟨.ref s.heap.objs.size, upd H s.heap.objs.size (.dK (kS kvs)), I.laid (t' := s.toks) (fun b u e => (hs.2 b (Nat.ne_of_lt (Heap.lt_size e))).trans (Heap.get?_push_of_some _ e)) (Nat.le_refl _)
    (show ObjOk X.prog X.w _ _ _ (.dK (kS kvs)) from ⟨z, hm, vs, rel, d'⟩), rfl, q _ (I.hok.fresh (Nat.le_refl _))⟩
end
section
variable {K : PySem.W.Frag} {w : World} {H : Hp} {Q : VK} {d : Addr} {kvs : List (Str × V)} {z : Str} {v : V}
theorem i_inW {neg : Bool} (D : WDict K w d kvs) (k : Q (.bl (if neg then !(valV (kS kvs) (.inr z)).isSome else (valV (kS kvs) (.inr z)).isSome)) H) : rInW K w neg (.str z) (.ref d) H Q := ⟨z, d, kvs, rfl, rfl, D, k⟩
theorem i_ixW (D : WDict K w d kvs) (e : valV (kS kvs) (.inr z) = some v) (k : Q v H) : rIxW K w (.ref d) (.str z) H Q := ⟨z, d, kvs, v, rfl, rfl, D, e, k⟩
theorem i_lenW (D : WDict K w d kvs) (hz : kvs.length ≤ 1000) (k : Q (.int kvs.length) H) : rLenW K w [.ref d] H Q := ⟨d, kvs, rfl, D, hz, k⟩
theorem i_dictW (D : WDict K w d kvs) (hz : kvs.length ≤ 1000) (k : ∀ p, H p = none → Q (.ref p) (upd H p (.dK (kS kvs)))) : rDictW K w [.ref d] H Q := ⟨d, kvs, rfl, D, hz, k⟩
end
/-! ### isinstance(x, (T, ..)) of data -/
section
variable {X : Cx}
theorem vals_tys : ∀ {Ts : List String} {us : List Value}, Vals (Ts.map V.ty) us → us = Ts.map Value.type
  | [], _, h => by cases h; rfl
  | T :: Ts, _, h => by
    cases h with
    | cons h1 h2 =>
      cases h1
      rw [vals_tys h2]
      rfl
def kitBs (d : String) : List String → Option Bool
  | [] => some false
  | T :: Ts => match kitB d T with
    | some true => some true
    | some false => kitBs d Ts
    | none => none
theorem kitBs_ok {K : PySem.W.Frag} {d : String} : ∀ {Ts : List String} {b : Bool}, kitBs d Ts = some b → PySem.W.kitAny K (.type d) (Ts.map Value.type) = some b
  | [], b, h => h
  | T :: Ts, b, h => by
    unfold kitBs at h
    cases e : kitB d T with
    | none => rw [e] at h; cases h
    | some c =>
      rw [e] at h
      cases c with
      | true =>
        cases h
        exact kitAny_cons (kit_ty e) (fun z => by cases z) (fun _ => rfl)
      | false => exact kitAny_cons (kit_ty e) (fun _ => kitBs_ok h) (fun z => by cases z)
def rIsDs (K : PySem.W.Frag) : List V → Hp → VK → Prop := fun xs H Q => ∃ (v : V) (tp : Addr) (Ts : List String) (d : PyData) (b : Bool), xs = [v, .ref tp] ∧ SqT K H tp (Ts.map V.ty) ∧ Dt K H v d ∧ kitBs (tyN d) Ts = some b ∧ Q (.bl b) H
theorem call_isDs : CallR X (.builtin "isinstance") (rIsDs X.K) := by
  intro pins s σ H xs us Q I r h
  obtain ⟨v, tp, Ts, d, b, rfl, hs, hd, e, q⟩ := h
  obtain ⟨u1, u2, rfl, r1, r2⟩ := vals2 r
  cases r2
  obtain ⟨its, rv, ⟨⟨cl, dd, data, sl⟩, ho, hc, n, hdt⟩, _⟩ := I.tuple hs
  simp only at hc hdt
  subst hc hdt
  have ei := vals_tys rv
  subst ei
  obtain ⟨P, Z, p, hx⟩ := kit_dt I r1 hd
  exact PySem.W.kia_tup Z I.kIn p ho (kitBs_ok e) hx fun tk => ⟨.bl b, H, I.kept (t' := tk) fun _ _ z => z, rfl, q⟩
theorem i_isDs {K : PySem.W.Frag} {H : Hp} {Q : VK} {v : V} {tp : Addr} {Ts : List String} {d : PyData} {b : Bool} (hs : SqT K H tp (Ts.map V.ty)) (hd : Dt K H v d) (e : kitBs (tyN d) Ts = some b) (k : Q (.bl b) H) : rIsDs K [v, .ref tp] H Q := ⟨v, tp, Ts, d, b, rfl, hs, hd, e, k⟩
end
section
variable {P : Program} {w : World} {H : Hp} {Q : VK} {σ : L2.St} {to : TE} {t : TA}
theorem i_saddK (k : to σ H fun x H1 => (∃ a S n, x = V.ref a ∧ H1 a = some (SetK P w a S n)) ∧ t σ H1 fun xs H2 => rSAddK P w x xs H2 Q) : tSAddK P w to t σ H Q := k
theorem i_sinK {S : Key → Bool} {n : Nat} {a : Addr} {z : Str} (h : H a = some (SetK P w a S n)) (k : Q (.bl (S (.inr z))) H) : rSInK P w false (.str z) (.ref a) H Q := ⟨.inr z, a, S, n, rfl, rfl, h, by rw [if_neg Bool.false_ne_true]; exact k⟩
theorem i_sadd1 {S : Key → Bool} {n : Nat} {a : Addr} {z : Str} (h : H a = some (SetK P w a S n)) (hn : n + 1 < scanBound) (hS : S (.inr z) = false) (k : Q .non (upd H a (SetK P w a (fun j => S j || decide (j = .inr z)) (n + 1)))) : rSAddK P w (.ref a) [.str z] H Q :=
  ⟨a, .inr z, S, n, rfl, rfl, h, hn, by rw [hS, if_neg Bool.false_ne_true]; exact k⟩
end
/-! ### dicts and properties, read step by step -/
theorem putK_le (kvs : List (Key × V)) (k : Key) (v : V) : (putK kvs k v).length ≤ kvs.length + 1 := by
  unfold putK
  split
  · rw [List.length_map]
    omega
  · rw [List.length_append]
    exact Nat.le_refl _
theorem i_dput {D : Ends} {σ : L2.St} {H : Hp} {td ty tv : TE} (h : tv σ H fun v H1 => td σ H1 fun x H2 => ty σ H2 fun y H3 => ∃ a H4, x = .ref a ∧ DPut H3 a y v H4 ∧ D.nx σ H4) : sDPut td ty tv D σ H := h
theorem i_dget {σ : L2.St} {H : Hp} {Q : VK} {td ty : TE} (h : td σ H fun x H1 => ty σ H1 fun y H2 => ∃ a v, x = .ref a ∧ DGet H2 a y (some v) ∧ Q v H2) : tDGet td ty σ H Q := h
theorem i_fldA {K : PySem.W.Frag} {σ : L2.St} {H : Hp} {Q : VK} {ta : TE} {f : Str} (h : ta σ H fun x H1 => ∃ a C dx fs v, x = .ref a ∧ H1 a = some (.ins C dx fs) ∧ Cls K C ∧ NoAttr K C f ∧ fs.lookup f = some v ∧ Q v H1) : tFld K ta f σ H Q := h
theorem i_sfld {K : PySem.W.Frag} {D : Ends} {σ : L2.St} {H : Hp} {ta tv : TE} {f : Str} (h : tv σ H fun y H1 => ta σ H1 fun x H2 => ∃ a C dx fs, x = .ref a ∧ H2 a = some (.ins C dx fs) ∧ Cls K C ∧ NoAttr K C f ∧ fs.length < 1000 ∧ D.nx σ (upd H2 a (.ins C dx (putF f y fs)))) : sFld K ta tv f D σ H := h
theorem i_prop {C : Addr} {sp : Sp} {dvs : List V} {E : XK} {ta : TE} {σ : L2.St} {H : Hp} {Q : VK} (h : ta σ H fun x H1 => ∃ a dx fs, x = .ref a ∧ H1 a = some (.ins C dx fs) ∧ sp (.ref a :: dvs) H1 Q E) : tProp C sp dvs E ta σ H Q := h
theorem i_dnotin {σ : L2.St} {H : Hp} {Q : VK} {td ty : TE} (h : ty σ H fun y H1 => td σ H1 fun x H2 => ∃ a o, x = .ref a ∧ DGet H2 a y o ∧ Q (.bl (!o.isSome)) H2) : tDNotIn ty td σ H Q := h
end Gd

namespace Gd
open PySem PySem.Spec PyProof.Rows L2
/-! ### own errors as values: the arguments' tuple told, too -/
def eObj (C : Addr) (d : Option Addr) (t : Addr) : Obj := { cls := .ref C, dict := d, data := .fields #[.ref t, .none, .none, .none, .bool false, .none] }
/-- an error at e of the class at C: its dict (none yet, or at d), its arguments the tuple at t -/
def eO (e C : Addr) (d : Option Addr) (t : Addr) : HO := .ext fun h => h.get? e = some (eObj C d t)
section
variable {P : Program} {w : World} {H : Hp} {h : Heap} {e C t b : Addr} {d : Option Addr} {o : HO}
theorem eO_ok (q : h.get? e = some (eObj C d t)) : ObjOk P w H h e (eO e C d t) := ⟨q, ⟨_, q⟩, fun _ _ z k => k _ z⟩
theorem eO_at (hok : HOk P w H h) (he : H e = some (eO e C d t)) : h.get? e = some (eObj C d t) := by
  have x : ObjOk P w H h e (.ext fun h => h.get? e = some (eObj C d t)) := hok e _ he
  exact x.1
theorem far {φ : Heap → Prop} (ha : H e = some (.ext φ)) (hb : H b = some o) (hd : ∀ ψ, o ≠ .ext ψ) : b ≠ e := fun z => by
  subst z
  rw [ha] at hb
  exact hd φ (Option.some.inj hb).symm
end
section
variable {X : Cx} {pins : List (Addr × Obj)} {σ : L2.St} {H : Hp} {s : Shared} {a C t : Addr} {f : Str} {y : V} {u : Value} {Q : Unit → Shared → Prop} {E : Value → Shared → Prop} {A : Around}
theorem sto (T : OexC X.K C) (I : Inv X pins σ H s) (e : H a = some (eO a C none t)) (hno : PySem.W.findIn X.K (.ref C) f = some none) (ry : RelV y u)
    (h : ∀ dx s', H dx = none → dx ≠ a → Inv X pins σ (upd (upd H dx (exd dx [(f, y)])) a (eO a C (some dx) t)) s' → Q () s') : wpAny (model X.prog X.w) A (setAttr (.ref a) f u) Q E s := by
  obtain ⟨nm, q, N, bs, bm, sn, sub, ab, col, dd, k0, k1, k2, k3, k5, hC, hbm⟩ := T.cls
  obtain ⟨cd, hcl, hmr, hdt⟩ : ∃ cd, PySem.W.clsIn X.K C = some cd ∧ cd.mro = .ref C :: bm ∧ cd.hasDict = true := ⟨_, by unfold PySem.W.clsIn; rw [hC] <;> rfl, rfl, rfl⟩
  have ho := eO_at I.hok e
  obtain ⟨hp, g, dr, tk, os⟩ := s
  refine PySem.W.set_plain I.kIn (ox := eObj C none t) (od := none) ⟨ho, rfl, rfl, trivial⟩ T.sa (PySem.HandSPX.exc_osa I.kIn ho hcl (by rw [hmr]; exact hbm) hdt hno fun h' tk' dx k dn dne hx hn => ?_)
  have hnd := I.hok.fresh dn
  have nd : ∀ {b : Addr} {o : Obj}, hp.get? b = some o → b ≠ dx := fun z => Nat.ne_of_lt (Nat.lt_of_lt_of_le (Heap.lt_size z) dn)
  have na : ∀ {b : Addr}, H b = none → b ≠ a := fun n z => by rw [z, e] at n; cases n
  have hk : ∀ {b : Addr} {o : HO}, H b = some o → (∀ ψ, o ≠ .ext ψ) → upd (upd H dx (exd dx [(f, y)])) a (eO a C (some dx) t) b = some o := fun z hd => by rw [upd_ne (far e z hd), upd_ne (ne_of_none z hnd)]; exact z
  refine h dx _ hnd dne (I.un (t' := tk') ⟨fun b o z n _ _ => k b o (na n) z, fun b o z n _ _ => ⟨o.slots, k b o (na n) z⟩, fun b o z n _ => by rw [upd_ne (na n), upd_ne (nd z)]; exact n, fun b o z _ => ?_, fun b xs z => hk z (fun _ c => nomatch c), fun b o v z => hk z (fun _ c => nomatch c), fun b ps z => ⟨#[], ?_⟩⟩ fun b o z => ?_)
  · by_cases hb : b = a
    · exact ⟨_, by rw [hb]; exact hx⟩
    · exact ⟨o, k b o hb z⟩
  · rw [hk z fun _ c => nomatch c]
    simp
  by_cases hb : b = a
  · subst hb
    rw [upd_same] at z
    cases z
    exact eO_ok hx
  rw [upd_ne hb] at z
  by_cases hd : b = dx
  · subst hd
    rw [upd_same] at z
    cases z
    exact exd_ok hn (relO_put (fs := []) ry fun g => True.intro)
  rw [upd_ne hd] at z
  refine (I.hok b o z).stay (fun c v hc r => k c v ?_ r) (fun c hc => hk hc (fun _ c => nomatch c)) fun c xs hc => hk hc (fun _ c => nomatch c)
  rcases hc with hc | hc
  · rw [hc]
    exact hb
  · exact far e hc fun _ c => nomatch c
end
/-- self.f = e in such an error -/
def tSto (K : PySem.W.Frag) (f : Str) (to te : TE) : TS := fun D σ H => te σ H fun y H1 => to σ H1 fun x H2 => ∃ a C t : Addr, x = .ref a ∧ OexC K C ∧ PySem.W.findIn K (.ref C) f = some none ∧ H2 a = some (eO a C none t) ∧ ∀ dx, H2 dx = none → dx ≠ a → D.nx σ (upd (upd H2 dx (exd dx [(f, y)])) a (eO a C (some dx) t))
/-- C(e), C's own __init__ keeping sp -/
def tMkE (C : Addr) (sp : Sp) (ta : TA) : TE := fun σ H Q => ta σ H fun vs H1 => vs.length ≤ 1000 ∧ ∀ t a, H1 t = none → H1 a = none → t ≠ a → sp (.ref a :: vs) (upd (upd H1 t (.tup vs)) a (eO a C none t)) (fun v H2 => v = .non ∧ Q (.ref a) H2) E0
section
variable {X : Cx} {o e : Expr} {es : List Expr} {to te : TE} {ta : TA} {f : Str} {p p' pos : Pos}
theorem ps_sto (ho : PE X o to) (he : PE X e te) (hs : swapsWith e (some (.Attribute o f p')) pos.line X.env = pure false := by rfl) : PS X (.Assign [.Attribute o f p'] e pos) (tSto X.K f to te) := by
  refine ⟨fun pins s σ H D I h => plainObj_wpAny_Assign_Attribute (thn (he.run pins s σ H _ I h) fun v s1 ⟨y, H1, I1, r1, q1⟩ => thn (ho.run pins s1 σ H1 _ I1 q1) fun u s2 ⟨x, H2, I2, r2, a, C, t, ex, T, hno, ea, q⟩ => ?_) hs⟩
  subst ex
  obtain rfl : u = Value.ref a := r2
  exact sto T I2 ea hno r1 fun dx s' n ne J => ⟨σ, _, J, q dx n ne⟩
theorem pe_err {x : Str} {C fI : Addr} {k : Nat} {fd : FuncData} {ps : List Str} {sp : Sp} (T : OexC X.K C) (iC : PySem.W.findIn X.K (.ref C) "__init__" = some (some (.ref fI))) (tI : PySem.W.typeIn X.K (.ref fI) = some (.type "function"))
    (F1 : FnOk X.prog X.w X.K X.mg X.base CX0 k fI fd ps sp) (hr : Room (k + 1) X.A) (hb : Binds X.K fd ps []) (hg : Gl X x) (hm : X.mg x = some (.ref C)) (ha : PA X (e :: es) ta)
    (hdb : (x == ("__debug__" : Str)) = false := by decide) (he : starEach (e :: es) X.env = (false, eval e X.env) :: starEach es X.env := by rfl) (hpl : (backTo pos (starEach es X.env)).any (·.1) = false := by rfl) : PE X (.Call (.Name x p) (e :: es) [] pos) (tMkE C sp ta) := by
  refine ⟨fun pins s σ H Q I h => ?_⟩
  obtain ⟨nm, q, N, bs, bm, sn, sub, ab, col, dd, k0, k1, k2, k3, k5, hC, hbm⟩ := T.cls
  refine wpAny_Call_Name_kw (ld_glob I hg hm (PySem.W.callWith_K (h₀ := X.base) I.ok.mod.kin T.kC (thn (ha.run pos pins s σ H _ I h) fun us s1 ⟨vs, H1, I1, r1, hz, q1⟩ => ⟨I1.kIn, ?_⟩) he hpl) hdb)
  show wpAny _ _ (call (.ref C) us) _ _ _
  obtain ⟨hp, g, dr, tk, os⟩ := s1
  have hus : us.length ≤ sizeLine := by rw [← Paired.length r1, sizeLine_eq]; omega
  have hvs : vs.length ≤ sizeLine := by rw [sizeLine_eq]; omega
  have hn : H1 (hp.objs.size + 1) = none := I1.hok.fresh (Nat.le_succ _)
  have ht : H1 hp.objs.size = none := I1.hok.fresh (Nat.le_refl _)
  have hne : hp.objs.size ≠ hp.objs.size + 1 := Nat.ne_of_lt (Nat.lt_succ_self _)
  have hq := q1 hp.objs.size (hp.objs.size + 1) ht hn hne
  have Ia : Inv X pins σ (upd H1 hp.objs.size (.tup vs)) ⟨hp.push (PySem.W.kdv_tup us), g, dr, tk, os⟩ := I1.laid (t' := tk) (a := hp.objs.size) (o := .tup vs) (fun b o z => Heap.get?_push_of_some _ z) (Nat.le_refl _) ⟨hvs, us, r1, IsTup.new hp _⟩
  have Ib : Inv X pins σ (upd (upd H1 hp.objs.size (.tup vs)) (hp.objs.size + 1) (eO (hp.objs.size + 1) C none hp.objs.size)) ⟨(hp.push (PySem.W.kdv_tup us)).push (PySem.HandSPX.excO C hp.objs.size), g, dr, tk, os⟩ :=
    Ia.laid (t' := tk) (a := hp.objs.size + 1) (fun b o z => Heap.get?_push_of_some _ z) (by show (hp.push (PySem.W.kdv_tup us)).objs.size ≤ _; simp [Heap.push]) (eO_ok (by show _ = some (PySem.HandSPX.excO C hp.objs.size); heap_get))
  have r2 : Vals (V.ref (hp.objs.size + 1) :: vs) (Value.ref (hp.objs.size + 1) :: us) := .cons rfl r1
  have hl : (Value.ref (hp.objs.size + 1) :: us ++ []).length = ps.length := by rw [List.append_nil, ← r2.length]; exact F1.len _ _ _ _ hq
  have hbt := hb _ (Value.ref (hp.objs.size + 1) :: us) Ib.kIn hl
  rw [List.append_nil] at hbt
  refine wpAny_call (PySem.HandSPX.call_own F.excBase_ValueError (fun Y => PySem.HandSPX.refsVE_contains Y bm hbm) (I1.kIn _ _ hC) (PySem.W.looks_findIn I1.kIn iC) (fun self => PySem.W.bind_fn I1.kIn self tI) hus
    (codeAny_mono (F1.run _ X.stack _ _ ⟨Value.ref (hp.objs.size + 1) :: us, []⟩ _ _ _ _ (hr.make C us []) (Ib.env0.make C us []) hbt r2 hq) fun r s' hq' => ?_))
  cases r with
  | error er => exact hq'.elim
  | ok fl =>
    cases fl with
    | ret u =>
      obtain ⟨v, H', I3, rv, ev, q3⟩ := Ib.after hq'
      subst ev
      exact ⟨rv, ⟨V.ref (hp.objs.size + 1), H', I3, rfl, q3⟩⟩
    | next => exact hq'.elim
    | brk => exact hq'.elim
    | cont => exact hq'.elim
end
/-- an error object: one of those, with its dict, or one without fields -/
def ErrAt (H : Hp) (a C : Addr) : Prop := (∃ d t, H a = some (eO a C d t) ∧ ∀ dx, d = some dx → ∃ fs, H dx = some (exd dx fs)) ∨ H a = some (ExO (.ref C) a)
section
variable {X : Cx} {pins : List (Addr × Obj)} {σ : L2.St} {H : Hp} {s : Shared} {a D : Addr}
theorem inst_err (I : Inv X pins σ H s) (h : ErrAt H a D) : ∃ oe od, PySem.W.InstAt s.heap a oe D od := by
  rcases h with ⟨d, t, ea, hd⟩ | ea
  · have ho := eO_at I.hok ea
    cases d with
    | none => exact ⟨_, none, ho, rfl, rfl, trivial⟩
    | some dx =>
      obtain ⟨fs, ed⟩ := hd dx rfl
      obtain ⟨mA, ⟨o, _, _, h1, _⟩, _⟩ := exd_at I.hok ed
      exact ⟨_, some o, ho, rfl, rfl, h1⟩
  · have z : ObjOk X.prog X.w H s.heap a (.ext fun h => ∃ (oe : Obj) (vs : Array Value), h.get? a = some oe ∧ Zc (.ref D) none oe ∧ oe.data = .fields vs ∧ vs[1]? = some .none ∧ vs[2]? = some .none ∧ 4 < vs.size) := I.hok a _ ea
    obtain ⟨⟨oe, vs, h1, ⟨h2, h3⟩, h4, _⟩, _⟩ := z
    obtain ⟨oc, od, oda, osl⟩ := oe
    dsimp only at h2 h3 h4
    subst h2 h3 h4
    exact ⟨_, none, h1, rfl, rfl, trivial⟩
/-- isinstance(e, c), e such a value -/
def rIsV (K : PySem.W.Frag) : List V → Hp → VK → Prop := fun xs H Q => ∃ (a D : Addr) (c : V) (cv : Value) (b : Bool), xs = [.ref a, c] ∧ ErrAt H a D ∧ ExcC K D ∧ (∀ u, RelV c u → u = cv) ∧ PySem.W.kitOne K (.ref D) cv = some b ∧ Q (.bl b) H
theorem cls_of (C : ExcC X.K D) : (PySem.W.clsIn X.K D).isSome = true := by
  obtain ⟨cd, hc, _⟩ := PySem.W.any_some C.hd
  rw [hc]
  rfl
theorem call_isV : CallR X (.builtin "isinstance") (rIsV X.K) := by
  intro pins s σ H xs us Q I r h
  obtain ⟨a, D, c, cv, b, rfl, he, C, hcv, e, q⟩ := h
  obtain ⟨u1, u2, rfl, rx, rt⟩ := vals2 r
  cases rx
  have ec := hcv _ rt
  subst ec
  obtain ⟨oe, od, J⟩ := inst_err I he
  exact PySem.W.kia_one (PySem.W.kitx_exc (cls_of C) C.hg C.hk C.hs C.ha C.hn C.ht C.hm) I.kIn J e (fun z => nomatch z) fun tk => ⟨.bl b, H, I.kept (t' := tk) fun _ _ z => z, rfl, q⟩
/-- .. (T, ..), built-in types; the value is data or an error -/
def rIsW (K : PySem.W.Frag) : List V → Hp → VK → Prop := fun xs H Q => rIsDs K xs H Q ∨ ∃ (a D tp : Addr) (Ts : List String) (b : Bool), xs = [.ref a, .ref tp] ∧ SqT K H tp (Ts.map V.ty) ∧ ErrAt H a D ∧ ExcC K D ∧ PySem.W.kitAny K (.ref D) (Ts.map Value.type) = some b ∧ Q (.bl b) H
theorem call_isW : CallR X (.builtin "isinstance") (rIsW X.K) := by
  intro pins s σ H xs us Q I r h
  rcases h with h | ⟨a, D, tp, Ts, b, rfl, hs, he, C, e, q⟩
  · exact call_isDs pins s σ H xs us Q I r h
  obtain ⟨u1, u2, rfl, rx, rt⟩ := vals2 r
  cases rx
  cases rt
  obtain ⟨oe, od, J⟩ := inst_err I he
  obtain ⟨its, rv, ⟨⟨cl, dd, data, sl⟩, ho, hc, n, hd⟩, _⟩ := I.tuple hs
  simp only at hc hd
  subst hc hd
  have ei := vals_tys rv
  subst ei
  exact PySem.W.kia_tup (PySem.W.kitx_exc (cls_of C) C.hg C.hk C.hs C.ha C.hn C.ht C.hm) I.kIn J ho e (fun z => nomatch z) fun tk => ⟨.bl b, H, I.kept (t' := tk) fun _ _ z => z, rfl, q⟩
/-- e.f, e such an error -/
def tXfv (K : PySem.W.Frag) (f : Str) (te : TE) : TE := fun σ H Q => te σ H fun x H1 => ∃ (a C dx t : Addr) (fs : List (Str × V)) (v : V), x = .ref a ∧ H1 a = some (eO a C (some dx) t) ∧ H1 dx = some (exd dx fs) ∧ fs.lookup f = some v ∧ ExcC K C ∧ PySem.W.findIn K (.ref C) f = some none ∧ Q v H1
theorem pe_xfv {e : Expr} {te : TE} {pos : Pos} {n : Str} (he : PE X e te) (hb : attributeBase e n X.env (eval e X.env) = eval e X.env := by rfl) : PE X (.Attribute e n pos) (tXfv X.K n te) := by
  refine ⟨fun pins s σ H Q I h => attr_of hb (thn (he.run pins s σ H _ I h) fun u s1 ⟨x, H1, I1, rx, a, C, dx, t, fs, v, ex, ea, ed, l, E, hno, q⟩ => ?_)⟩
  subst ex
  obtain rfl : u = Value.ref a := rx
  obtain ⟨mA, hns, hr⟩ := exd_at I1.hok ed
  obtain ⟨od, ho, hl⟩ := lookIn_ns hns
  obtain ⟨u, hu, ru⟩ := RelO.some_of (v := v) (o := mA n) (by rw [← l]; exact hr n)
  exact HandSPX.exc_get I1.kIn (⟨eO_at I1.hok ea, rfl, rfl, ho⟩ : PySem.W.InstAt s1.heap a (eObj C (some dx) t) C (some od)) E.hg E.hk E.hs (PySem.W.findObj_own E.hd hno rfl (by rw [hl, hu])) (handed_of ru) ⟨v, H1, I1.tok _, ru, q⟩
/-- X(), an own class without own __init__ -/
theorem pe_err0 {C : Addr} {bmB : List Value} {B newId initId : String} {x : Str} {p pos : Pos} (F : ExcBaseFacts B newId initId bmB) (q : PySem.W.excIn X.K C bmB newId = true) (gC : X.mg x = some (.ref C)) (kC : PySem.W.keepIn X.K (.ref C) = true) (hg : Gl X x)
    (hdb : (x == ("__debug__" : Str)) = false := by decide) : PE X (.Call (.Name x p) [] [] pos) (fun _ H Q => ∀ a, H a = none → Q (.ref a) (upd H a (ExO (.ref C) a))) := by
  refine ⟨fun pins s σ H Q I h => wpAny_Call_Name_kw (ld_glob I hg gC (PySem.W.callWith_K0 I.kIn kC ?_) hdb)⟩
  obtain ⟨bm, N, nm, qn, bs, hdct, sn, sub, ab, col, dd, k0, k1, k2, k3, k5, mN, hC, hN, hni, T⟩ := exc_obj I.kIn q
  refine wpAny_call_exc_subT F T hC hN hni (fun h' e hm => ?_) (Nat.zero_le _)
  have hn := I.hok.gone hm.new
  obtain ⟨t, ht, _, _⟩ := hm.there
  exact ⟨.ref e, _, I.laidN hm.keeps hm.new hn (exO_ok ht ⟨rfl, rfl⟩ rfl rfl rfl (show 4 < 6 by decide)), rfl, h e hn⟩
end
end Gd

namespace Gd
open PySem PySem.Spec PyProof.Rows L2
section
open PySem.Builtin PySem.Builtin.BaseException
variable {prog : Program} {w : World} {A : Around} {E : Value → Shared → Prop} {s : Shared} {K : PySem.W.Frag} {C e t0 : Addr} {n : Int} {tk : Tok} {cd : ClassData} {nm : String}
def errText (nm : String) (n : Int) : Str := Str.ofString ((nm.cutAt '.').getLastD "") ++ Str.ofString "(" ++ Str.ofString (toString n) ++ Str.ofString ")"
theorem pyRepr_int {Q : Str → Shared → Prop} (hn : n.natAbs.log2 < 1920) (h : ∀ t, Q (toString n) { s with toks := t }) : wpAny (model prog w) A (pyRepr (.int n tk)) Q E s := by
  unfold pyRepr
  exact wpAny_bind (pyReprObj_int hn (wpAny_pure (h _)))
theorem nameWhole {Q : String → Shared → Prop} (x : PySem.ExcC K C e t0 s.heap) (hcl : PySem.W.clsIn K C = some cd) (h : Q cd.name.toString s) : wpAny (model prog w) A (typeNameOfWhole (.ref e)) Q E s := by
  unfold typeNameOfWhole shownTypeOf
  refine wpAny_bind (wpAny_bind (x.LT.here ?_))
  rw [if_neg (by simp)]
  refine wpAny_pure ?_
  show wpAny _ _ (do return (← classData C).name.toString) _ _ _
  exact wpAny_bind ((PySem.W.looks_clsIn x.1 hcl).here (wpAny_pure h))
theorem bexcRepr_int {Q : Fin → Shared → Prop} (x : PySem.ExcC K C e t0 s.heap) (ht : s.heap.TupAt t0 [.int n tk]) (hcl : PySem.W.clsIn K C = some cd) (en : cd.name.toString = nm) (hn : n.natAbs.log2 < 1920) (hz : (errText nm n).length ≤ sizeLine)
    (hp : (Str.ofString ((nm.cutAt '.').getLastD "")).length + 1 ≤ sizeLine) (hq : ∀ t u, Q (.done (.ret (.str (errText nm n) u))) { s with toks := t }) : wpAny (model prog w) A (Builtin.«BaseException.__repr__» ⟨[.ref e], []⟩) Q E s := by
  subst en
  unfold errText at hz hq
  unfold Builtin.«BaseException.__repr__» Builtin.bexcReprAt
  repeat (first | with_reducible refine nameWhole x hcl ?_ | with_reducible refine bexcArgs_C x ht ?_ | rw [pyReprUnder_leaf (v := .int n tk) (by rw [Nat.zero_add]; exact hp) (by intro a; nofun)] | with_reducible refine pyRepr_int hn fun _ => ?_ | wp_step)
  exact hq _ _
theorem repr_own {Q : Value → Shared → Prop} (hu : A.units + 1 < cLine) (x : PySem.ExcC K C e t0 s.heap) (ht : s.heap.TupAt t0 [.int n tk]) (hs : PySem.W.findIn K (.ref C) "__repr__" = some (some (.builtin "BaseException.__repr__"))) (hB : PySem.W.subIn K (.ref C) (.type "BaseException") = some true)
    (hcl : PySem.W.clsIn K C = some cd) (en : cd.name.toString = nm) (hn : n.natAbs.log2 < 1920) (hz : (errText nm n).length ≤ sizeLine) (hp : (Str.ofString ((nm.cutAt '.').getLastD "")).length + 1 ≤ sizeLine)
    (hq : ∀ t u, Q (.str (errText nm n) u) { s with toks := t }) : wpAny (model prog w) A (call (.builtin "repr") [.ref e]) Q E s := by
  have hf : PySem.W.Looks (model prog w) s.heap (typeLookup (.ref C) "__repr__") (some (.builtin "BaseException.__repr__")) := PySem.W.looks_findIn x.1 hs
  refine Calls.call_function_entry F.kind_repr F.plain_repr F.entry_repr (F.args_repr1 _) ?_
  unfold Builtin.«repr»
  refine wpAny_bind (m := oneArg "repr" _) (wpAny_pure (wpAny_bind (wpAny_cRoomFor (show A.in1.units < cLine from hu) (wpAny_bind ?_))))
  unfold specialOf
  refine wpAny_bind (x.LT.here (hf.here ?_))
  rw [if_neg (by simp)]
  refine wpAny_bind (m := callSpecialIfBound? (.ref e) (Str.ofString "__repr__")) ?_
  simp only [callSpecialIfBound?, bindSpecialIfBound?]
  unfold specialOf
  have fin : ∀ {A : Around}, wpAny (model prog w) A (call (.builtin "BaseException.__repr__") ([.ref e] ++ []) >>= fun v => pure (some v)) (fun o s' => ∃ t u, o = some (.str (errText nm n) u) ∧ s' = { s with toks := t }) E s := fun {A} => by
    refine wpAny_bind (wpAny_call (codeAny_call_builtin F.excStr_Exception.repr.plain F.entry_bexc_repr (@PySem.W.check_slot (model prog w) _ _ s "BaseException.__repr__" "BaseException" "__repr__" (.ref e) [] [] _ (by decide +kernel) (by decide +kernel) (x.LI hB) (F.args_bexc_repr _) ?_)))
    exact bexcRepr_int x ht hcl en hn hz hp fun t u => wpAny_pure ⟨t, u, rfl, rfl⟩
  refine wpAny_holding (wpAny_bind (wpAny_bind (wpAny_bind (x.LT.here (hf.here ?_)))))
  dsimp only
  simp only [F.excStr_Exception.repr.bind]
  refine wpAny_bind (wpAny_askSetting (wpAny_ite ?_))
  have done : ∀ (o : Option Value) (s' : Shared), (∃ t u, o = some (.str (errText nm n) u) ∧ s' = { s with toks := t }) → wpAny (model prog w) A.in1 (match o with
            | some r => do
              let b ← isInstance r (Value.type "str")
              if b = true then ret r
                else do
                  rule "repr.not-str"
                  let y ← typeNameOf r
                  raiseErrorMade "TypeError" (toString "__repr__ returned non-string (type " ++ toString y ++ toString ")")
            | x => unsupported "repr:special-get-raises") (fun fin s' => ∃ v, fin = Fin.done (Flow.ret v) ∧ Q v s') E s' := fun o s' ⟨t, u, e1, e2⟩ => by
    subst e1 e2
    dsimp only
    refine wpAny_bind (wpAny_isInstance (typeIs_str _ _ _) isSubtype_str_str ?_)
    rw [if_pos rfl]
    exact wpAny_pure ⟨_, rfl, hq _ _⟩
  split
  · exact wpAny_bind (wpAny_pure (wpAny_pure (wpAny_mono fin done fun _ _ z => z)))
  · exact wpAny_tryCatch (wpAny_bind (wpAny_pure (wpAny_pure (wpAny_mono fin done fun _ _ z => z))))
end
/-- what repr needs of an own error class -/
structure ErrR (K : PySem.W.Frag) (C : Addr) (nm : String) : Prop where
  rp : PySem.W.findIn K (.ref C) "__repr__" = some (some (.builtin "BaseException.__repr__"))
  b : PySem.W.subIn K (.ref C) (.type "BaseException") = some true
  n : (PySem.W.clsIn K C).map (fun c => c.name.toString) = some nm
section
variable {X : Cx} {K : PySem.W.Frag} {H : Hp} {Q : VK}
/-- repr(e), e such an error of one integer -/
def rReprE (K : PySem.W.Frag) : List V → Hp → VK → Prop := fun xs H Q => ∃ (a C t : Addr) (d : Option Addr) (nm : String) (n : Int), xs = [.ref a] ∧ H a = some (eO a C d t) ∧ H t = some (.tup [.int n]) ∧ ErrR K C nm ∧ n.natAbs.log2 < 1920 ∧ (errText nm n).length ≤ sizeLine ∧ (Str.ofString ((nm.cutAt '.').getLastD "")).length + 1 ≤ sizeLine ∧ Q (.str (errText nm n)) H
theorem call_reprE (hu : X.A.units + 64 < cLine) : CallR X (.builtin "repr") (rReprE X.K) := by
  intro pins s σ H xs us Q I r h
  obtain ⟨a, C, t, d, nm, n, rfl, ea, et, R, hn, hz, hp, q⟩ := h
  obtain ⟨u, rfl, rv⟩ := vals1 r
  cases rv
  obtain ⟨cd, hcl, en⟩ := Option.map_eq_some_iff.mp R.n
  have ho := eO_at I.hok ea
  have xt : ObjOk X.prog X.w H s.heap t (.tup [.int n]) := I.hok t _ et
  obtain ⟨_, its, ri, ot, h1, h2, k, h3⟩ := xt
  obtain ⟨u, rfl, tk, rfl⟩ := vals1 ri
  exact repr_own (by omega) ⟨I.kIn, _, _, ho, rfl, rfl, rfl⟩ ⟨ot, k, h1, h2, h3⟩ R.rp R.b hcl en hn hz hp fun tk u => ⟨.str _, H, I.kept (t' := tk) fun _ _ z => z, ⟨_, rfl⟩, q⟩
theorem call_or2 {f : Value} {r1 r2 : List V → Hp → VK → Prop} (h1 : CallR X f r1) (h2 : CallR X f r2) : CallR X f (fun xs H Q => r1 xs H Q ∨ r2 xs H Q) := fun pins s σ H xs us Q I r h => h.elim (h1 pins s σ H xs us Q I r) (h2 pins s σ H xs us Q I r)
theorem pe_or2 {e : Expr} {t1 t2 : TE} (h1 : PE X e t1) (h2 : PE X e t2) : PE X e (fun σ H Q => t1 σ H Q ∨ t2 σ H Q) := ⟨fun pins s σ H Q I h => h.elim (h1.run pins s σ H Q I) (h2.run pins s σ H Q I)⟩
end
end Gd

namespace Gd
open PySem PySem.Spec PyProof.Rows L2
/-! ### a family of own error classes, read off the written part at once -/
def excB (K : PySem.W.Frag) (D : Addr) : Bool := decide (PySem.W.findIn K (.ref D) "__getattribute__" = some (some (.builtin "BaseException.__getattribute__"))) && (decide (PySem.W.findIn K (.ref D) "__getattr__" = some none) && (decide (PySem.W.subIn K (.ref D) (.type "BaseException") = some true) && (PySem.W.hasDictIn K D && (decide (PySem.W.findIn K (.ref D) "__class__" = some (some (.builtin "object.__class__"))) && (decide (PySem.W.specialIn K (.builtin "object.__class__") "__get__" = some (some (.builtin "getset_descriptor.__get__"))) && (decide (PySem.W.takesIn K (.builtin "object.__class__") = some true) && decide (PySem.W.mroIn K D (.type "object") = some true)))))))
theorem excB_ok {K : PySem.W.Frag} {D : Addr} (h : excB K D = true) : ExcC K D := by
  unfold excB at h
  simp only [Bool.and_eq_true, decide_eq_true_eq] at h
  obtain ⟨h1, h2, h3, h4, h5, h6, h7, h8⟩ := h
  exact ⟨h1, h2, h3, h4, h5, h6, h7, h8⟩
/-- each is of itself and of the first one -/
def famB (K : PySem.W.Frag) (cs : List Addr) : Bool := (cs.zipIdx.all fun p => cs.zipIdx.all fun q => decide (PySem.W.kitOne K (.ref p.1) (.ref q.1) = some (decide (p.2 = q.2) || decide (q.2 = 0)))) && cs.all fun c => excB K c && (decide (PySem.W.kitOne K (.ref c) (.type "ValueError") = some true) && decide (PySem.W.kitAny K (.ref c) [.type "list", .type "dict"] = some false))
structure Fam (K : PySem.W.Frag) (cs : List Addr) : Prop where
  one : ∀ (i j : Nat) (c d : Addr), cs[i]? = some c → cs[j]? = some d → PySem.W.kitOne K (.ref c) (.ref d) = some (decide (i = j) || decide (j = 0))
  exc : ∀ c ∈ cs, ExcC K c
  ve : ∀ c ∈ cs, PySem.W.kitOne K (.ref c) (.type "ValueError") = some true
  ld : ∀ c ∈ cs, PySem.W.kitAny K (.ref c) [.type "list", .type "dict"] = some false
theorem famB_ok {K : PySem.W.Frag} {cs : List Addr} (h : famB K cs = true) : Fam K cs := by
  unfold famB at h
  rw [Bool.and_eq_true, List.all_eq_true, List.all_eq_true] at h
  obtain ⟨h1, h2⟩ := h
  have h3 : ∀ c ∈ cs, ExcC K c ∧ PySem.W.kitOne K (.ref c) (.type "ValueError") = some true ∧ PySem.W.kitAny K (.ref c) [.type "list", .type "dict"] = some false := fun c hc => by
    have z := h2 c hc
    simp only [Bool.and_eq_true, decide_eq_true_eq] at z
    exact ⟨excB_ok z.1, z.2.1, z.2.2⟩
  refine ⟨fun i j c d hi hj => ?_, fun c hc => (h3 c hc).1, fun c hc => (h3 c hc).2.1, fun c hc => (h3 c hc).2.2⟩
  have z := List.all_eq_true.mp (h1 (c, i) (by rw [List.mem_zipIdx_iff_getElem?]; exact hi)) (d, j) (by rw [List.mem_zipIdx_iff_getElem?]; exact hj)
  exact of_decide_eq_true z
/-- an own class whose __init__ sets one field -/
structure ErrI (K : PySem.W.Frag) (C fI : Addr) (f : Str) : Prop where
  o : OexC K C
  i : PySem.W.findIn K (.ref C) "__init__" = some (some (.ref fI))
  t : PySem.W.typeIn K (.ref fI) = some (.type "function")
  n : PySem.W.findIn K (.ref C) f = some none
def iniB (K : PySem.W.Frag) (C fI : Addr) (f : Str) : Bool := (match K.lookup C with
  | some ⟨.type "type", _, .cls cd, sl⟩ => (match cd.mro, sl.toList with
    | .ref c :: bm, [_, _, _, _, some (.builtin n), _] => c == C && (n == "ValueError.__new__" && (!cd.hasDel && (cd.hasDict && PySem.HandSPX.refsVE bm)))
    | _, _ => false)
  | _ => false) && (decide (PySem.W.findIn K (.ref C) "__setattr__" = some (some (.builtin "object.__setattr__"))) && (decide (PySem.W.subIn K (.ref C) (.type "BaseException") = some true) && (decide (PySem.W.typeIn K (.ref C) = some (.type "type")) && (PySem.W.keepIn K (.ref C) && (decide (PySem.W.findIn K (.ref C) "__init__" = some (some (.ref fI))) && (decide (PySem.W.typeIn K (.ref fI) = some (.type "function")) && decide (PySem.W.findIn K (.ref C) f = some none)))))))
theorem iniB_ok {K : PySem.W.Frag} {C fI : Addr} {f : Str} (h : iniB K C fI f = true) : ErrI K C fI f := by
  unfold iniB at h
  rw [Bool.and_eq_true] at h
  obtain ⟨q, h⟩ := h
  simp only [Bool.and_eq_true, decide_eq_true_eq] at h
  obtain ⟨h1, h2, h3, h4, h5, h6, h7⟩ := h
  refine ⟨⟨?_, h1, h2, h3, h4⟩, h5, h6, h7⟩
  split at q
  · rename_i dd cd sl ho
    split at q
    · rename_i c bm k0 k1 k2 k3 n k5 hm hs
      simp only [Bool.and_eq_true, beq_iff_eq, Bool.not_eq_true'] at q
      obtain ⟨rfl, rfl, hdel, hdt, hbm⟩ := q
      obtain ⟨nm, bs, mro, ns, qn, hd, sn, sub, ab, col, del⟩ := cd
      dsimp only at hm hdel hdt
      subst hm hdel hdt
      obtain ⟨l⟩ := sl
      simp only at hs
      subst hs
      exact ⟨nm, qn, ns, bs, bm, sn, sub, ab, col, dd, k0, k1, k2, k3, k5, ho, hbm⟩
    · cases q
  · cases q
def rprB (K : PySem.W.Frag) (C : Addr) (nm : String) : Bool := decide (PySem.W.findIn K (.ref C) "__repr__" = some (some (.builtin "BaseException.__repr__"))) && (decide (PySem.W.subIn K (.ref C) (.type "BaseException") = some true) && decide ((PySem.W.clsIn K C).map (fun c => c.name.toString) = some nm))
theorem rprB_ok {K : PySem.W.Frag} {C : Addr} {nm : String} (h : rprB K C nm = true) : ErrR K C nm := by
  unfold rprB at h
  simp only [Bool.and_eq_true, decide_eq_true_eq] at h
  exact ⟨h.1, h.2.1, h.2.2⟩
/-- what such an __init__ does -/
def sp_ini (C : Addr) (f : Str) : Sp := fun vs H Q _ => ∃ (a t : Addr) (v : V), vs = [.ref a, v] ∧ H a = some (eO a C none t) ∧ ∀ dx, H dx = none → dx ≠ a → Q .non (upd (upd H dx (exd dx [(f, v)])) a (eO a C (some dx) t))
section
variable {K : PySem.W.Frag} {σ : L2.St} {H : Hp} {Q : VK} {D : Ends}
theorem i_sto {f : Str} {to te : TE} (h : te σ H fun y H1 => to σ H1 fun x H2 => ∃ a C t : Addr, x = .ref a ∧ OexC K C ∧ PySem.W.findIn K (.ref C) f = some none ∧ H2 a = some (eO a C none t) ∧ ∀ dx, H2 dx = none → dx ≠ a → D.nx σ (upd (upd H2 dx (exd dx [(f, y)])) a (eO a C (some dx) t))) : tSto K f to te D σ H := h
theorem i_mkE {C : Addr} {sp : Sp} {ta : TA} (h : ta σ H fun vs H1 => vs.length ≤ 1000 ∧ ∀ t a, H1 t = none → H1 a = none → t ≠ a → sp (.ref a :: vs) (upd (upd H1 t (.tup vs)) a (eO a C none t)) (fun v H2 => v = .non ∧ Q (.ref a) H2) E0) : tMkE C sp ta σ H Q := h
theorem i_mkF {C : Addr} {f : Str} {v : V} {R : Addr → Hp → Prop} (k : ∀ H' a dx t, Same H H' → H a = none → H' a = some (eO a C (some dx) t) → H' dx = some (exd dx [(f, v)]) → H' t = some (.tup [v]) → R a H') :
    [v].length ≤ 1000 ∧ ∀ t a, H t = none → H a = none → t ≠ a → sp_ini C f (.ref a :: [v]) (upd (upd H t (.tup [v])) a (eO a C none t)) (fun v H2 => v = .non ∧ R a H2) E0 := by
  refine ⟨by show 1 ≤ 1000; omega, fun t a nt na ne => ⟨a, t, v, rfl, upd_same, fun dx nd nda => ⟨rfl, ?_⟩⟩⟩
  have ndt : dx ≠ t := fun z => by
    rw [z, upd_ne ne, upd_same] at nd
    cases nd
  rw [upd_ne nda, upd_ne ndt] at nd
  refine k _ a dx t (fun b o e => ?_) na upd_same (by rw [upd_ne nda, upd_same]) (by rw [upd_ne ne, upd_ne ndt.symm, upd_ne ne, upd_same])
  have h1 : b ≠ a := ne_of_none e na
  rw [upd_ne h1, upd_ne (ne_of_none e nd), upd_ne h1, upd_ne (ne_of_none e nt)]
  exact e
theorem i_xfv {f : Str} {te : TE} (h : te σ H fun x H1 => ∃ (a C dx t : Addr) (fs : List (Str × V)) (v : V), x = .ref a ∧ H1 a = some (eO a C (some dx) t) ∧ H1 dx = some (exd dx fs) ∧ fs.lookup f = some v ∧ ExcC K C ∧ PySem.W.findIn K (.ref C) f = some none ∧ Q v H1) : tXfv K f te σ H Q := h
theorem i_isV {a D : Addr} {c : V} {cv : Value} {b : Bool} (he : ErrAt H a D) (C : ExcC K D) (hcv : ∀ u, RelV c u → u = cv) (e : PySem.W.kitOne K (.ref D) cv = some b) (k : Q (.bl b) H) : rIsV K [.ref a, c] H Q := ⟨a, D, c, cv, b, rfl, he, C, hcv, e, k⟩
end
theorem ErrAt.same {H H' : Hp} {a C : Addr} (h : ErrAt H a C) (s : Same H H') : ErrAt H' a C := by
  rcases h with ⟨d, t, e, f⟩ | e
  · exact .inl ⟨d, t, s _ _ e, fun dx q => (f dx q).imp fun fs z => s _ _ z⟩
  · exact .inr (s _ _ e)
/-- an error with its one field -/
def FErr (H : Hp) (f : Str) (v : V) (C e : Addr) : Prop := ∃ dx t, H e = some (eO e C (some dx) t) ∧ H dx = some (exd dx [(f, v)])
theorem FErr.same {H H' : Hp} {f : Str} {v : V} {C e : Addr} (h : FErr H f v C e) (s : Same H H') : FErr H' f v C e := by
  obtain ⟨dx, t, h1, h2⟩ := h
  exact ⟨dx, t, s _ _ h1, s _ _ h2⟩
theorem FErr.err {H : Hp} {f : Str} {v : V} {C e : Addr} (h : FErr H f v C e) : ErrAt H e C := by
  obtain ⟨dx, t, h1, h2⟩ := h
  exact .inl ⟨_, t, h1, fun d q => by cases q; exact ⟨_, h2⟩⟩
/-- a row of such an error and a thing -/
def ERow (H : Hp) (v : V) (C q : Addr) : Prop := ∃ e, H q = some (.tup [.ref e, v]) ∧ ErrAt H e C
theorem ERow.same {H H' : Hp} {v : V} {C q : Addr} (h : ERow H v C q) (s : Same H H') : ERow H' v C q := by
  obtain ⟨e, h1, h2⟩ := h
  exact ⟨e, s _ _ h1, h2.same s⟩
section
variable {K : PySem.W.Frag} {H : Hp} {Q : VK}
theorem i_mk1 {C : Addr} {f : Str} {v : V} {R : Addr → Hp → Prop} (k : ∀ H' a, Same H H' → H a = none → FErr H' f v C a → R a H') :
    [v].length ≤ 1000 ∧ ∀ t a, H t = none → H a = none → t ≠ a → sp_ini C f (.ref a :: [v]) (upd (upd H t (.tup [v])) a (eO a C none t)) (fun v H2 => v = .non ∧ R a H2) E0 :=
  i_mkF fun H' a dx t s n h1 h2 _ => k H' a s n ⟨dx, t, h1, h2⟩
theorem i_fld {f : Str} {v : V} {C e : Addr} {R : V → Prop} (h : FErr H f v C e) (E : ExcC K C) (n : PySem.W.findIn K (.ref C) f = some none) (k : R v) : ∃ (a C dx t : Addr) (fs : List (Str × V)) (v : V), V.ref e = .ref a ∧ H a = some (eO a C (some dx) t) ∧ H dx = some (exd dx fs) ∧ fs.lookup f = some v ∧ ExcC K C ∧ PySem.W.findIn K (.ref C) f = some none ∧ R v := by
  obtain ⟨dx, t, h1, h2⟩ := h
  exact ⟨e, C, dx, t, _, v, rfl, h1, h2, by simp [List.lookup], E, n, k⟩
end
theorem mt_indexK {X : Cx} {K : PySem.W.Frag} (h : X.K = K) : MtR X "list.index" (rIndex K) := h ▸ mt_index
theorem DefM.of {K : PySem.W.Frag} {x qual : Str} {st : Stmt} {f : Addr} {fd : FuncData} {ps : List Str} (F : L2.Fun K x qual st f fd) (b : Binds K fd ps []) : DefM K x qual st f fd ps := by
  obtain ⟨oc, od, kV, doc, pm, an, cdv, ct, osl, e, l, c⟩ := F.ex
  exact ⟨⟨oc, od, .none, kV, doc, pm, an, cdv, ct, osl, e, l, c⟩, b⟩
end Gd

namespace Gd
open PySem PySem.Spec PyProof.Rows L2
section
variable {X : Cx} {es : List Expr} {t : TA} {pos : Pos}
/-- [..], whose place is told to be none of the built-in tables -/
def tLstS (t : TA) : TE := fun σ H Q => t σ H fun xs H1 => xs.length ≤ sizeLine ∧ ∀ p, H1 p = none → p ≠ sysModules → Q (.ref p) (upd H1 p (.lst xs))
theorem pe_lstS (h : PA X es t) : PE X (.List es pos) (tLstS t) := by
  refine ⟨fun pins s σ H Q I hq => wpAny_List_spliced (thn (h.run pos pins s σ H _ I hq) fun us s1 ⟨xs, H1, I1, r, z, q⟩ => ⟨by rw [← r.length]; exact z, ?_⟩)⟩
  exact ⟨.ref s1.heap.objs.size, _, I1.laid (o := .lst xs) (t' := s1.toks) (fun b u e => Heap.get?_push_of_some _ e) (Nat.le_refl _) ⟨z, us, 0, r, Heap.get?_push_size _ rfl⟩, rfl, q _ (I1.hok.fresh (Nat.le_refl _)) (Nat.ne_of_gt I1.big)⟩
/-- repr of {k: []} -/
def rReprM : List V → Hp → VK → Prop := fun xs H Q => ∃ (l a : Addr) (k : Str) (d : PyData), xs = [.ref l] ∧ H l = some (.dK [(.inr k, .ref a)]) ∧ H a = some (.lst []) ∧ a ≠ sysModules ∧ d = .dict [(.str k, .list [])] ∧ d.showable = true ∧ d.depth ≤ 40 ∧ d.shown.length ≤ sizeLine ∧ Q (.str d.shown) H
theorem call_reprM (hG : X.A.guards = some []) (hu : X.A.units + 64 < cLine) : CallR X (.builtin "repr") rReprM := by
  intro pins s σ H xs us Q I r h
  obtain ⟨l, a, k, d, rfl, hl, ha, na, ed, hs, hp, hz, q⟩ := h
  obtain ⟨u, rfl, rv⟩ := vals1 r
  cases rv
  obtain ⟨_, ne, vs, kv, o, es, ep, ho, hx, hd, _, pr, _⟩ := I.hok l _ hl
  obtain ⟨_, its, n, ri, h1⟩ : ObjOk X.prog X.w H s.heap a (.lst []) := I.hok a _ ha
  cases ri
  cases kv with
  | cons k1 k2 =>
    cases k2
    obtain ⟨e1, rv⟩ := k1
    cases hes : es.toList with
    | nil => rw [hes] at pr; cases pr
    | cons e r =>
      rw [hes] at pr
      cases pr with
      | cons p1 p2 p3 =>
        cases p3
        simp only at e1
        rw [← e1] at p1
        rw [← p2] at rv
        have ev : e.val = Value.ref a := rv
        have rd : Reads s.heap (.ref l) d ([l] ++ ([] ++ []) ++ (([a] ++ []) ++ [])) := by
          rw [ed]
          refine Reads.dict ho (by first | exact hx.cls | exact hx.1 | exact hx) hd (as := [] ++ []) (bs := ([a] ++ []) ++ []) ?_ ?_
          · rw [hes]
            exact .cons (key_reads (k := .inr k) (u := e.key) p1) .nil
          · rw [hes]
            show ReadsAll _ [e.val] _ _
            rw [ev]
            exact .cons (Reads.list h1 rfl rfl .nil) .nil
        refine repr_of_reads' rd hs (fun _ => ?_) hG (by omega) (fun _ _ e => e) (fun h' t tk hk => ⟨.str d.shown, H, I.kept hk, ⟨t, rfl⟩, q⟩) hz
        simp only [List.append_nil, List.cons_append, List.nil_append, List.mem_cons, List.not_mem_nil, or_false, not_or]
        exact ⟨fun e => by rw [← e] at ne; simp at ne, fun e => na e.symm⟩
end
end Gd

namespace Gd
open PySem PySem.Spec PyProof.Rows L2
/-! ### != of an own class that says == -/
section
variable {prog : Program} {w : World} {A : Around} {E : Value → Shared → Prop} {s : Shared} {K : PySem.W.Frag} {x C L f : Addr} {h₀ : Heap} {m : Str → Option Value} {ox : Obj} {od : Option Obj} {b tb : Value}
theorem own_ifBound {Q : Option Value → Shared → Prop} (X : K.In s.heap) (I : PySem.W.InstAt s.heap x ox C od) (hs : PySem.W.findIn K (.ref C) "__ne__" = some (some (.builtin "object.__ne__")))
    (h : wpAny (model prog w) A (call (.builtin "object.__ne__") [.ref x, b]) (fun v => Q (some v)) E s) : wpAny (model prog w) A (callSpecialIfBound? (.ref x) "__ne__" [b]) Q E s := by
  have hf : PySem.W.Looks (model prog w) s.heap (typeLookup (.ref C) "__ne__") (some (.builtin "object.__ne__")) := PySem.W.looks_findIn X hs
  simp only [callSpecialIfBound?, bindSpecialIfBound?]
  refine wpAny_holding (wpAny_bind (wpAny_bind (wpAny_bind (I.type.here (hf.here ?_)))))
  dsimp only
  simp only [PySem.F.slot_object_ne.bind]
  refine wpAny_bind (wpAny_askSetting (wpAny_ite ?_))
  have fin : wpAny (model prog w) A (call (.builtin "object.__ne__") ([.ref x] ++ [b]) >>= fun v => pure (some v)) Q E s := wpAny_bind (wpAny_mono h (fun v s' h' => wpAny_pure h') fun _ _ h' => h')
  split
  · exact wpAny_bind (wpAny_pure (wpAny_pure fin))
  · exact wpAny_tryCatch (wpAny_bind (wpAny_pure (wpAny_pure fin)))
theorem own_ne {Q : Value → Shared → Prop} (hu : A.in1.units < cLine) (X : K.In s.heap) (I : PySem.W.InstAt s.heap x ox C od) (hm : PySem.W.mroIn K C (.type "object") = some true) (he : PySem.W.findIn K (.ref C) "__eq__" = some (some (.ref f))) (hf : PySem.W.isFn K (.ref f) = true)
    (h : wpAny (model prog w) A.in1 (call (.ref f) [.ref x, b]) (fun v s' => ∃ c, v = .bool c ∧ Q (.bool (!c)) s') E s) : wpAny (model prog w) A (call (.builtin "object.__ne__") [.ref x, b]) Q E s := by
  refine wpAny_call (codeAny_call_builtin PySem.F.slot_object_ne.plain PySem.F.entry_object_ne (PySem.W.check_slot (i := "object.__ne__") (owner := "object") (n := "__ne__") (by decide +kernel) (by decide +kernel) (I.type.andThen (PySem.W.looks_mroIn X hm)) (PySem.F.args_object_ne_2 _ _) ?_))
  unfold Builtin.«object.__ne__»
  refine wpAny_bind (wpAny_pure ?_)
  refine wpAny_bind (m := cRoomFor _ _) (wpAny_cRoomFor hu ?_)
  refine wpAny_bind (m := callSpecialIfBound? (.ref x) (Str.ofString "__eq__") [b]) (PySem.W.ifBound_K X I he hf (wpAny_mono h (fun r s' hr => ?_) fun _ _ y => y))
  obtain ⟨c, rfl, hq⟩ := hr
  exact wpAny_bind (wpAny_truthy_bool (wpAny_pure hq))
theorem own_cmpNe {Q : Value → Shared → Prop} (hu : A.in1.units < cLine) (F : Fr h₀ L s.heap m) (X₀ : K.In h₀) (I : PySem.W.InstAt s.heap x ox C od) (hb : PySem.W.Looks (model prog w) s.heap (typeOf b) tb) (hn : PySem.W.notFirst K C tb = true)
    (hne : PySem.W.findIn K (.ref C) "__ne__" = some (some (.builtin "object.__ne__"))) (hm : PySem.W.mroIn K C (.type "object") = some true) (he : PySem.W.findIn K (.ref C) "__eq__" = some (some (.ref f))) (hf : PySem.W.isFn K (.ref f) = true)
    (h : wpAny (model prog w) A.in1 (call (.ref f) [.ref x, b]) (fun v s' => ∃ c, v = .bool c ∧ Q (.bool (!c)) s') E s) : wpAny (model prog w) A (richCompare .NotEq (.ref x) b) Q E s := by
  have X := X₀.keeps F.keep
  have one : wpAny (model prog w) A (tryCompare (.ref x) "__ne__" b) (fun r s' => ∃ v, r = some v ∧ Q v s') E s := by
    unfold tryCompare
    refine wpAny_bind (own_ifBound X I hne (own_ne hu X I hm he hf (wpAny_mono h (fun v s' hv => ?_) fun _ _ e => e)))
    obtain ⟨c, rfl, q⟩ := hv
    exact ⟨c, rfl, wpAny_pure ⟨_, rfl, q⟩⟩
  have hu0 : A.units < cLine := Nat.lt_of_succ_lt hu
  unfold richCompare
  simp only [PySem.oneThing_ref]
  refine wpAny_holding (wpAny_bind (wpAny_cRoomFor hu0 ?_))
  rw [cmpInfo_NotEq]
  dsimp only
  refine wpAny_bind (I.type.here (wpAny_bind (hb.here ?_)))
  split
  · rename_i q
    have e : PySem.W.subIn K tb (.ref C) = some false := by
      rcases Bool.or_eq_true_iff.mp hn with e | e
      · rw [beq_iff_eq.mp e] at q; simp at q
      · exact beq_iff_eq.mp e
    refine wpAny_bind ((PySem.W.looks_subIn X e).here ?_)
    simp only [Bool.false_eq_true, if_false]
    refine wpAny_bind (wpAny_mono one (fun r s' z => ?_) fun _ _ e => e)
    obtain ⟨v, rfl, hq⟩ := z
    exact wpAny_pure hq
  · refine wpAny_bind (wpAny_pure ?_)
    simp only [Bool.false_eq_true, if_false]
    refine wpAny_bind (wpAny_mono one (fun r s' z => ?_) fun _ _ e => e)
    obtain ⟨v, rfl, hq⟩ := z
    exact wpAny_pure hq
end
/-! ### what such a class must have; its operators as rules -/
/-- the type of a value: an instance of an own class, or a datum -/
def TyO (K : PySem.W.Frag) (H : Hp) (v : V) (T : Value) : Prop := (∃ (a C dx : Addr) (fs : List (Str × V)), v = .ref a ∧ H a = some (.ins C dx fs) ∧ Cls K C ∧ SlX.SIsi K C ∧ T = .ref C) ∨ ∃ d, Dt K H v d ∧ T = .type (tyN d)
structure OEq (K : PySem.W.Frag) (C g : Addr) : Prop where
  at_ : PySem.W.findIn K (.ref C) "__eq__" = some (some (.ref g))
  fn : PySem.W.isFn K (.ref g) = true
  ne : PySem.W.findIn K (.ref C) "__ne__" = some (some (.builtin "object.__ne__"))
  cm : PySem.W.mroIn K C (.type "object") = some true
structure OMul (K : PySem.W.Frag) (C g : Addr) : Prop where
  at_ : PySem.W.findIn K (.ref C) "__mul__" = some (some (.ref g))
  fn : PySem.W.isFn K (.ref g) = true
  sf : PySem.W.selfFirst K C = true
structure OSp (K : PySem.W.Frag) (C g : Addr) (x : Str) : Prop where
  at_ : PySem.W.findIn K (.ref C) x = some (some (.ref g))
  fn : PySem.W.isFn K (.ref g) = true
section
variable {X : Cx} {CX : CXT} {n : Nat} {C g : Addr} {sp : Sp} {E : XK}
theorem tyO_kit {pins : List (Addr × Obj)} {σ : L2.St} {H : Hp} {s : Shared} {v : V} {T u : Value} (I : Inv X pins σ H s) (h : TyO X.K H v T) (rv : RelV v u) :
    ∃ P : Heap → Prop, PySem.W.KitX X.K u T P ∧ P s.heap ∧ u ≠ .builtin "__main__.__loader__#opaque" := by
  rcases h with ⟨a, C, dx, fs, rfl, ha, hc, hi, rfl⟩ | ⟨d, hd, rfl⟩
  · cases (show u = Value.ref a from rv)
    obtain ⟨mA, O, _, _, _, _⟩ := ins_get I.hok ha
    obtain ⟨od, J, _⟩ := O.look
    exact ⟨_, PySem.W.kitx_own (hc.get _) hc.hd hi.ca hi.cn hi.ct hi.cm, J, fun z => nomatch z⟩
  · exact kit_dt I rv hd
def rOwnC (K : PySem.W.Frag) (C : Addr) (sp : Sp) (E : XK) : R2 := fun x y H Q => ∃ (a dx : Addr) (fs : List (Str × V)) (T : Value), x = .ref a ∧ H a = some (.ins C dx fs) ∧ TyO K H y T ∧ PySem.W.notFirst K C T = true ∧ sp [x, y] H Q E
/-- x == y by the own def -/
theorem op_eqO (O : OEq X.K C g) (F : FnR X.prog X.w X.K X.mg X.base CX n g sp) (hr : Room n X.A) (hx : Passes CX X E) : OpR X (compareOp .Eq) (rOwnC X.K C sp E) := by
  intro pins s σ H x y v u Q I rx ry h
  obtain ⟨a, dx, fs, T, rfl, ha, ht, hn, q⟩ := h
  cases (show v = Value.ref a from rx)
  obtain ⟨mA, Ob, _, _, _, _⟩ := ins_get I.hok ha
  obtain ⟨od, J, _⟩ := Ob.look
  obtain ⟨P, Z, p, _⟩ := tyO_kit I ht ry
  obtain ⟨m, hF⟩ := I.fr
  show wpAny _ _ (richCompare .Eq _ _) _ _ _
  refine PySem.W.cmp_K (op := .Eq) hr.units0 hF I.ok.mod.kin J (Z.ty _ _ I.kIn p) hn O.at_ O.fn ?_
  refine wpAny_mono (wpAny_call (run_fnR (us := [.ref a, u]) (vs := [.ref a, y]) F hr hx I (.cons rfl (.cons ry .nil)) q)) (fun w s' z => ?_) fun _ _ x => x
  obtain ⟨z', H', I', rz, qz⟩ := z
  exact SlX.cmpback rz ⟨z', H', I', rz, qz⟩
/-- x != y by the own == -/
def rOwnN (K : PySem.W.Frag) (C : Addr) (sp : Sp) (E : XK) : R2 := fun x y H Q => ∃ (a dx : Addr) (fs : List (Str × V)) (T : Value), x = .ref a ∧ H a = some (.ins C dx fs) ∧ TyO K H y T ∧ PySem.W.notFirst K C T = true ∧ sp [x, y] H (fun v H' => ∃ b, v = .bl b ∧ Q (.bl (!b)) H') E
theorem op_neO (O : OEq X.K C g) (F : FnR X.prog X.w X.K X.mg X.base CX n g sp) (hr : Room (n + 1) X.A) (hx : Passes CX X E) : OpR X (compareOp .NotEq) (rOwnN X.K C sp E) := by
  intro pins s σ H x y v u Q I rx ry h
  obtain ⟨a, dx, fs, T, rfl, ha, ht, hn, q⟩ := h
  cases (show v = Value.ref a from rx)
  obtain ⟨mA, Ob, _, _, _, _⟩ := ins_get I.hok ha
  obtain ⟨od, J, _⟩ := Ob.look
  obtain ⟨P, Z, p, _⟩ := tyO_kit I ht ry
  obtain ⟨m, hF⟩ := I.fr
  show wpAny _ _ (richCompare .NotEq _ _) _ _ _
  have hr1 : Room n X.A.in1 := Room.in1 hr
  refine own_cmpNe hr1.units0 hF I.ok.mod.kin J (Z.ty _ _ I.kIn p) hn O.ne O.cm O.at_ O.fn ?_
  refine wpAny_mono (wpAny_call (SlX.run_at (us := [.ref a, u]) (ws := [.ref a, y]) F hr1 I.env0.in1 hx I (.cons rfl (.cons ry .nil)) q)) (fun w s' z => ?_) fun _ _ x => x
  obtain ⟨z', H', I', rz, c, rfl, qz⟩ := z
  cases (show w = Value.bool c from rz)
  exact ⟨c, rfl, .bl (!c), H', I', rfl, qz⟩
/-- x * y, both of the class -/
def rOwnM (C : Addr) (sp : Sp) (E : XK) : R2 := fun x y H Q => ∃ (a dx b dy : Addr) (fs gs : List (Str × V)), x = .ref a ∧ y = .ref b ∧ H a = some (.ins C dx fs) ∧ H b = some (.ins C dy gs) ∧ sp [x, y] H Q E
theorem op_mulO (O : OMul X.K C g) (F : FnR X.prog X.w X.K X.mg X.base CX n g sp) (hr : Room n X.A) (hx : Passes CX X E) : OpR X (binaryOp .Mult) (rOwnM C sp E) := by
  intro pins s σ H x y v u Q I rx ry h
  obtain ⟨a, dx, b, dy, fs, gs, rfl, rfl, ha, hb, q⟩ := h
  cases (show v = Value.ref a from rx)
  cases (show u = Value.ref b from ry)
  obtain ⟨mA, Oa, _, _, _, _⟩ := ins_get I.hok ha
  obtain ⟨od, J, _⟩ := Oa.look
  obtain ⟨mB, Ob, _, _, _, _⟩ := ins_get I.hok hb
  obtain ⟨od', J', _⟩ := Ob.look
  obtain ⟨m, hF⟩ := I.fr
  refine PySem.W.binop_K (op := .Mult) hF I.ok.mod.kin J J'.type O.sf O.at_ O.fn ?_
  refine wpAny_mono (wpAny_call (run_fnR (us := [.ref a, .ref b]) (vs := [.ref a, .ref b]) F hr hx I (.cons rfl (.cons rfl .nil)) q)) (fun w s' z => ?_) fun _ _ x => x
  obtain ⟨z', H', I', rz, qz⟩ := z
  exact SlX.cmpback rz ⟨z', H', I', rz, qz⟩
/-- repr(x), str(x) by the own defs -/
def rOwnT (C : Addr) (sp : Sp) (E : XK) : List V → Hp → VK → Prop := fun xs H Q => ∃ (a dx : Addr) (fs : List (Str × V)), xs = [.ref a] ∧ H a = some (.ins C dx fs) ∧ sp [.ref a] H (fun v H' => ∃ z, v = .str z ∧ Q v H') E
theorem call_reprO (O : OSp X.K C g "__repr__") (F : FnR X.prog X.w X.K X.mg X.base CX n g sp) (hr : Room (n + 1) X.A) (hx : Passes CX X E) : CallR X (.builtin "repr") (rOwnT C sp E) := by
  intro pins s σ H xs us Q I r h
  obtain ⟨a, dx, fs, rfl, ha, q⟩ := h
  obtain ⟨u, rfl, ru⟩ := r.one
  cases (show u = Value.ref a from ru)
  obtain ⟨mA, Oa, _, _, _, _⟩ := ins_get I.hok ha
  obtain ⟨od, J, _⟩ := Oa.look
  obtain ⟨m, hF⟩ := I.fr
  have hr1 : Room n X.A.in1 := Room.in1 hr
  refine PySem.W.repr_K hr1.units0 hF I.ok.mod.kin J O.at_ O.fn (wpAny_mono (wpAny_call (SlX.run_at (us := [.ref a]) (ws := [.ref a]) F hr1 I.env0.in1 hx I (.cons rfl .nil) q)) (fun w s' z => ?_) fun _ _ x => x)
  obtain ⟨z', H', I', rz, t, rfl, qz⟩ := z
  obtain ⟨tk, rfl⟩ := rz
  exact ⟨.str t, H', I', ⟨tk, rfl⟩, qz⟩
theorem call_strO (O : OSp X.K C g "__str__") (F : FnR X.prog X.w X.K X.mg X.base CX n g sp) (hr : Room (n + 2) X.A) (hx : Passes CX X E) : CallR X (.type "str") (rOwnT C sp E) := by
  intro pins s σ H xs us Q I r h
  obtain ⟨a, dx, fs, rfl, ha, q⟩ := h
  obtain ⟨u, rfl, ru⟩ := r.one
  cases (show u = Value.ref a from ru)
  obtain ⟨mA, Oa, _, _, _, _⟩ := ins_get I.hok ha
  obtain ⟨od, J, _⟩ := Oa.look
  have hr2 : Room n X.A.in1.in1 := (show Room (n + 1) X.A.in1 from Room.in1 hr).in1
  refine PySem.W.kso_call hr2.units0 I.kIn J O.at_ O.fn (wpAny_mono (wpAny_call (SlX.run_at (us := [.ref a]) (ws := [.ref a]) F hr2 I.env0.in1.in1 hx I (.cons rfl .nil) q)) (fun w s' z => ?_) fun _ _ x => x)
  obtain ⟨z', H', I', rz, t, rfl, qz⟩ := z
  obtain ⟨tk, rfl⟩ := rz
  exact ⟨.str t, H', I', ⟨tk, rfl⟩, qz⟩
/-- isinstance(x, c): x an instance of an own class or a datum -/
def rIsO (K : PySem.W.Frag) : List V → Hp → VK → Prop := fun xs H Q => ∃ (v c : V) (T cv : Value) (b : Bool), xs = [v, c] ∧ (∀ u, RelV c u → u = cv) ∧ TyO K H v T ∧ PySem.W.kitOne K T cv = some b ∧ Q (.bl b) H
theorem call_isO : CallR X (.builtin "isinstance") (rIsO X.K) := by
  intro pins s σ H xs us Q I r h
  obtain ⟨v, c, T, cv, b, rfl, hc, ht, hk, q⟩ := h
  obtain ⟨u1, u2, rfl, r1, r2⟩ := r.two
  cases hc _ r2
  obtain ⟨P, Z, p, hx⟩ := tyO_kit I ht r1
  exact PySem.W.kia_one Z I.kIn p hk hx fun tk => ⟨.bl b, H, I.tok _, rfl, q⟩
end
/-! ### C() of a class whose __init__ takes what there is -/
section
variable {X : Cx} {CX : CXT} {k i : Nat} {f C : Addr} {sp : Sp} {E : XK} {x : Str} {e fe : Expr} {es : List Expr} {te tf : TE} {t : TA} {p pos sp_ : Pos}
theorem pe_makeR0 (M : Mk X.K C f) (F : FnR X.prog X.w X.K X.mg X.base CX k f sp) (hr : Room (k + 1) X.A) (hg : Gl X x) (hm : X.mg x = some (.ref C)) (hx : Passes CX X E) (hdb : (x == ("__debug__" : Str)) = false := by decide) : PE X (.Call (.Name x p) [] [] pos) (StX.tMakeR C sp E tNil) := by
  refine ⟨fun pins s σ H Q I h => ?_⟩
  refine wpAny_Call_Name_kw (ld_glob I hg hm ?_ hdb)
  exact PySem.W.callWith_K0 I.kIn M.kp (StX.run_makeR (us := []) (vs := []) M F hr hx I .nil h)
end
end Gd

namespace Gd
open PySem PySem.Spec PyProof.Rows L2
/-! ### a def with a star parameter -/
structure DefS (K : PySem.W.Frag) (x qual : Str) (st : Stmt) (f : Addr) (fd : FuncData) (ps : List Str) (pv : Str) : Prop where
  ex : ∃ (oc : Value) (od : Option Addr) (dV kV doc pm : Value) (an : Option Addr) (cdv ct : Value) (osl : Array (Option Value)),
    fd = PySem.W.fnOf x qual (defArgs st) (defBody st) (defScope st) dV kV doc pm an cdv ct ∧ K.lookup f = some ⟨oc, od, .func fd, osl⟩ ∧ PySem.W.codeIn K cdv qual = true ∧
    ∀ us rest : List Value, us.length = ps.length → bindArgs (PySem.W.fnOf x qual (defArgs st) (defBody st) (defScope st) dV kV doc pm an cdv ct) ⟨us ++ rest, []⟩ = (newTuple rest >>= fun t => pure (ps.zip us ++ [(pv, t)]))
def spStar (ps : List Str) (sp : Sp) : Sp := fun vs H Q E => ∃ ws rest, vs = ws ++ rest ∧ ws.length = ps.length ∧ rest.length ≤ sizeLine ∧ ∀ p, H p = Option.none → sp (ws ++ [V.ref p]) (upd H p (.tup rest)) Q E
section
variable {P : Program} {w : World} {K : PySem.W.Frag} {mg : Str → Option Value} {base : Heap} {x qual pv : Str} {st : Stmt} {f : Addr} {fd : FuncData} {N ps : List Str} {k : Nat} {sp : Sp}
theorem DefS.ok (D : DefS K x qual st f fd ps pv) (S : FnScope N (ps ++ [pv]) (defScope st))
    (hbody : ∀ (cdv : Value) (A : Around) (outer : List Env) (s : Shared) (H : Hp) (vs : List V) (Q : VK) (E : XK), Room k (A.deeper (envOfC qual (defScope st) s.heap.objs.size f cdv)) → sp vs H Q E →
      ∃ t, PSs (cxOf CX0 P w K mg base N qual (defScope st) f cdv A outer s H E).nox (defBody st) t ∧ t { nx := fun _ H' => Q .non H', rt := Q } (L2.start N vs) H) : FnR P w K mg base CX0 (k + 1) f (spStar ps sp) := by
  obtain ⟨oc, od, dV, kV, doc, pm, an, cdv, ct, osl, rfl, lk, hcd, hb⟩ := D.ex
  refine StX.fn_star lk hcd S StX.cxUp_none hb fun A outer s H vs Q E hr hsp => ?_
  obtain ⟨t, h, q⟩ := hbody cdv A outer s H vs Q E hr hsp
  exact ⟨t, h.nox, q⟩
theorem okR {CX : CXT} (F : FnOk P w K mg base CX k f fd ps sp) (b : Binds K fd ps []) : FnR P w K mg base CX k f sp := (F.raw b .nil).imp fun vs H Q E h => by rw [List.append_nil]; exact h
end
theorem DefS.of1 {K : PySem.W.Frag} {x qual p1 pv : Str} {st : Stmt} {f : Addr} {oc dV kV doc pm cdv ct : Value} {od an : Option Addr} {osl : Array (Option Value)}
    (lk : K.lookup f = some ⟨oc, od, .func (PySem.W.fnOf x qual (defArgs st) (defBody st) (defScope st) dV kV doc pm an cdv ct), osl⟩) (hcd : PySem.W.codeIn K cdv qual = true)
    (h0 : ∀ a, bindArgs (PySem.W.fnOf x qual (defArgs st) (defBody st) (defScope st) dV kV doc pm an cdv ct) ⟨[a], []⟩ = (newTuple [] >>= fun t => pure [(p1, a), (pv, t)]))
    (h1 : ∀ a r rs, bindArgs (PySem.W.fnOf x qual (defArgs st) (defBody st) (defScope st) dV kV doc pm an cdv ct) ⟨a :: r :: rs, []⟩ = (newTuple (r :: rs) >>= fun t => pure [(p1, a), (pv, t)])) :
    DefS K x qual st f (PySem.W.fnOf x qual (defArgs st) (defBody st) (defScope st) dV kV doc pm an cdv ct) [p1] pv :=
  ⟨⟨oc, od, dV, kV, doc, pm, an, cdv, ct, osl, rfl, lk, hcd, StX.bind_star1 (B := fun us => bindArgs (PySem.W.fnOf x qual (defArgs st) (defBody st) (defScope st) dV kV doc pm an cdv ct) ⟨us, []⟩) h0 h1⟩⟩
/-! ### facts of own classes by one Bool each -/
def oeqB (K : PySem.W.Frag) (C g : Addr) : Bool := decide (PySem.W.findIn K (.ref C) "__eq__" = some (some (.ref g))) && (PySem.W.isFn K (.ref g) && (decide (PySem.W.findIn K (.ref C) "__ne__" = some (some (.builtin "object.__ne__"))) && decide (PySem.W.mroIn K C (.type "object") = some true)))
theorem oeqB_ok {K : PySem.W.Frag} {C g : Addr} (h : oeqB K C g = true) : OEq K C g := by
  unfold oeqB at h
  simp only [Bool.and_eq_true, decide_eq_true_eq] at h
  obtain ⟨h1, h2, h3, h4⟩ := h
  exact ⟨h1, h2, h3, h4⟩
def omulB (K : PySem.W.Frag) (C g : Addr) : Bool := decide (PySem.W.findIn K (.ref C) "__mul__" = some (some (.ref g))) && (PySem.W.isFn K (.ref g) && PySem.W.selfFirst K C)
theorem omulB_ok {K : PySem.W.Frag} {C g : Addr} (h : omulB K C g = true) : OMul K C g := by
  unfold omulB at h
  simp only [Bool.and_eq_true, decide_eq_true_eq] at h
  obtain ⟨h1, h2, h3⟩ := h
  exact ⟨h1, h2, h3⟩
def ospB (K : PySem.W.Frag) (C g : Addr) (x : Str) : Bool := decide (PySem.W.findIn K (.ref C) x = some (some (.ref g))) && PySem.W.isFn K (.ref g)
theorem ospB_ok {K : PySem.W.Frag} {C g : Addr} {x : Str} (h : ospB K C g x = true) : OSp K C g x := by
  unfold ospB at h
  simp only [Bool.and_eq_true, decide_eq_true_eq] at h
  exact ⟨h.1, h.2⟩
def ocallB (K : PySem.W.Frag) (C g : Addr) : Bool := decide (PySem.W.findIn K (.ref C) "__call__" = some (some (.ref g))) && (PySem.W.isFn K (.ref g) && PySem.W.fnIn K g)
theorem ocallB_ok {K : PySem.W.Frag} {C g : Addr} (h : ocallB K C g = true) : StX.CallO K C g := by
  unfold ocallB at h
  simp only [Bool.and_eq_true, decide_eq_true_eq] at h
  obtain ⟨h1, h2, h3⟩ := h
  exact ⟨h1, h2, h3⟩
/-- isinstance of its instances; what it is; what lists, tuples .. are not -/
structure OIs (K : PySem.W.Frag) (C : Addr) : Prop where
  si : SlX.SIsi K C
  self : PySem.W.kitOne K (.ref C) (.ref C) = some true
  not : ∀ T ∈ ["NoneType", "bool", "int", "str", "list", "tuple", "dict"], PySem.W.kitOne K (.type T) (.ref C) = some false
  sub : ∀ T ∈ ["NoneType", "bool", "int", "str", "list", "tuple", "dict"], PySem.W.subIn K (.type T) (.ref C) = some false
def oisB (K : PySem.W.Frag) (C : Addr) : Bool := decide (PySem.W.findIn K (.ref C) "__class__" = some (some (.builtin "object.__class__"))) && (decide (PySem.W.specialIn K (.builtin "object.__class__") "__get__" = some (some (.builtin "getset_descriptor.__get__"))) && (decide (PySem.W.takesIn K (.builtin "object.__class__") = some true) &&
  (decide (PySem.W.mroIn K C (.type "object") = some true) && (decide (PySem.W.kitOne K (.ref C) (.ref C) = some true) && (["NoneType", "bool", "int", "str", "list", "tuple", "dict"].all fun T => decide (PySem.W.kitOne K (.type T) (.ref C) = some false) && decide (PySem.W.subIn K (.type T) (.ref C) = some false))))))
theorem oisB_ok {K : PySem.W.Frag} {C : Addr} (h : oisB K C = true) : OIs K C := by
  unfold oisB at h
  rw [Bool.and_eq_true, Bool.and_eq_true, Bool.and_eq_true, Bool.and_eq_true, Bool.and_eq_true, List.all_eq_true] at h
  obtain ⟨h1, h2, h3, h4, h5, h6⟩ := h
  have z : ∀ T ∈ ["NoneType", "bool", "int", "str", "list", "tuple", "dict"], PySem.W.kitOne K (.type T) (.ref C) = some false ∧ PySem.W.subIn K (.type T) (.ref C) = some false := fun T hT => by
    have q := h6 T hT
    rw [Bool.and_eq_true] at q
    exact ⟨of_decide_eq_true q.1, of_decide_eq_true q.2⟩
  exact ⟨⟨of_decide_eq_true h1, of_decide_eq_true h2, of_decide_eq_true h3, of_decide_eq_true h4⟩, of_decide_eq_true h5, fun T hT => (z T hT).1, fun T hT => (z T hT).2⟩
section
variable {K : PySem.W.Frag} {C : Addr}
theorem tyN_mem (d : PyData) : tyN d ∈ ["NoneType", "bool", "int", "str", "list", "tuple", "dict"] := by
  cases d <;> simp [tyN]
theorem OIs.data (o : OIs K C) (d : PyData) : PySem.W.kitOne K (.type (tyN d)) (.ref C) = some false := o.not _ (tyN_mem d)
theorem OIs.first (o : OIs K C) (d : PyData) : PySem.W.notFirst K C (.type (tyN d)) = true := by
  unfold PySem.W.notFirst
  rw [o.sub _ (tyN_mem d)]
  simp
theorem first_self : PySem.W.notFirst K C (.ref C) = true := by
  unfold PySem.W.notFirst
  simp
end
/-! ### readings -/
section
variable {K : PySem.W.Frag} {H : Hp} {Q : VK} {σ : L2.St} {C : Addr} {sp : Sp} {E : XK}
theorem i_makeR {t : TA} (k : t σ H fun vs H1 => ∀ x dx, H1 x = Option.none → H1 dx = Option.none → dx ≠ x → sp (V.ref x :: vs) (upd (upd H1 dx (.own x)) x (.ins C dx [])) (fun v H2 => v = .non ∧ Q (.ref x) H2) E) : StX.tMakeR C sp E t σ H Q := k
theorem i_callO {X : Cx} {tf : TE} {t : TA} (k : tf σ H fun y H1 => ∃ a, y = V.ref a ∧ t σ H1 fun vs H2 => StX.InsC X H2 a C ∧ sp (V.ref a :: vs) H2 Q E) : StX.tCallO X C sp E tf t σ H Q := k
theorem i_joined {ts : List TE} (k : tJs ts Str.empty σ H fun out H1 => Q (.str out) H1) : tJs ts Str.empty σ H fun out H1 => Q (.str out) H1 := k
theorem i_fmtI {te : TE} (k : te σ H fun x H1 => (∃ y : Str, x = .str y ∧ y.length ≤ sizeLine ∧ Q (.str y) H1) ∨ ∃ i : Int, x = .int i ∧ i.natAbs.log2 < 1920 ∧ Q (.str (toString i)) H1) : tFmt te σ H Q := k
end
theorem pj_nil {X : Cx} : PJ X [] [] := .nil
theorem pj_cons {X : Cx} {e : Expr} {t : TE} {es : List Expr} {ts : List TE} (h : PE X e t) (r : PJ X es ts) : PJ X (e :: es) (t :: ts) := .cons h r
def clsB (K : PySem.W.Frag) (C : Addr) : Bool := PySem.W.plainGet K C Str.empty && (PySem.W.hasDictIn K C && (PySem.W.plainOver K C && decide (PySem.W.findIn K (.ref C) "__setattr__" = some (some (.builtin "object.__setattr__")))))
theorem clsB_ok {K : PySem.W.Frag} {C : Addr} (h : clsB K C = true) : Cls K C := by
  unfold clsB at h
  simp only [Bool.and_eq_true, decide_eq_true_eq] at h
  exact ⟨h.1, h.2.1, h.2.2.1, h.2.2.2⟩
def mkB (K : PySem.W.Frag) (C f : Addr) : Bool := PySem.W.makesIn K C && (decide (PySem.W.findIn K (.ref C) "__init__" = some (some (.ref f))) && (PySem.W.isFn K (.ref f) && PySem.W.keepIn K (.ref C)))
theorem mkB_ok {K : PySem.W.Frag} {C f : Addr} (h : mkB K C f = true) : Mk K C f := by
  unfold mkB at h
  simp only [Bool.and_eq_true, decide_eq_true_eq] at h
  exact ⟨h.1, h.2.1, h.2.2.1, h.2.2.2⟩
def methB (K : PySem.W.Frag) (C : Addr) (m : Str) (f : Addr) : Bool := decide (PySem.W.findIn K (.ref C) m = some (some (.ref f))) && (PySem.W.isFn K (.ref f) && PySem.W.keepIn K (.ref f))
theorem methB_ok {K : PySem.W.Frag} {C f : Addr} {m : Str} (h : methB K C m f = true) : Meth K C m f := by
  unfold methB at h
  simp only [Bool.and_eq_true, decide_eq_true_eq] at h
  exact ⟨h.1, h.2.1, h.2.2⟩
def noaB (K : PySem.W.Frag) (C : Addr) (f : Str) : Bool := decide (PySem.W.findIn K (.ref C) f = some none)
theorem noaB_ok {K : PySem.W.Frag} {C : Addr} {f : Str} (h : noaB K C f = true) : NoAttr K C f := by
  have e : PySem.W.findIn K (.ref C) f = some none := of_decide_eq_true h
  exact e
def propB (K : PySem.W.Frag) (C : Addr) (f : Str) (p g : Addr) : Bool := decide (PySem.W.findIn K (.ref C) f = some (some (.ref p))) && (decide (PySem.W.specialIn K (.ref p) "__get__" = some (some (.builtin "property.__get__"))) && (decide (PySem.W.takesIn K (.ref p) = some true) && (match PySem.W.recIn K p "property" with
  | some (.ref h :: _) => h == g
  | _ => false)))
theorem propB_ok {K : PySem.W.Frag} {C p g : Addr} {f : Str} (h : propB K C f p g = true) : PropOf K C f p g := by
  unfold propB at h
  simp only [Bool.and_eq_true, decide_eq_true_eq] at h
  obtain ⟨h1, h2, h3, h4⟩ := h
  refine ⟨h1, h2, h3, ?_⟩
  split at h4
  · rename_i x r e
    exact ⟨r, by rw [e, beq_iff_eq.mp h4]⟩
  · cases h4
end Gd

namespace Gd
open PySem PySem.Spec PyProof.Rows L2
/-! ### a def with one keyword-only parameter that has a default -/
structure DefK (K : PySem.W.Frag) (mg : Str → Option Value) (x : Str) (st : Stmt) (f : Addr) (fd : FuncData) (ps : List Str) (n : Nat) (k1 : Str) (v1 : V) : Prop where
  F : FunD K x x (defArgs st) (defBody st) (defScope st) [] [(k1, v1)] f fd
  m : mg x = some (.ref f)
  b : ∃ ds, Vals [v1] ds ∧ Binds K fd ps ds
  kb : ∃ g, KBn K fd ps n [k1] g (fun vs zs => vs ++ zs)
section
variable {P : Program} {w : World} {K : PySem.W.Frag} {mg : Str → Option Value} {base : Heap} {x k1 : Str} {st : Stmt} {f : Addr} {fd : FuncData} {N ps : List Str} {k n : Nat} {sp sp' : Sp} {v1 : V}
theorem DefK.ok (D : DefK K mg x st f fd ps n k1 v1) (S : FnScope N ps (defScope st)) (len : ∀ vs H Q E, sp vs H Q E → vs.length = ps.length)
    (hbody : ∀ (cdv : Value) (A : Around) (outer : List Env) (s : Shared) (H : Hp) (vs : List V) (Q : VK) (E : XK), Room k (A.deeper (envOfC x (defScope st) s.heap.objs.size f cdv)) → sp vs H Q E →
      ∃ t, PSs (cxOf CX0 P w K mg base N x (defScope st) f cdv A outer s H E).nox (defBody st) t ∧ t { nx := fun _ H' => Q .non H', rt := Q } (L2.start N vs) H) : FnOk P w K mg base CX0 (k + 1) f fd ps sp :=
  D.F.ok S len fun cdv A outer s H vs Q E hr hsp => by
    obtain ⟨t, h, q⟩ := hbody cdv A outer s H vs Q E hr hsp
    exact ⟨t, h.nox, q⟩
/-- a promise that nothing keeps -/
theorem fn_none : FnOk P w K mg base CX0 k f fd ps (fun _ _ _ _ => False) := ⟨fun _ _ _ _ h => h.elim, fun _ _ _ _ _ _ _ _ _ _ _ _ _ h => h.elim⟩
theorem fn_imp (F : FnOk P w K mg base CX0 k f fd ps sp) (h : ∀ vs H Q E, sp' vs H Q E → sp vs H Q E) : FnOk P w K mg base CX0 k f fd ps sp' :=
  ⟨fun vs H Q E z => F.len vs H Q E (h _ _ _ _ z), fun A cs s H ar us vs Q E hr e0 hb rv z => F.run A cs s H ar us vs Q E hr e0 hb rv (h _ _ _ _ z)⟩
/-- f(a, b, *, k=0) -/
theorem DefK.of2 {p1 p2 : Str} {oc pm doc cdv ct : Value} {od an : Option Addr} {D : Addr} {osl : Array (Option Value)} {u : Value}
    (lk : K.lookup f = some ⟨oc, od, .func (PySem.W.fnOf x x (defArgs st) (defBody st) (defScope st) .none (.ref D) doc pm an cdv ct), osl⟩) (hcd : PySem.W.codeIn K cdv x = true) (hk : PySem.W.keepIn K (.ref f) = true) (hm : mg x = some (.ref f))
    (hd : PySem.W.nsIn K D k1 = some (some u)) (hv : RelV v1 u)
    (h0 : ∀ (D : Addr) (doc pm : Value) (an : Option Addr) (cdv ct : Value) (a b z : Value), KwChain D [(k1, z)] (bindArgs (PySem.W.fnOf x x (defArgs st) (defBody st) (defScope st) .none (.ref D) doc pm an cdv ct) ⟨[a, b], []⟩) [(p1, a), (p2, b), (k1, z)])
    (h1 : ∀ (D : Addr) (doc pm : Value) (an : Option Addr) (cdv ct : Value) (a b z : Value), bindArgs (PySem.W.fnOf x x (defArgs st) (defBody st) (defScope st) .none (.ref D) doc pm an cdv ct) ⟨[a, b], [(k1, z)]⟩ = pure [(p1, a), (p2, b), (k1, z)]) :
    DefK K mg x st f (PySem.W.fnOf x x (defArgs st) (defBody st) (defScope st) .none (.ref D) doc pm an cdv ct) [p1, p2, k1] 2 k1 v1 := by
  have F : FunD K x x (defArgs st) (defBody st) (defScope st) [] [(k1, v1)] f (PySem.W.fnOf x x (defArgs st) (defBody st) (defScope st) .none (.ref D) doc pm an cdv ct) :=
    ⟨⟨oc, od, .none, .ref D, doc, pm, an, cdv, ct, osl, rfl, lk, hcd, .inl ⟨rfl, rfl⟩, .inr ⟨D, rfl, fun q hq => by rw [List.mem_singleton.mp hq]; exact ⟨u, hd, hv⟩⟩⟩, hk⟩
  refine ⟨F, hm, ?_, ?_⟩
  · obtain ⟨ds, h⟩ := F.binds0 (ps := [p1, p2, k1]) 2 (by simp) rfl fun D doc pm an cdv ct us ks l1 l2 => by
      match us, ks, l1, l2 with
      | [a, b], [z], _, _ => exact h0 D doc pm an cdv ct a b z
    exact ⟨ds, h⟩
  · obtain ⟨mv, h⟩ := F.kbinds0 (ps := [p1, p2, k1]) 2 [k1] [] (fun us _ ws => us ++ ws) (by simp) (fun q hq => by cases hq) (fun r1 _ r3 => r1.append r3) fun D doc pm an cdv ct us mv ws l1 l2 l3 => by
      match us, mv, ws, l1, l2, l3 with
      | [a, b], [], [z], _, _, _ => exact h1 D doc pm an cdv ct a b z
    exact ⟨_, h⟩
end
section
variable {X : Cx} {k n : Nat} {f C : Addr} {fd : FuncData} {ps : List Str} {sp : Sp} {x k1 : Str} {st : Stmt} {p pos sp_ : Pos} {e : Expr} {es : List Expr} {t tk : TA} {te : TE} {kws : List Keyword} {v1 : V} {CX : CXT} {E : XK}
theorem clK (D : DefK X.K X.mg x st f fd ps n k1 v1) (F : FnOk X.prog X.w X.K X.mg X.base CX0 k f fd ps sp) (hr : Room k X.A) (ha : PA X (e :: es) t) (hg : Gl X x := by rfl) (hdb : (x == ("__debug__" : Str)) = false := by decide)
    (he : starEach (e :: es) X.env = (false, eval e X.env) :: starEach es X.env := by rfl) (hpl : (backTo pos (starEach es X.env)).any (·.1) = false := by rfl) : PE X (.Call (.Name x p) (e :: es) [] pos) (tCall sp [v1] E0 t) := by
  obtain ⟨ds, hv, hb⟩ := D.b
  exact pe_call F hr hg D.m D.F.kp hb hv pass0 ha hdb he hpl
theorem clKW (D : DefK X.K X.mg x st f fd ps n k1 v1) (F : FnOk X.prog X.w X.K X.mg X.base CX0 k f fd ps sp) (hr : Room k X.A) (ha : PA X (e :: es) t) (hkw : PK X kws tk) (hg : Gl X x := by rfl) (hall : (backToKw pos (keywordEach kws X.env)).all (·.1.isSome) = true := by rfl)
    (hks : (backToKw pos (keywordEach kws X.env)).filterMap (·.1) = [k1] := by rfl)
    (hdb : (x == ("__debug__" : Str)) = false := by decide) (he : starEach (e :: es) X.env = (false, eval e X.env) :: starEach es X.env := by rfl)
    (hpl : ((backTo pos (starEach (e :: es) X.env)).any (·.1) || (backToKw pos (keywordEach kws X.env)).any (·.1.isNone)) = false := by rfl) : PE X (.Call (.Name x p) (e :: es) kws pos) (tCallN n 1 sp (fun vs zs => vs ++ zs) E0 t tk) := by
  obtain ⟨g, hb⟩ := D.kb
  exact pe_callN F hr hg D.m D.F.kp hb pass0 ha hkw hall hks hdb he hpl
/-- C(*y) -/
def tMakeS (K : PySem.W.Frag) (C : Addr) (sp : Sp) (E : XK) (te : TE) : TE := fun σ H Q => te σ H fun y H1 => ∃ a xs, y = V.ref a ∧ (SqT K H1 a xs ∨ SqL K H1 a xs) ∧ ∀ x dx, H1 x = Option.none → H1 dx = Option.none → dx ≠ x → sp (V.ref x :: xs) (upd (upd H1 dx (.own x)) x (.ins C dx [])) (fun v H2 => v = .non ∧ Q (.ref x) H2) E
theorem pe_makeS (M : Mk X.K C f) (F : FnR X.prog X.w X.K X.mg X.base CX k f sp) (hr : Room (k + 1) X.A) (hg : Gl X x) (hm : X.mg x = some (.ref C)) (hx : Passes CX X E) (he : PE X e te) (hd : (x == ("__debug__" : Str)) = false := by decide)
    (hst : starEach [.Starred e sp_] X.env = [(true, eval e X.env)] := by rfl) : PE X (.Call (.Name x p) [.Starred e sp_] [] pos) (tMakeS X.K C sp E te) := by
  refine ⟨fun pins s σ H Q I h => ?_⟩
  refine wpAny_Call_Name_kw (ld_glob I hg hm ?_ hd)
  refine PySem.W.callWith_S (h₀ := X.base) I.ok.mod.kin M.kp (thn (he.run pins s σ H _ I h) fun v s1 ⟨y, H1, I1, ry, a, xs, ey, hxs, q⟩ => ?_) hst
  subst ey
  obtain rfl : v = Value.ref a := ry
  exact StX.star_any I1 hxs fun us s2 I2 rv => ⟨I2.kIn, StX.run_makeR M F hr hx I2 rv q⟩
end
section
variable {K : PySem.W.Frag} {H : Hp} {Q : VK} {σ : L2.St} {C : Addr} {sp : Sp} {E : XK} {te : TE} {t tk : TA} {n m : Nat} {gV : List V → List V → List V}
theorem i_makeS (k : te σ H fun y H1 => ∃ a xs, y = V.ref a ∧ (SqT K H1 a xs ∨ SqL K H1 a xs) ∧ ∀ x dx, H1 x = Option.none → H1 dx = Option.none → dx ≠ x → sp (V.ref x :: xs) (upd (upd H1 dx (.own x)) x (.ins C dx [])) (fun v H2 => v = .non ∧ Q (.ref x) H2) E) : tMakeS K C sp E te σ H Q := k
theorem i_callN (k : t σ H fun vs H1 => tk σ H1 fun zs H2 => vs.length = n ∧ zs.length = m ∧ sp (gV vs zs) H2 Q E) : tCallN n m sp gV E t tk σ H Q := k
end
def rDivM : List V → Hp → VK → Prop := fun xs H Q => ∃ i j : Int, xs = [.int i, .int j] ∧ CDiv i j ∧ ∀ p, H p = none → Q (.ref p) (upd H p (.tup [.int (i / j), .int (i % j)]))
theorem call_dvm {X : Cx} : CallR X (.builtin "divmod") rDivM := call_divmod
end Gd

namespace Gd
open PySem PySem.Spec PyProof.Rows L2
/-! ### lanes and their rows, without a program -/
section
variable {K : PySem.W.Frag}
/-! a lane by its two numbers -/
def stepW (w : Int) (r : Int × Int) : Int := if w + r.1 - r.2 > 0 then w + r.1 - r.2 else 0
def wF (rs : List (Int × Int)) (w : Int) : Int := rs.foldl stepW w
def dF (rs : List (Int × Int)) : Int := rs.foldl (fun d r => d + r.1 - r.2) 0
/-- rows at their places -/
structure RwT (K : PySem.W.Frag) (H : Hp) (qs : List Addr) (rs : List (Int × Int)) : Prop where
  len : qs.length = rs.length
  at_ : ∀ (i : Nat) (q : Addr) (r : Int × Int), qs[i]? = some q → rs[i]? = some r → SqT K H q [.int r.1, .int r.2]
theorem RwT.same {H H' : Hp} {qs : List Addr} {rs : List (Int × Int)} (h : RwT K H qs rs) (s : Same H H') : RwT K H' qs rs := ⟨h.len, fun i q r a b => Gd.Same.tup s (h.at_ i q r a b)⟩
def laneFs (l d : Int) : List (Str × V) := [(("_least" : Str), .int l), (("_drift" : Str), .int d)]
theorem wF_take {rs : List (Int × Int)} {i : Nat} {r : Int × Int} (e : rs[i]? = some r) (w : Int) : wF (rs.take (i + 1)) w = stepW (wF (rs.take i) w) r := by
  unfold wF
  rw [List.take_add_one, e, List.foldl_append]
  rfl
theorem dF_take {rs : List (Int × Int)} {i : Nat} {r : Int × Int} (e : rs[i]? = some r) : dF (rs.take (i + 1)) = dF (rs.take i) + r.1 - r.2 := by
  unfold dF
  rw [List.take_add_one, e, List.foldl_append]
  rfl
/-- the lane l, d at x -/
def LnA (C : Addr) (H : Hp) (x : Addr) (l d : Int) : Prop := ∃ dx, H x = some (.ins C dx (laneFs l d))
theorem LnA.same {C : Addr} {H H' : Hp} {x : Addr} {l d : Int} (h : LnA C H x l d) (s : Same H H') : LnA C H' x l d := h.imp fun dx e => s _ _ e
theorem i_lfld {C : Addr} {H : Hp} {x : Addr} {l d : Int} {f : Str} {v : V} {R : V → Prop} (h : LnA C H x l d) (c : Cls K C) (n : NoAttr K C f) (e : (laneFs l d).lookup f = some v) (k : R v) : ∃ a C' dx fs v, V.ref x = .ref a ∧ H a = some (.ins C' dx fs) ∧ Cls K C' ∧ NoAttr K C' f ∧ fs.lookup f = some v ∧ R v := by
  obtain ⟨dx, h⟩ := h
  exact ⟨x, C, dx, _, v, rfl, h, c, n, e, k⟩
def lnF (l d w : Int) : Int := if w + d > l then w + d else l
/-- what a lane's numbers keep -/
def LnV (l d : Int) : Prop := 0 ≤ l ∧ d ≤ l
theorem same_make {H : Hp} {x dx : Addr} {o o' : HO} (nx : H x = none) (nd : H dx = none) (ne : dx ≠ x) : Same H (upd (upd H dx o) x o') := by
  refine same_upd (same_upd (Same.refl H) nd) ?_
  rw [upd_ne (Ne.symm ne)]
  exact nx
def mulL (l d l' d' : Int) : Int := if l + d' > l' then l + d' else l'
theorem mul_ok {l d l' d' : Int} (h : LnV l d) (h' : LnV l' d') : LnV (mulL l d l' d') (d + d') := by
  obtain ⟨h1, h2⟩ := h
  obtain ⟨h3, h4⟩ := h'
  unfold mulL
  constructor <;> split <;> omega
def repL (l d n : Int) : Int := if n = 0 then 0 else l + (n - 1) * (if d > 0 then d else 0)
theorem rep_ok {l d n : Int} (h : LnV l d) (hn : 0 ≤ n) : LnV (repL l d n) (n * d) := by
  obtain ⟨h0, h1⟩ := h
  unfold repL
  by_cases e : n = 0
  · subst e
    rw [if_pos rfl, Int.zero_mul]
    exact ⟨by omega, by omega⟩
  · rw [if_neg e]
    have h2 : 0 ≤ n - 1 := by omega
    have h3 : n * d = d + (n - 1) * d := by rw [Int.sub_mul]; omega
    by_cases hd : d > 0
    · rw [if_pos hd]
      have h4 : 0 ≤ (n - 1) * d := Int.mul_nonneg h2 (by omega)
      exact ⟨by omega, by omega⟩
    · rw [if_neg hd, Int.mul_zero]
      have h4 : (n - 1) * d ≤ 0 := Int.mul_nonpos_of_nonneg_of_nonpos h2 (by omega)
      exact ⟨by omega, by omega⟩
def RwB (r : Int × Int) : Prop := 0 ≤ r.1 ∧ r.1 ≤ 10 ^ 18 ∧ 0 ≤ r.2 ∧ r.2 ≤ 10 ^ 18
/-- rows in a list at p, apart from the bag -/
structure RwL (K : PySem.W.Frag) (b : Addr) (H : Hp) (p : Addr) (qs : List Addr) (rs : List (Int × Int)) : Prop where
  ne : p ≠ b
  lst : H p = some (.lst (qs.map V.ref))
  row : RwT K (hid b H) qs rs
theorem RwL.but {b : Addr} {H H' : Hp} {p : Addr} {qs : List Addr} {rs : List (Int × Int)} (h : RwL K b H p qs rs) (s : But b H H') : RwL K b H' p qs rs := ⟨h.ne, s _ _ h.ne h.lst, h.row.same s.hid⟩
theorem RwL.rows {b : Addr} {H : Hp} {p : Addr} {qs : List Addr} {rs : List (Int × Int)} (h : RwL K b H p qs rs) : RwT K H qs rs := h.row.same hid_same
theorem RwL.len {b : Addr} {H : Hp} {p : Addr} {qs : List Addr} {rs : List (Int × Int)} (h : RwL K b H p qs rs) : qs.length = rs.length := h.row.len
theorem RwT.app {H : Hp} {qs qs' : List Addr} {rs rs' : List (Int × Int)} (h : RwT K H qs rs) (h' : RwT K H qs' rs') : RwT K H (qs ++ qs') (rs ++ rs') := by
  refine ⟨by rw [List.length_append, List.length_append, h.len, h'.len], fun i q r e1 e2 => ?_⟩
  by_cases hi : i < qs.length
  · rw [List.getElem?_append_left hi] at e1
    rw [List.getElem?_append_left (by rw [← h.len]; exact hi)] at e2
    exact h.at_ i q r e1 e2
  · rw [List.getElem?_append_right (by omega)] at e1
    rw [List.getElem?_append_right (by rw [← h.len]; omega), ← h.len] at e2
    exact h'.at_ _ q r e1 e2
theorem RwT.one {H : Hp} {q : Addr} {r : Int × Int} (h : SqT K H q [.int r.1, .int r.2]) : RwT K H [q] [r] := ⟨rfl, fun i q' r' e1 e2 => by
  match i, e1, e2 with
  | 0, e1, e2 =>
    cases e1
    cases e2
    exact h⟩
theorem RwT.nil {H : Hp} : RwT K H [] [] := ⟨rfl, fun i q r e => by simp at e⟩
/-! what lanes come to -/
theorem step_ln (l d w : Int) (r : Int × Int) : stepW (lnF l d w) r = lnF (stepW l r) (d + r.1 - r.2) w := by
  obtain ⟨s, g⟩ := r
  unfold stepW lnF
  dsimp only
  repeat' split
  all_goals omega
def dG (rs : List (Int × Int)) (d : Int) : Int := rs.foldl (fun d r => d + r.1 - r.2) d
theorem wF_ln : ∀ (rs : List (Int × Int)) (l d w : Int), wF rs (lnF l d w) = lnF (wF rs l) (dG rs d) w
  | [], _, _, _ => rfl
  | r :: rs, l, d, w => by
    show wF rs (stepW (lnF l d w) r) = lnF (wF rs (stepW l r)) (dG rs (d + r.1 - r.2)) w
    rw [step_ln, wF_ln rs]
theorem dG_add : ∀ (rs : List (Int × Int)) (d : Int), dG rs d = d + dF rs
  | [], d => by show d = d + 0; omega
  | r :: rs, d => by
    show dG rs (d + r.1 - r.2) = d + dG rs (0 + r.1 - r.2)
    rw [dG_add rs, dG_add rs (0 + r.1 - r.2)]
    omega
theorem dF_app (rs rs' : List (Int × Int)) : dF (rs ++ rs') = dF rs + dF rs' := by
  have e : dF (rs ++ rs') = dG rs' (dF rs) := List.foldl_append
  rw [e, dG_add]
theorem wF_lane (rs : List (Int × Int)) {w : Int} (h : 0 ≤ w) : wF rs w = lnF (wF rs 0) (dF rs) w := by
  have e := wF_ln rs 0 0 w
  have e0 : lnF 0 0 w = w := by
    unfold lnF
    split <;> omega
  rw [e0] at e
  rw [e]
  rfl
theorem wF_app (rs rs' : List (Int × Int)) (w : Int) : wF (rs ++ rs') w = wF rs' (wF rs w) := List.foldl_append
theorem lane_ok0 : ∀ (rs : List (Int × Int)) {l d : Int}, LnV l d → LnV (wF rs l) (dG rs d)
  | [], _, _, h => h
  | r :: rs, l, d, h => lane_ok0 rs (by
    obtain ⟨s, g⟩ := r
    obtain ⟨h1, h2⟩ := h
    unfold LnV stepW
    dsimp only
    constructor <;> split <;> omega)
theorem lane_ok (rs : List (Int × Int)) : LnV (wF rs 0) (dF rs) := lane_ok0 rs ⟨by omega, by omega⟩
theorem mul_rows (rs rs' : List (Int × Int)) : mulL (wF rs 0) (dF rs) (wF rs' 0) (dF rs') = wF (rs ++ rs') 0 := by
  rw [wF_app, wF_lane rs' (lane_ok rs).1]
  rfl
theorem wF_bound : ∀ (rs : List (Int × Int)) (w : Int), 0 ≤ w → (∀ r ∈ rs, RwB r) → 0 ≤ wF rs w ∧ wF rs w ≤ w + rs.length * 10 ^ 18
  | [], w, h, _ => ⟨h, by show w ≤ w + 0 * 10 ^ 18; omega⟩
  | r :: rs, w, h, hb => by
    obtain ⟨b1, b2, b3, b4⟩ := hb r List.mem_cons_self
    obtain ⟨s, g⟩ := r
    dsimp only at b1 b2 b3 b4
    have h1 : 0 ≤ stepW w (s, g) ∧ stepW w (s, g) ≤ w + 10 ^ 18 := by
      unfold stepW
      dsimp only
      constructor <;> split <;> omega
    have h2 := wF_bound rs (stepW w (s, g)) h1.1 fun r' hr' => hb r' (List.mem_cons_of_mem _ hr')
    refine ⟨h2.1, Int.le_trans h2.2 ?_⟩
    rw [List.length_cons, Int.natCast_add, Int.add_mul]
    omega
theorem dG_bound : ∀ (rs : List (Int × Int)) (d : Int), (∀ r ∈ rs, RwB r) → d - rs.length * 10 ^ 18 ≤ dG rs d ∧ dG rs d ≤ d + rs.length * 10 ^ 18
  | [], d, _ => ⟨by show d - 0 * 10 ^ 18 ≤ d; omega, by show d ≤ d + 0 * 10 ^ 18; omega⟩
  | r :: rs, d, hb => by
    obtain ⟨b1, b2, b3, b4⟩ := hb r List.mem_cons_self
    obtain ⟨s, g⟩ := r
    dsimp only at b1 b2 b3 b4
    have h2 := dG_bound rs (d + s - g) fun r' hr' => hb r' (List.mem_cons_of_mem _ hr')
    show _ ≤ dG rs (d + s - g) ∧ dG rs (d + s - g) ≤ _
    rw [List.length_cons, Int.natCast_add, Int.add_mul]
    omega
theorem LnA.hid {C b : Addr} {H : Hp} {x : Addr} {l d : Int} (h : LnA C H x l d) (n : x ≠ b) : LnA C (Gd.hid b H) x l d := h.imp fun dx e => by rw [hid_ne n]; exact e
/-- a lane of these rows at x, apart from the bag -/
def LnR (C b : Addr) (H : Hp) (x : Addr) (rs : List (Int × Int)) : Prop := LnA C (hid b H) x (wF rs 0) (dF rs)
theorem LnR.but {C b : Addr} {H H' : Hp} {x : Addr} {rs : List (Int × Int)} (h : LnR C b H x rs) (s : But b H H') : LnR C b H' x rs := LnA.same h s.hid
theorem LnR.at_ {C b : Addr} {H : Hp} {x : Addr} {rs : List (Int × Int)} (h : LnR C b H x rs) : LnA C H x (wF rs 0) (dF rs) := LnA.same h hid_same
theorem rep_one (l d : Int) : repL l d 1 = l := by
  unfold repL
  rw [if_neg (by omega), Int.sub_self, Int.zero_mul]
  omega
theorem rep_zero (l d : Int) : repL l d 0 = 0 := if_pos rfl
theorem rep_add {l d m n : Int} (h : LnV l d) (hm : 0 ≤ m) (hn : 0 ≤ n) : mulL (repL l d m) (m * d) (repL l d n) (n * d) = repL l d (m + n) := by
  have v1 := rep_ok h hm
  have v2 := rep_ok h hn
  by_cases e1 : m = 0
  · subst e1
    rw [rep_zero, Int.zero_add]
    unfold mulL
    obtain ⟨h3, h4⟩ := v2
    rw [if_neg (by omega)]
  by_cases e2 : n = 0
  · subst e2
    rw [rep_zero, Int.add_zero, Int.zero_mul]
    obtain ⟨h3, h4⟩ := v1
    unfold mulL
    split <;> omega
  unfold repL mulL
  rw [if_neg e1, if_neg e2, if_neg (show ¬ m + n = 0 by omega)]
  by_cases hd : d > 0
  · rw [if_pos hd]
    have a1 : 0 < m * d := Int.mul_pos (by omega) hd
    have a2 : (m - 1) * d = m * d - d := by rw [Int.sub_mul]; omega
    have a3 : (n - 1) * d = n * d - d := by rw [Int.sub_mul]; omega
    have a4 : (m + n - 1) * d = m * d + n * d - d := by rw [Int.sub_mul, Int.add_mul]; omega
    rw [a2, a3, a4]
    split <;> omega
  · rw [if_neg hd, Int.mul_zero, Int.mul_zero, Int.mul_zero]
    have a1 : n * d ≤ 0 := Int.mul_nonpos_of_nonneg_of_nonpos hn (by omega)
    split <;> omega
theorem rep_rep {l d m n : Int} (hm : 0 ≤ m) (hn : 0 ≤ n) : repL (repL l d m) (m * d) n = repL l d (m * n) := by
  by_cases e2 : n = 0
  · subst e2
    rw [Int.mul_zero, rep_zero, rep_zero]
  by_cases e1 : m = 0
  · subst e1
    rw [Int.zero_mul, Int.zero_mul, rep_zero]
    unfold repL
    rw [if_neg e2]
    simp
  have e3 : ¬ m * n = 0 := fun z => (Int.mul_eq_zero.mp z).elim e1 e2
  unfold repL
  rw [if_neg e2, if_neg e1, if_neg e3]
  by_cases hd : d > 0
  · rw [if_pos hd, if_pos (Int.mul_pos (by omega) hd)]
    have a1 : (n - 1) * (m * d) = m * n * d - m * d := by
      rw [Int.sub_mul, Int.one_mul, ← Int.mul_assoc, Int.mul_comm n m]
    rw [a1, Int.sub_mul, Int.sub_mul]
    omega
  · have a1 : m * d ≤ 0 := Int.mul_nonpos_of_nonneg_of_nonpos hm (by omega)
    rw [if_neg hd, if_neg (by omega)]
    simp
theorem hid_comm (x y : Addr) (H : Hp) : hid x (hid y H) = hid y (hid x H) := by
  funext c
  unfold hid
  split <;> split <;> rfl
/-- rows stay rows when a list apart from them is hidden -/
theorem RwL.hidL {b D p : Addr} {H : Hp} {qs : List Addr} {rs : List (Int × Int)} {ys : List V} (h : RwL K b H p qs rs) (hD : H D = some (.lst ys)) (Db : D ≠ b) (n : p ≠ D) : RwL K b (hid D H) p qs rs := by
  refine ⟨h.ne, by rw [hid_ne n]; exact h.lst, h.row.len, fun i q r a e => ?_⟩
  rw [hid_comm]
  exact hid_tup (by rw [hid_ne Db]; exact hD) (h.row.at_ i q r a e)
/-- rows of which none is served shorter -/
inductive Lng : List (Int × Int) → List (Int × Int) → Prop
  | nil : Lng [] []
  | cons {r r' : Int × Int} {rs rs' : List (Int × Int)} : r'.2 = r.2 → r.1 ≤ r'.1 → Lng rs rs' → Lng (r :: rs) (r' :: rs')
theorem Lng.len {rs rs' : List (Int × Int)} (h : Lng rs rs') : rs.length = rs'.length := by
  induction h with
  | nil => rfl
  | cons _ _ _ ih => rw [List.length_cons, List.length_cons, ih]
theorem Lng.app {rs rs' : List (Int × Int)} {r r' : Int × Int} (h : Lng rs rs') (e1 : r'.2 = r.2) (e2 : r.1 ≤ r'.1) : Lng (rs ++ [r]) (rs' ++ [r']) := by
  induction h with
  | nil => exact .cons e1 e2 .nil
  | cons a b _ ih => exact .cons a b ih
theorem lng_le {rs rs' : List (Int × Int)} (h : Lng rs rs') : ∀ {w w' : Int}, w ≤ w' → wF rs w ≤ wF rs' w' := by
  induction h with
  | nil => exact fun e => e
  | @cons r r' rs rs' a b _ ih =>
    intro w w' e
    refine ih ?_
    unfold stepW
    split <;> split <;> omega
/-- a list at S has changed -/
theorem RwL.mut {b S p : Addr} {H : Hp} {qs : List Addr} {rs : List (Int × Int)} {xs : List V} (h : RwL K b H p qs rs) (hS : H S = some (.lst xs)) (ne : p ≠ S) (o : HO) : RwL K b (upd H S o) p qs rs := by
  refine ⟨h.ne, by rw [upd_ne ne]; exact h.lst, h.row.len, fun j q r a1 a2 => ?_⟩
  have z := h.row.at_ j q r a1 a2
  rcases z with (z | ⟨o', z⟩) | z
  · have qb : q ≠ b := fun e => by
      rw [e] at z
      unfold hid at z
      rw [if_pos rfl] at z
      cases z
    refine .inl (.inl ?_)
    rw [hid_ne qb] at z ⊢
    rw [upd_ne (ne_of z hS (by intro z; cases z))]
    exact z
  · have qb : q ≠ b := fun e => by
      rw [e] at z
      unfold hid at z
      rw [if_pos rfl] at z
      cases z
    refine .inl (.inr ⟨o', ?_⟩)
    rw [hid_ne qb] at z ⊢
    rw [upd_ne (ne_of z hS (by intro z; cases z))]
    exact z
  · exact .inr z
theorem RwT.rep {H : Hp} {qs : List Addr} {rs : List (Int × Int)} (h : RwT K H qs rs) : ∀ n : Nat, RwT K H (List.replicate n qs).flatten (List.replicate n rs).flatten
  | 0 => RwT.nil
  | n + 1 => by
    rw [List.replicate_succ, List.replicate_succ, List.flatten_cons, List.flatten_cons]
    exact RwT.app h (RwT.rep h n)
theorem RwT.take {H : Hp} {qs : List Addr} {rs : List (Int × Int)} (h : RwT K H qs rs) (n : Nat) : RwT K H (qs.take n) (rs.take n) := by
  refine ⟨by rw [List.length_take, List.length_take, h.len], fun i q r a b => ?_⟩
  have hi : i < n := by
    have z := (List.getElem?_eq_some_iff.mp a).1
    rw [List.length_take] at z
    omega
  rw [List.getElem?_take_of_lt hi] at a b
  exact h.at_ i q r a b
theorem eqv_pair (a b c d : Int) : PyData.eqv (.tuple [.int a, .int b]) (.tuple [.int c, .int d]) = (decide (a = c) && decide (b = d)) := by
  simp only [PyData.eqv, PyData.eqvAll, Bool.and_true]
  rw [Bool.beq_eq_decide_eq, Bool.beq_eq_decide_eq]
/-- a tuple is there also where another object is hidden -/
theorem sqt_hid {b q : Addr} {H : Hp} {xs : List V} (n : q ≠ b) (h : SqT K H q xs) : SqT K (hid b H) q xs := by
  rcases h with (h | ⟨o, h⟩) | h
  · exact .inl (.inl (by rw [hid_ne n]; exact h))
  · exact .inl (.inr ⟨o, by rw [hid_ne n]; exact h⟩)
  · exact .inr h
end
end Gd

/-! f(e, ..), f an expression that gives an instance: a tree that does not speak of the place, so that it may stand in a comprehension -/
namespace Gd
open PySem PySem.Spec PyProof.Rows L2 StX
section
variable {X : Cx} {fe e : Expr} {es : List Expr} {pos : Pos} {C : Addr} {sp : Sp} {E : XK} {tf : TE} {t : TA} {CX : CXT} {k : Nat}
def tCallA (C : Addr) (sp : Sp) (E : XK) (tf : TE) (t : TA) : TE := fun σ H Q => tf σ H fun y H1 => ∃ a, y = V.ref a ∧ t σ H1 fun vs H2 => (∃ dx fs, H2 a = some (.ins C dx fs)) ∧ sp (V.ref a :: vs) H2 Q E
theorem pe_callA {g : Addr} (hf : PE X fe tf) (c : CallO X.K C g) (F : FnR X.prog X.w X.K X.mg X.base CX k g sp) (hr : Room k X.A) (hx : Passes CX X E) (ha : PA X (e :: es) t)
    (ht : eval (.Call fe (e :: es) [] pos) X.env = (do callWith pos (← eval fe X.env) [] (backTo pos (starEach (e :: es) X.env)) (backToKw pos (keywordEach [] X.env))) := by rfl)
    (he : starEach (e :: es) X.env = (false, eval e X.env) :: starEach es X.env := by rfl) (hpl : (backTo pos (starEach es X.env)).any (·.1) = false := by rfl) : PE X (.Call fe (e :: es) [] pos) (tCallA C sp E tf t) := by
  refine ⟨fun pins s σ H Q I h => ?_⟩
  refine Call_ (thn (hf.run pins s σ H _ I h) fun u s1 ⟨y, H1, I1, ry, a, ey, q⟩ => ?_) ht
  subst ey
  obtain rfl : u = Value.ref a := ry
  refine callO_with (thn (ha.run pos pins s1 σ H1 _ I1 q) fun us s2 ⟨vs, H2, I2, r, hi, q2⟩ => ?_) he hpl
  obtain ⟨ox, od, J, hd⟩ := insC_at I2 (.inr hi)
  exact ⟨⟨C, ox, od, J, hd⟩, run_callO c F hr hx I2 (.inr hi) r q2⟩
theorem i_callA {C : Addr} {sp : Sp} {E : XK} {tf : TE} {t : TA} {σ : L2.St} {H : Hp} {Q : VK} (k : tf σ H fun y H1 => ∃ a, y = V.ref a ∧ t σ H1 fun vs H2 => (∃ dx fs, H2 a = some (.ins C dx fs)) ∧ sp (V.ref a :: vs) H2 Q E) : tCallA C sp E tf t σ H Q := k
end
end Gd
namespace M
open PySem PySem.Spec PyProof.Rows L2 Gd
local macro_rules | `(tactic| walk_at "ghp") => `(tactic| first
  | assumption
  | exact upd_same
  | (refine Eq.trans (upd_ne ?gne) ?grest
     (case gne => first | assumption | (refine Ne.symm ?_; assumption) | (refine ne_of_none (o := ?go) ?gq ‹_ = none›; (case gq => walk_at "ghp")) | (refine Ne.symm (ne_of_none (o := ?go) ?gq ‹_ = none›); (case gq => walk_at "ghp")) | (refine ne_of (o := ?go) (u := ?gu) ?g1 ?g2 ?g3; (case g1 => assumption); (case g2 => assumption); (case g3 => (intro z; cases z))) | fail "gne")
     (case grest => walk_at "ghp"))
  | fail "ghp")
local macro_rules | `(tactic| walk_at "g1") => `(tactic| first
  | ((with_reducible refine i_var (v := ?gv) ?gh ?_); (case gh => exact rfl))
  | with_reducible refine i_c ?_
  | with_reducible refine i_op ?_
  | with_reducible refine i_I0 ?_
  | with_reducible refine i_eqI ?_
  | with_reducible refine i_neI ?_
  | with_reducible refine i_eqS ?_
  | with_reducible refine i_neS ?_
  | with_reducible refine i_eqB ?_
  | with_reducible refine i_nil ?_
  | with_reducible refine i_cons ?_
  | with_reducible refine i_seq ?_
  | with_reducible refine i_next ?_
  | with_reducible refine i_ret ?_
  | with_reducible refine i_retN ?_
  | with_reducible refine i_drop ?_
  | with_reducible refine i_asg ?_
  | with_reducible refine i_name ?_
  | with_reducible refine i_ifS ?_
  | with_reducible refine i_cb ?_
  | with_reducible refine i_call ?_
  | with_reducible refine i_callS ?_
  | with_reducible refine i_test ?_
  | with_reducible refine i_B ?_
  | with_reducible refine i_exB ?_
  | with_reducible refine i_exI ?_
  | with_reducible refine i_exS ?_
  | with_reducible refine i_ex2 ?_
  | with_reducible refine i_and ?_
  | with_reducible refine i_or ?_
  | with_reducible refine i_not ?_
  | with_reducible refine i_andV ?_
  | with_reducible refine i_orV ?_
  | with_reducible refine i_notV ?_
  | with_reducible refine i_if ?_
  | with_reducible refine i_chain ?_
  | with_reducible refine i_par ?_
  | with_reducible refine i_par3 ?_
  | with_reducible refine i_ex3 ?_
  | with_reducible refine i_tup ?_
  | with_reducible refine i_lst ?_
  | with_reducible refine i_sl ?_
  | with_reducible refine i_part ?_
  | with_reducible refine i_nopart ?_
  | with_reducible refine i_un ?_
  | with_reducible refine i_U ?_
  | with_reducible refine i_ipI ?_
  | with_reducible refine i_augS ?_
  | with_reducible refine i_sub ?_
  | with_reducible refine i_tgc ?_
  | with_reducible refine i_tgn ?_
  | with_reducible refine i_bm ?_
  | with_reducible refine i_bm0 ?_
  | ((with_reducible refine i_aug (x := ?gv) ?gh ?_); (case gh => exact rfl))
  | ((with_reducible refine i_ixL (v := ?gv) (xs := ?gx) ?gh ?ge ?_); (case gh => (refine SqL.lst ?_; walk_at "ghp")); (case ge => exact rfl))
  | ((with_reducible refine i_getL (v := ?gv) (xs := ?gx) ?g0 ?gh ?ge ?_); (case g0 => decide); (case gh => (refine SqL.lst ?_; walk_at "ghp")); (case ge => exact rfl))
  | ((with_reducible refine i_setL (j := ?gj) (xs := ?gx) ?gh ?ge ?_); (case gh => walk_at "ghp"); (case ge => exact rfl))
  | ((with_reducible refine i_lenL (xs := ?gx) ?gh ?_); (case gh => (refine SqL.lst ?_; walk_at "ghp")))
  | with_reducible refine i_abs ?_
  | with_reducible refine i_leS ?_
  | with_reducible refine i_lstRg ?_
  | with_reducible refine i_rg1 ?_
  | with_reducible refine i_enum ?_
  | ((with_reducible refine i_app (xs := ?gx) ?gh ?gl ?_); (case gh => walk_at "ghp"); (case gl => first | exact Nat.lt_of_le_of_lt (Nat.le_refl _) (line_lt (Nat.le_of_ble_eq_true (by rfl))) | fail "app"))
  | ((with_reducible refine i_rev (xs := ?gx) ?gh ?_); (case gh => walk_at "ghp"))
  | with_reducible refine i_dnew ?_
  | with_reducible refine i_disp ?_
  | with_reducible refine i_pcons ?_
  | with_reducible refine i_pnil ?_
  | with_reducible refine i_ninS ?_
  | with_reducible refine i_inS1 ?_
  | ((with_reducible refine i_cat (xs := ?gx) (zs := ?gz) ?gh ?gh2 ?gl ?_); (case gh => walk_at "ghp"); (case gh2 => walk_at "ghp"); (case gl => exact sz))
  | ((with_reducible refine i_slL (xs := ?gx) ?gh ?_); (case gh => (refine SqL.lst ?_; walk_at "ghp")))
  | ((with_reducible refine i_addS ?gh ?_); (case gh => first | exact sz | (refine line_le ?_; (try simp only [len_app, len_one]); omega) | fail "addS"))
  | ((with_reducible refine i_slS ?gh ?_); (case gh => first | exact sz | assumption | (refine line_le ?_; (try simp only [len_app, len_one]); omega) | fail "slS"))
  | ((with_reducible refine i_tg (xs := ?gx) ?gh ?gl ?_); (case gh => (refine SqT.tup ?_; walk_at "ghp")); (case gl => exact rfl))
  | ((with_reducible refine i_lenS ?gh ?_); (case gh => first | assumption | exact sz | (refine line_le ?_; (try simp only [len_app, len_one]); omega) | fail "len"))
  | with_reducible refine i_mx ?_
  | with_reducible refine i_mn ?_
  | with_reducible refine i_intB ?_
  | with_reducible refine i_intI ?_
  | with_reducible refine i_m1 ?_
  | with_reducible refine i_m0 ?_
  | with_reducible refine i_isS ?_
  | ((with_reducible refine i_I ?gc ?_); (case gc => first | assumption | (show (0 : Int) < _; first | decide | assumption | omega | fail "pos") | (refine .inr ⟨?_, ?_⟩ <;> decide) | (refine .inl ⟨?_, ?_⟩ <;> decide) | (refine ⟨?_, ?_, ?_⟩ <;> decide) | fail "rI"))
  | with_reducible refine i_lc ?_
  | with_reducible refine i_lc2 ?_
  | with_reducible refine i_revT ?_
  | with_reducible refine i_for ?_
  | with_reducible refine i_iL ?_
  | with_reducible refine i_iT ?_
  | with_reducible refine i_iS ?_
  | with_reducible refine i_iR1 ?_
  | with_reducible refine i_iR2 ?_
  | with_reducible refine i_yes ?_
  | with_reducible refine iteT ?_
  | with_reducible refine iteF ?_
  | with_reducible refine iteNT ?_
  | with_reducible refine iteNF ?_
  | dsimp only
  | fail "g1")
local macro_rules | `(tactic| walk_at "rd") => `(tactic| repeat (walk_at "g1"))
def top (i : Nat) : Stmt := PySem.Challenge.pw_rowqueue_k89_whole_far_waits.main.body.getD i (.Pass ⟨0, 0, 0, 0⟩)
abbrev s_Lane___init__ : Stmt := inClass (top 1) 0
abbrev s_Lane_least : Stmt := inClass (top 1) 6
abbrev s_Lane___call__ : Stmt := inClass (top 1) 1
abbrev s__lane_of : Stmt := top 2
abbrev s_Lane___mul__ : Stmt := inClass (top 1) 2
abbrev s_Lane_drift : Stmt := inClass (top 1) 7
abbrev s_Lane_repeated : Stmt := inClass (top 1) 8
abbrev s_wait_of : Stmt := top 3
abbrev s__sum_of_greater : Stmt := top 6
abbrev s__sum_behind : Stmt := top 5
abbrev s_total : Stmt := top 4
abbrev s__law_bag : Stmt := top 8
abbrev s__law_take : Stmt := top 9
abbrev s__law_number : Stmt := top 10
abbrev s__law_served : Stmt := top 11
abbrev s__law_lane : Stmt := top 12
abbrev s__law_far_right : Stmt := top 14
abbrev s__law_drawn_rows : Stmt := top 15
abbrev s_law : Stmt := top 16
theorem sc_Lane___init__ : FnScope ["self", "rows", "least", "drift", "service", "gap"] ["self", "rows"] (defScope s_Lane___init__) := ⟨rfl, rfl, rfl, by decide +kernel, rfl, by decide +kernel, by decide +kernel⟩
theorem sc_Lane_least : FnScope ["self"] ["self"] (defScope s_Lane_least) := ⟨rfl, rfl, rfl, by decide +kernel, rfl, by decide +kernel, by decide +kernel⟩
theorem sc_Lane___call__ : FnScope ["self", "wait"] ["self", "wait"] (defScope s_Lane___call__) := ⟨rfl, rfl, rfl, by decide +kernel, rfl, by decide +kernel, by decide +kernel⟩
theorem sc__lane_of : FnScope ["least", "drift"] ["least", "drift"] (defScope s__lane_of) := ⟨rfl, rfl, rfl, by decide +kernel, rfl, by decide +kernel, by decide +kernel⟩
theorem sc_Lane___mul__ : FnScope ["self", "other", "least"] ["self", "other"] (defScope s_Lane___mul__) := ⟨rfl, rfl, rfl, by decide +kernel, rfl, by decide +kernel, by decide +kernel⟩
theorem sc_Lane_drift : FnScope ["self"] ["self"] (defScope s_Lane_drift) := ⟨rfl, rfl, rfl, by decide +kernel, rfl, by decide +kernel, by decide +kernel⟩
theorem sc_Lane_repeated : FnScope ["self", "times"] ["self", "times"] (defScope s_Lane_repeated) := ⟨rfl, rfl, rfl, by decide +kernel, rfl, by decide +kernel, by decide +kernel⟩
theorem sc_wait_of : FnScope ["rows", "number", "initial", "times", "rest", "first", "lane"] ["rows", "number", "initial"] (defScope s_wait_of) := ⟨rfl, rfl, rfl, by decide +kernel, rfl, by decide +kernel, by decide +kernel⟩
theorem sc__sum_of_greater : FnScope ["floor", "base", "slope", "many", "low", "rising"] ["floor", "base", "slope", "many"] (defScope s__sum_of_greater) := ⟨rfl, rfl, rfl, by decide +kernel, rfl, by decide +kernel, by decide +kernel⟩
theorem sc__sum_behind : FnScope ["whole", "ahead", "times", "initial", "floor", "base"] ["whole", "ahead", "times", "initial"] (defScope s__sum_behind) := ⟨rfl, rfl, rfl, by decide +kernel, rfl, by decide +kernel, by decide +kernel⟩
theorem sc_total : FnScope ["rows", "times", "initial", "whole", "ahead", "found", "row"] ["rows", "times", "initial"] (defScope s_total) := ⟨rfl, rfl, rfl, by decide +kernel, rfl, by decide +kernel, by decide +kernel⟩
theorem sc__law_bag : FnScope ["_law_script", "_law_cell"] ["_law_script"] (defScope s__law_bag) := ⟨rfl, rfl, rfl, by decide +kernel, rfl, by decide +kernel, by decide +kernel⟩
theorem sc__law_take : FnScope ["_law_bag_here", "_law_many", "_law_cell", "_law_value", "_law_first", "_law_second"] ["_law_bag_here", "_law_many"] (defScope s__law_take) := ⟨rfl, rfl, rfl, by decide +kernel, rfl, by decide +kernel, by decide +kernel⟩
theorem sc__law_number : FnScope ["_law_bag_here", "_law_way"] ["_law_bag_here"] (defScope s__law_number) := ⟨rfl, rfl, rfl, by decide +kernel, rfl, by decide +kernel, by decide +kernel⟩
theorem sc__law_served : FnScope ["_law_bag_here", "_law_top", "_law_found", "_law_k", "_law_service", "_law_gap"] ["_law_bag_here", "_law_top"] (defScope s__law_served) := ⟨rfl, rfl, rfl, by decide +kernel, rfl, by decide +kernel, by decide +kernel⟩
theorem sc__law_lane : FnScope ["_law_rows", "_law_found", "_law_row"] ["_law_rows"] (defScope s__law_lane) := ⟨rfl, rfl, rfl, by decide +kernel, rfl, by decide +kernel, by decide +kernel⟩
theorem sc__law_far_right : FnScope ["_law_bag_here", "_law_rows", "_law_lane_here", "_law_many", "_law_wait_here", "_law_times"] ["_law_bag_here", "_law_rows", "_law_lane_here", "_law_many", "_law_wait_here"] (defScope s__law_far_right) := ⟨rfl, rfl, rfl, by decide +kernel, rfl, by decide +kernel, by decide +kernel⟩
theorem sc__law_drawn_rows : FnScope ["_law_bag_here", "_law_rows", "_law_j", "_law_service", "_law_gap"] ["_law_bag_here"] (defScope s__law_drawn_rows) := ⟨rfl, rfl, rfl, by decide +kernel, rfl, by decide +kernel, by decide +kernel⟩
theorem sc_law : FnScope ["_law_script", "_law_bag_here", "_law_k", "_law_rows", "_law_wait_here", "_law_many", "_law_tops", "_law_one", "_law_other", "_law_behind", "_law_parts", "_law_far", "_law_lane_here", "_law_at", "_law_near", "_law_service", "_law_gap", "_law_j", "_law_some"] ["_law_script"] (defScope s_law) := ⟨rfl, rfl, rfl, by decide +kernel, rfl, by decide +kernel, by decide +kernel⟩
structure Ads where
  k_Lane : Addr
  p_Lane_least : Addr
  p_Lane_drift : Addr
  f_Lane___init__ : Addr
  fd_Lane___init__ : FuncData
  f_Lane_least : Addr
  fd_Lane_least : FuncData
  f_Lane___call__ : Addr
  fd_Lane___call__ : FuncData
  f__lane_of : Addr
  fd__lane_of : FuncData
  f_Lane___mul__ : Addr
  fd_Lane___mul__ : FuncData
  f_Lane_drift : Addr
  fd_Lane_drift : FuncData
  f_Lane_repeated : Addr
  fd_Lane_repeated : FuncData
  f_wait_of : Addr
  fd_wait_of : FuncData
  f__sum_of_greater : Addr
  fd__sum_of_greater : FuncData
  f__sum_behind : Addr
  fd__sum_behind : FuncData
  f_total : Addr
  fd_total : FuncData
  f__law_bag : Addr
  fd__law_bag : FuncData
  f__law_take : Addr
  fd__law_take : FuncData
  f__law_number : Addr
  fd__law_number : FuncData
  f__law_served : Addr
  fd__law_served : FuncData
  f__law_lane : Addr
  fd__law_lane : FuncData
  f__law_far_right : Addr
  fd__law_far_right : FuncData
  f__law_drawn_rows : Addr
  fd__law_drawn_rows : FuncData
  f_law : Addr
  fd_law : FuncData
/-- what the top has made -/
structure Txt (K : PySem.W.Frag) (mg : Str → Option Value) (a : Ads) : Prop where
  d_Lane___init__ : DefS K "__init__" "Lane.__init__" s_Lane___init__ a.f_Lane___init__ a.fd_Lane___init__ ["self"] "rows"
  d_Lane_least : DefM K "least" "Lane.least" s_Lane_least a.f_Lane_least a.fd_Lane_least ["self"]
  p_Lane_least : PropOf K a.k_Lane "least" a.p_Lane_least a.f_Lane_least
  d_Lane___call__ : DefM K "__call__" "Lane.__call__" s_Lane___call__ a.f_Lane___call__ a.fd_Lane___call__ ["self", "wait"]
  d__lane_of : Def K mg "_lane_of" s__lane_of a.f__lane_of a.fd__lane_of ["least", "drift"]
  d_Lane___mul__ : DefM K "__mul__" "Lane.__mul__" s_Lane___mul__ a.f_Lane___mul__ a.fd_Lane___mul__ ["self", "other"]
  d_Lane_drift : DefM K "drift" "Lane.drift" s_Lane_drift a.f_Lane_drift a.fd_Lane_drift ["self"]
  p_Lane_drift : PropOf K a.k_Lane "drift" a.p_Lane_drift a.f_Lane_drift
  d_Lane_repeated : DefM K "repeated" "Lane.repeated" s_Lane_repeated a.f_Lane_repeated a.fd_Lane_repeated ["self", "times"]
  m_Lane_repeated : Meth K a.k_Lane "repeated" a.f_Lane_repeated
  d_wait_of : DefK K mg "wait_of" s_wait_of a.f_wait_of a.fd_wait_of ["rows", "number", "initial"] 2 "initial" (.int 0)
  d__sum_of_greater : Def K mg "_sum_of_greater" s__sum_of_greater a.f__sum_of_greater a.fd__sum_of_greater ["floor", "base", "slope", "many"]
  d__sum_behind : Def K mg "_sum_behind" s__sum_behind a.f__sum_behind a.fd__sum_behind ["whole", "ahead", "times", "initial"]
  d_total : DefK K mg "total" s_total a.f_total a.fd_total ["rows", "times", "initial"] 2 "initial" (.int 0)
  d__law_bag : Def K mg "_law_bag" s__law_bag a.f__law_bag a.fd__law_bag ["_law_script"]
  d__law_take : Def K mg "_law_take" s__law_take a.f__law_take a.fd__law_take ["_law_bag_here", "_law_many"]
  d__law_number : Def K mg "_law_number" s__law_number a.f__law_number a.fd__law_number ["_law_bag_here"]
  d__law_served : Def K mg "_law_served" s__law_served a.f__law_served a.fd__law_served ["_law_bag_here", "_law_top"]
  d__law_lane : Def K mg "_law_lane" s__law_lane a.f__law_lane a.fd__law_lane ["_law_rows"]
  d__law_far_right : Def K mg "_law_far_right" s__law_far_right a.f__law_far_right a.fd__law_far_right ["_law_bag_here", "_law_rows", "_law_lane_here", "_law_many", "_law_wait_here"]
  d__law_drawn_rows : Def K mg "_law_drawn_rows" s__law_drawn_rows a.f__law_drawn_rows a.fd__law_drawn_rows ["_law_bag_here"]
  d_law : Def K mg "law" s_law a.f_law a.fd_law ["_law_script"]
  g_abs : mg "abs" = none
  g_divmod : mg "divmod" = none
  g_enumerate : mg "enumerate" = none
  g_isinstance : mg "isinstance" = none
  g_len : mg "len" = none
  g_max : mg "max" = none
  g_min : mg "min" = none
  g_property : mg "property" = none
  g_range : mg "range" = none
  g_sum : mg "sum" = none
  g_Lane : mg "Lane" = some (.ref a.k_Lane)
  cl_Lane : Cls K a.k_Lane
  mk_Lane : Mk K a.k_Lane a.f_Lane___init__
  n_Lane__least : NoAttr K a.k_Lane "_least"
  n_Lane__drift : NoAttr K a.k_Lane "_drift"
  c_Lane : StX.CallO K a.k_Lane a.f_Lane___call__
  u_Lane : OMul K a.k_Lane a.f_Lane___mul__
section
variable {P : Program} {w : World} {K : PySem.W.Frag} {mg : Str → Option Value} {base : Heap} {a : Ads}
/-! ### Lane.__init__ -/
def sp_linit (K : PySem.W.Frag) (C : Addr) : Sp := fun vs H Q _ => ∃ (x dx p : Addr) (qs : List Addr) (rs : List (Int × Int)), vs = [.ref x, .ref p] ∧ H x = some (.ins C dx []) ∧ SqT K H p (qs.map V.ref) ∧ RwT K H qs rs ∧
  ∀ H', But x H H' → H' x = some (.ins C dx (laneFs (wF rs 0) (dF rs))) → Q .non H'
theorem ok_Lane___init__ (T : Txt K mg a) : FnR P w K mg base CX0 1 a.f_Lane___init__ (spStar ["self"] (sp_linit K a.k_Lane)) := by
  refine T.d_Lane___init__.ok sc_Lane___init__ (fun cdv A outer s H vs Q E hr h => ?_)
  · obtain ⟨x, dx, p, qs, rs, rfl, hx, hp, hr', k⟩ := h
    refine ⟨_, (pss_cons (ps_set (i := 2) sc_Lane___init__.nd rfl (.inl rfl) pe_int)
    (pss_cons (ps_set (i := 3) sc_Lane___init__.nd rfl (.inl rfl) pe_int)
    (pss_cons (ps_for PassesOwn.never rfl (pi_tup (pv 1)) (pg_tup (by rfl) (pgs_cons (pg_name (i := 4) sc_Lane___init__.nd rfl (.inl rfl)) (pgs_cons (pg_name (i := 5) sc_Lane___init__.nd rfl (.inl rfl)) pgs_nil)))
      (pss_cons (ps_set (i := 2) sc_Lane___init__.nd rfl (.inl rfl) (pe_callB (call_mx rfl) (by rfl) T.g_max (by decide +kernel) (pa_cons pe_int (pa_cons (pe_op op_sub (pe_op op_add (pv 2) (pv 4)) (pv 5)) pa_nil))))
      (pss_one (ps_set (i := 3) sc_Lane___init__.nd rfl (.inl rfl) (pe_op op_sub (pe_op op_add (pv 3) (pv 4)) (pv 5))))))
    (pss_cons (ps_fld (pv 0) (pv 2) rfl)
    (pss_one (ps_fld (pv 0) (pv 3) rfl)))))), ?_⟩
    walk_at "rd"
    refine ⟨p, rfl, ⟨_, hp⟩, ?_⟩
    refine go_for (walk_tup (xs := qs.map V.ref)) (fun i σ' H' => H' = H ∧ ∃ v4 v5, σ' = [some (.ref x), some (.ref p), some (.int (wF (rs.take i) 0)), some (.int (dF (rs.take i))), v4, v5]) ⟨rfl, _, _, rfl⟩ (fun i σ' H' _ h => by obtain ⟨rfl, _⟩ := h; exact hp) ?_ ?_
    · rintro i y σ' H' H'' hi ⟨rfl, v4, v5, rfl⟩ ⟨e1, e2⟩
      have e1' := e1.symm
      subst e1'
      rw [List.length_map] at hi
      have hi' : i < rs.length := by rw [← hr'.len]; exact hi
      rw [List.getElem?_map, List.getElem?_eq_getElem hi] at e2
      cases e2
      have er := List.getElem?_eq_getElem hi'
      refine i_tg (hr'.at_ i _ _ (List.getElem?_eq_getElem hi) er) rfl ?_
      walk_at "rd"
      have e3 := wF_take er 0
      have e4 := dF_take er
      refine ⟨rfl, some (.int rs[i].1), some (.int rs[i].2), ?_⟩
      rw [e3, e4]
      rfl
    · rintro σ' H' ⟨rfl, v4, v5, rfl⟩
      rw [List.length_map, hr'.len, List.take_length]
      walk_at "rd"
      refine i_sfld ?_
      walk_at "rd"
      refine ⟨x, _, dx, [], rfl, hx, T.cl_Lane, T.n_Lane__least, by decide, ?_⟩
      refine i_sfld ?_
      walk_at "rd"
      refine ⟨x, _, dx, _, rfl, upd_same, T.cl_Lane, T.n_Lane__drift, (by decide : 1 < 1000), ?_⟩
      refine k _ (fun b o n e => ?_) (by rw [upd_same]; rfl)
      rw [upd_ne n, upd_ne n]
      exact e
/-! ### Lane.least -/
/-- a method of a lane that only looks -/
def sp_look (C : Addr) (g : Int → Int → V) : Sp := fun vs H Q _ => ∃ (x : Addr) (l d : Int), vs = [.ref x] ∧ LnA C H x l d ∧ Q (g l d) H
theorem ok_Lane_least (T : Txt K mg a) : FnOk P w K mg base CX0 1 a.f_Lane_least a.fd_Lane_least ["self"] (sp_look a.k_Lane fun l _ => .int l) := by
  refine T.d_Lane_least.ok sc_Lane_least (fun vs H Q E h => ?_) (fun cdv A outer s H vs Q E hr h => ?_)
  · obtain ⟨x, l, d, rfl, _⟩ := h
    rfl
  · obtain ⟨x, l, d, rfl, hx, k⟩ := h
    refine ⟨_, (pss_one (ps_ret (pe_fld (pv 0) rfl))), ?_⟩
    walk_at "rd"
    refine i_fldA ?_
    walk_at "rd"
    exact i_lfld hx T.cl_Lane T.n_Lane__least rfl k
theorem i_lk {C : Addr} {H : Hp} {x : Addr} {l d : Int} {g : Int → Int → V} {Q : VK} {E : XK} (h : LnA C H x l d) (k : Q (g l d) H) : ∃ a dx fs, V.ref x = .ref a ∧ H a = some (.ins C dx fs) ∧ sp_look C g (.ref a :: []) H Q E := by
  obtain ⟨dx, e⟩ := id h
  exact ⟨x, dx, _, rfl, e, x, l, d, rfl, h, k⟩
/-! ### Lane.__call__ -/
def sp_lcall (C : Addr) : Sp := fun vs H Q _ => ∃ (x : Addr) (l d w : Int), vs = [.ref x, .int w] ∧ LnA C H x l d ∧ Q (.int (lnF l d w)) H
theorem ok_Lane___call__ (T : Txt K mg a) : FnOk P w K mg base CX0 3 a.f_Lane___call__ a.fd_Lane___call__ ["self", "wait"] (sp_lcall a.k_Lane) := by
  refine T.d_Lane___call__.ok sc_Lane___call__ (fun vs H Q E h => ?_) (fun cdv A outer s H vs Q E hr h => ?_)
  · obtain ⟨x, l, d, w, rfl, _⟩ := h
    rfl
  · obtain ⟨x, l, d, w, rfl, hx, k⟩ := h
    refine ⟨_, (pss_one (ps_ret (pe_callB (call_mx rfl) (by rfl) T.g_max (by decide +kernel) (pa_cons (pe_fld (pv 0) rfl) (pa_cons (pe_op op_add (pv 1) (pe_fld (pv 0) rfl)) pa_nil))))), ?_⟩
    walk_at "rd"
    refine i_fldA ?_
    walk_at "rd"
    refine i_lfld hx T.cl_Lane T.n_Lane__least rfl ?_
    walk_at "rd"
    refine i_fldA ?_
    walk_at "rd"
    refine i_lfld hx T.cl_Lane T.n_Lane__drift rfl ?_
    walk_at "rd"
    exact k
theorem i_lcall {C : Addr} {X : Cx} {H : Hp} {x : Addr} {l d w : Int} {Q : VK} (h : LnA C H x l d) (k : Q (.int (lnF l d w)) H) : StX.InsC X H x C ∧ sp_lcall C [.ref x, .int w] H Q E0 := by
  obtain ⟨dx, e⟩ := id h
  exact ⟨.inr ⟨dx, _, e⟩, x, l, d, w, rfl, h, k⟩
/-! ### _lane_of -/
/-- Lane(..) of rows that stand in the heap -/
theorem i_newLane {C : Addr} {H : Hp} {qs : List Addr} {rs : List (Int × Int)} {R : Addr → Hp → Prop} {E : XK} (hl : qs.length ≤ 1000) (h : RwT K H qs rs) (k : ∀ x H', Same H H' → H x = none → LnA C H' x (wF rs 0) (dF rs) → R x H') :
    ∀ x dx, H x = none → H dx = none → dx ≠ x → spStar ["self"] (sp_linit K C) (V.ref x :: qs.map V.ref) (upd (upd H dx (.own x)) x (.ins C dx [])) (fun v H2 => v = .non ∧ R x H2) E := by
  intro x dx nx nd ne
  refine ⟨[.ref x], qs.map V.ref, rfl, rfl, by rw [List.length_map]; exact line_le (by omega), fun p np => ?_⟩
  have s1 : Same H (upd (upd H dx (.own x)) x (.ins C dx [])) := same_make nx nd ne
  have px : x ≠ p := fun e => by
    rw [← e, upd_same] at np
    cases np
  have s2 : Same H (upd (upd (upd H dx (.own x)) x (.ins C dx [])) p (.tup (qs.map V.ref))) := same_upd s1 np
  refine ⟨x, dx, p, qs, rs, rfl, by rw [upd_ne px, upd_same], SqT.tup upd_same, h.same s2, fun H' b hx => ⟨rfl, ?_⟩⟩
  refine k x H' (fun c o e => ?_) nx ⟨dx, hx⟩
  have cx : c ≠ x := ne_of_none e nx
  exact b _ _ cx (s2 _ _ e)
def sp_laneOf (C : Addr) : Sp := fun vs H Q _ => ∃ (l d : Int), vs = [.int l, .int d] ∧ 0 ≤ l ∧ d ≤ l ∧ ∀ x H', Same H H' → H x = none → LnA C H' x l d → Q (.ref x) H'
theorem ok__lane_of (T : Txt K mg a) : FnOk P w K mg base CX0 3 a.f__lane_of a.fd__lane_of ["least", "drift"] (sp_laneOf a.k_Lane) := by
  refine T.d__lane_of.F.ok sc__lane_of (fun vs H Q E h => ?_) (fun cdv A outer s H vs Q E hr h => ?_)
  · obtain ⟨l, d, rfl, _⟩ := h
    rfl
  · obtain ⟨l, d, rfl, h0, h1, k⟩ := h
    refine ⟨_, (pss_one (ps_ret (StX.pe_makeR T.mk_Lane (ok_Lane___init__ T) (hr.mono (by decide)) (by rfl) T.g_Lane pass0 (pa_cons (pe_tup (pa_cons pe_int (pa_cons (pe_op op_sub (pv 0) (pv 1)) pa_nil))) (pa_cons (pe_tup (pa_cons (pv 0) (pa_cons pe_int pa_nil))) pa_nil))))), ?_⟩
    walk_at "rd"
    refine i_makeR ?_
    walk_at "rd"
    refine ⟨sz, fun p np => ?_⟩
    walk_at "rd"
    refine ⟨sz, fun q nq => ?_⟩
    walk_at "rd"
    have s1 := same_upd (o := .tup [V.int 0, V.int (l - d)]) (Same.refl H) np
    have s2 := same_upd (o := .tup [V.int l, V.int 0]) s1 nq
    have hp : (upd (upd H p (.tup [V.int 0, V.int (l - d)])) q (.tup [V.int l, V.int 0])) p = some (.tup [V.int 0, V.int (l - d)]) := by
      rw [upd_ne (ne_of_none upd_same nq), upd_same]
    refine i_newLane (qs := [p, q]) (rs := [(0, l - d), (l, 0)]) (show 2 ≤ 1000 by decide) ⟨rfl, fun i q' r e1 e2 => ?_⟩ fun x H' s n hx => ?_
    · match i, e1, e2 with
      | 0, e1, e2 =>
        cases e1
        cases e2
        exact SqT.tup hp
      | 1, e1, e2 =>
        cases e1
        cases e2
        exact SqT.tup upd_same
    · have e1 : wF [(0, l - d), (l, 0)] 0 = l := by
        show stepW (stepW 0 (0, l - d)) (l, 0) = l
        unfold stepW
        dsimp only
        split <;> split <;> omega
      have e2 : dF [(0, l - d), (l, 0)] = d := by
        show 0 + 0 - (l - d) + l - 0 = d
        omega
      rw [e1, e2] at hx
      exact k x H' (s2.trans s) (Gd.Same.none s2 n) hx
/-! ### Lane.__mul__ -/
def sp_lmul (C : Addr) : Sp := fun vs H Q _ => ∃ (x y : Addr) (l d l' d' : Int), vs = [.ref x, .ref y] ∧ LnA C H x l d ∧ LnA C H y l' d' ∧ LnV l d ∧ LnV l' d' ∧ ∀ z H', Same H H' → H z = none → LnA C H' z (mulL l d l' d') (d + d') → Q (.ref z) H'
theorem ok_Lane___mul__ (T : Txt K mg a) : FnOk P w K mg base CX0 4 a.f_Lane___mul__ a.fd_Lane___mul__ ["self", "other"] (sp_lmul a.k_Lane) := by
  refine T.d_Lane___mul__.ok sc_Lane___mul__ (fun vs H Q E h => ?_) (fun cdv A outer s H vs Q E hr h => ?_)
  · obtain ⟨x, y, l, d, l', d', rfl, _⟩ := h
    rfl
  · obtain ⟨x, y, l, d, l', d', rfl, hx, hy, v1, v2, k⟩ := h
    refine ⟨_, (pss_cons (ps_set (i := 2) sc_Lane___mul__.nd rfl (.inl rfl) (pe_callB (call_mx rfl) (by rfl) T.g_max (by decide +kernel) (pa_cons (pe_fld (pv 1) rfl) (pa_cons (pe_op op_add (pe_fld (pv 0) rfl) (pe_fld (pv 1) rfl)) pa_nil))))
    (pss_one (ps_ret (cl T.d__lane_of (ok__lane_of T) (hr.mono (by decide)) (pa_cons (pv 2) (pa_cons (pe_op op_add (pe_fld (pv 0) rfl) (pe_fld (pv 1) rfl)) pa_nil)))))), ?_⟩
    walk_at "rd"
    refine i_fldA ?_
    walk_at "rd"
    refine i_lfld hy T.cl_Lane T.n_Lane__least rfl ?_
    walk_at "rd"
    refine i_fldA ?_
    walk_at "rd"
    refine i_lfld hx T.cl_Lane T.n_Lane__least rfl ?_
    walk_at "rd"
    refine i_fldA ?_
    walk_at "rd"
    refine i_lfld hy T.cl_Lane T.n_Lane__drift rfl ?_
    walk_at "rd"
    refine i_fldA ?_
    walk_at "rd"
    refine i_lfld hx T.cl_Lane T.n_Lane__drift rfl ?_
    walk_at "rd"
    refine i_fldA ?_
    walk_at "rd"
    refine i_lfld hy T.cl_Lane T.n_Lane__drift rfl ?_
    walk_at "rd"
    have v3 := mul_ok v1 v2
    exact ⟨_, _, rfl, v3.1, v3.2, k⟩
theorem i_lmul {C : Addr} {H : Hp} {x y : Addr} {l d l' d' : Int} {Q : VK} (hx : LnA C H x l d) (hy : LnA C H y l' d') (v1 : LnV l d) (v2 : LnV l' d') (k : ∀ z H', Same H H' → H z = none → LnA C H' z (mulL l d l' d') (d + d') → Q (.ref z) H') : rOwnM C (sp_lmul C) E0 (.ref x) (.ref y) H Q := by
  obtain ⟨dx, ex⟩ := id hx
  obtain ⟨dy, ey⟩ := id hy
  exact ⟨x, dx, y, dy, _, _, rfl, rfl, ex, ey, x, y, l, d, l', d', rfl, hx, hy, v1, v2, k⟩
/-- the product of two lanes of rows -/
theorem i_rmul {C : Addr} {H : Hp} {x y : Addr} {rs rs' : List (Int × Int)} {Q : VK} (hx : LnA C H x (wF rs 0) (dF rs)) (hy : LnA C H y (wF rs' 0) (dF rs')) (k : ∀ z H', Same H H' → H z = none → LnA C H' z (wF (rs ++ rs') 0) (dF (rs ++ rs')) → Q (.ref z) H') : rOwnM C (sp_lmul C) E0 (.ref x) (.ref y) H Q :=
  i_lmul hx hy (lane_ok rs) (lane_ok rs') fun z H' s n h => k z H' s n (by rw [mul_rows, ← dF_app] at h; exact h)
/-! ### Lane.drift -/
theorem ok_Lane_drift (T : Txt K mg a) : FnOk P w K mg base CX0 1 a.f_Lane_drift a.fd_Lane_drift ["self"] (sp_look a.k_Lane fun _ d => .int d) := by
  refine T.d_Lane_drift.ok sc_Lane_drift (fun vs H Q E h => ?_) (fun cdv A outer s H vs Q E hr h => ?_)
  · obtain ⟨x, l, d, rfl, _⟩ := h
    rfl
  · obtain ⟨x, l, d, rfl, hx, k⟩ := h
    refine ⟨_, (pss_one (ps_ret (pe_fld (pv 0) rfl))), ?_⟩
    walk_at "rd"
    refine i_fldA ?_
    walk_at "rd"
    exact i_lfld hx T.cl_Lane T.n_Lane__drift rfl k
/-! ### Lane.repeated -/
def sp_lrep (C : Addr) : Sp := fun vs H Q _ => ∃ (x : Addr) (l d n : Int), vs = [.ref x, .int n] ∧ LnA C H x l d ∧ LnV l d ∧ 0 ≤ n ∧ n < 2 ^ 100 ∧ d.natAbs < 2 ^ 200 ∧ ∀ z H', Same H H' → H z = none → LnA C H' z (repL l d n) (n * d) → Q (.ref z) H'
theorem ok_Lane_repeated (T : Txt K mg a) : FnOk P w K mg base CX0 4 a.f_Lane_repeated a.fd_Lane_repeated ["self", "times"] (sp_lrep a.k_Lane) := by
  refine T.d_Lane_repeated.ok sc_Lane_repeated (fun vs H Q E h => ?_) (fun cdv A outer s H vs Q E hr h => ?_)
  · obtain ⟨x, l, d, n, rfl, _⟩ := h
    rfl
  · obtain ⟨x, l, d, n, rfl, hx, v, n0, n1, hd, k⟩ := h
    refine ⟨_, (pss_cons (ps_if (pt_cmpR op_eq (pv 1) pe_int (nomark _))
      (pss_one (ps_ret (pe_makeR0 T.mk_Lane (ok_Lane___init__ T) (hr.mono (by decide)) (by rfl) T.g_Lane pass0)))
      pss_nil)
    (pss_one (ps_ret (cl T.d__lane_of (ok__lane_of T) (hr.mono (by decide)) (pa_cons (pe_op op_add (pe_fld (pv 0) rfl) (pe_op op_mulW (pe_op op_sub (pv 1) pe_int) (pe_callB (call_mx rfl) (by rfl) T.g_max (by decide +kernel) (pa_cons pe_int (pa_cons (pe_fld (pv 0) rfl) pa_nil))))) (pa_cons (pe_op op_mulW (pv 1) (pe_fld (pv 0) rfl)) pa_nil)))))), ?_⟩
    walk_at "rd"
    refine w2 (fun e => ?_) (fun e => ?_)
    · subst e
      walk_at "rd"
      refine i_makeR ?_
      walk_at "rd"
      refine i_newLane (qs := []) (rs := []) (by decide) ⟨rfl, fun i q r e => by simp at e⟩ fun z H' s nz hz => ?_
      refine k z H' s nz ?_
      rw [Int.zero_mul]
      exact hz
    · walk_at "rd"
      refine i_fldA ?_
      walk_at "rd"
      refine i_lfld hx T.cl_Lane T.n_Lane__least rfl ?_
      walk_at "rd"
      refine i_fldA ?_
      walk_at "rd"
      refine i_lfld hx T.cl_Lane T.n_Lane__drift rfl ?_
      walk_at "rd"
      refine i_I (wide_mul (a := 101) (b := 201) (by omega) (by split <;> omega) (by decide) (by decide) (by decide)) ?_
      walk_at "rd"
      refine i_fldA ?_
      walk_at "rd"
      refine i_lfld hx T.cl_Lane T.n_Lane__drift rfl ?_
      walk_at "rd"
      refine i_I (wide_mul (a := 101) (by omega) hd (by decide) (by decide) (by decide)) ?_
      walk_at "rd"
      have e1 : l + (n - 1) * (if d > 0 then d else 0) = repL l d n := by
        unfold repL
        rw [if_neg e]
      rw [e1]
      have v3 := rep_ok v n0
      exact ⟨_, _, rfl, v3.1, v3.2, k⟩
theorem i_mth {C : Addr} {m : Str} {sp : Sp} {dvs : List V} {E : XK} {ta : TE} {t : TA} {σ : L2.St} {H : Hp} {Q : VK} (k : ta σ H fun x H1 => ∃ a dx fs, x = .ref a ∧ H1 a = some (.ins C dx fs) ∧ fs.lookup m = none ∧ t σ H1 fun vs H2 => sp (x :: (vs ++ dvs)) H2 Q E) : tMeth C m sp dvs E ta t σ H Q := k
theorem i_lm {C : Addr} {H : Hp} {x : Addr} {l d : Int} {m : Str} {R : Prop} (h : LnA C H x l d) (n : (laneFs l d).lookup m = none) (k : R) : ∃ a dx fs, V.ref x = .ref a ∧ H a = some (.ins C dx fs) ∧ fs.lookup m = none ∧ R := by
  obtain ⟨dx, e⟩ := h
  exact ⟨x, dx, _, rfl, e, n, k⟩
theorem i_rp {C : Addr} {H : Hp} {x : Addr} {l d n : Int} {Q : VK} {E : XK} (hx : LnA C H x l d) (v : LnV l d) (n0 : 0 ≤ n) (n1 : n < 2 ^ 100) (hd : d.natAbs < 2 ^ 200) (k : ∀ z H', Same H H' → H z = none → LnA C H' z (repL l d n) (n * d) → Q (.ref z) H') : sp_lrep C (.ref x :: ([.int n] ++ [])) H Q E := ⟨x, l, d, n, rfl, hx, v, n0, n1, hd, k⟩
/-! ### wait_of -/
/-- the wait of the row with a number, if the rows come again and again -/
def cyW (rs : List (Int × Int)) (w0 : Int) : Nat → Int
  | 0 => w0
  | k + 1 => stepW (cyW rs w0 k) (rs.getD (k % rs.length) (0, 0))
theorem cyW_row {rs : List (Int × Int)} (w0 : Int) (t : Nat) : ∀ i : Nat, i ≤ rs.length → cyW rs w0 (t * rs.length + i) = wF (rs.take i) (cyW rs w0 (t * rs.length))
  | 0, _ => rfl
  | i + 1, h => by
    have er : rs[i]? = some rs[i] := List.getElem?_eq_getElem (by omega)
    rw [wF_take er]
    show stepW (cyW rs w0 (t * rs.length + i)) (rs.getD ((t * rs.length + i) % rs.length) (0, 0)) = _
    rw [cyW_row w0 t i (by omega)]
    have e : (t * rs.length + i) % rs.length = i := by
      rw [Nat.mul_comm, Nat.mul_add_mod, Nat.mod_eq_of_lt (by omega)]
    rw [e, List.getD_eq_getElem?_getD, er]
    rfl
theorem cyW_turn {rs : List (Int × Int)} (w0 : Int) (t : Nat) : cyW rs w0 ((t + 1) * rs.length) = wF rs (cyW rs w0 (t * rs.length)) := by
  rw [Nat.add_mul, Nat.one_mul, cyW_row w0 t _ (Nat.le_refl _), List.take_length]
theorem ln_comp (l d l' d' w : Int) : lnF l' d' (lnF l d w) = lnF (mulL l d l' d') (d + d') w := by
  unfold lnF mulL
  repeat' split
  all_goals omega
theorem lnF_nn {l d w : Int} (h : 0 ≤ l) : 0 ≤ lnF l d w := by
  unfold lnF
  split <;> omega
theorem cyV {rs : List (Int × Int)} {w0 : Int} (h : 0 ≤ w0) : ∀ t : Nat, cyW rs w0 (t * rs.length) = lnF (repL (wF rs 0) (dF rs) t) ((t : Int) * dF rs) w0 ∧ 0 ≤ cyW rs w0 (t * rs.length)
  | 0 => by
    rw [Nat.zero_mul, show ((0 : Nat) : Int) = 0 from rfl, rep_zero, Int.zero_mul]
    refine ⟨?_, h⟩
    show w0 = lnF 0 0 w0
    unfold lnF
    split <;> omega
  | t + 1 => by
    obtain ⟨e, p⟩ := cyV h t
    have v := lane_ok rs
    rw [cyW_turn, wF_lane rs p]
    refine ⟨?_, lnF_nn v.1⟩
    rw [e, ln_comp]
    have e1 := rep_add v (show (0 : Int) ≤ t by omega) (show (0 : Int) ≤ 1 by decide)
    rw [rep_one, Int.one_mul] at e1
    rw [e1, Int.natCast_add, Int.add_mul, show ((1 : Nat) : Int) = 1 from rfl, Int.one_mul]
theorem wait_eq {rs : List (Int × Int)} {w0 : Int} (h : 0 ≤ w0) (t r : Nat) (hr : r ≤ rs.length) : lnF (mulL (repL (wF rs 0) (dF rs) t) ((t : Int) * dF rs) (wF (rs.take r) 0) (dF (rs.take r))) ((t : Int) * dF rs + dF (rs.take r)) w0 = cyW rs w0 (t * rs.length + r) := by
  obtain ⟨e, p⟩ := cyV (rs := rs) h t
  rw [← ln_comp, ← e, ← wF_lane _ p, cyW_row w0 t r hr]
theorem dF_bound {rs : List (Int × Int)} (hb : ∀ r ∈ rs, RwB r) (hl : rs.length ≤ 1000) : (dF rs).natAbs < 2 ^ 75 := by
  have l2 := dG_bound rs 0 hb
  rw [show dG rs 0 = dF rs from rfl] at l2
  have l4 : (rs.length : Int) * 10 ^ 18 ≤ 1000 * 10 ^ 18 := Int.mul_le_mul_of_nonneg_right (by omega) (by decide)
  omega
/-- Lane(*rows) -/
theorem i_starLane {C p : Addr} {H : Hp} {qs : List Addr} {rs : List (Int × Int)} {R : Addr → Hp → Prop} {E : XK} (hl : rs.length ≤ 1000) (hp : SqL K H p (qs.map V.ref)) (h : RwT K H qs rs) (k : ∀ x H', Same H H' → H x = none → LnA C H' x (wF rs 0) (dF rs) → R x H') :
    ∃ a xs, V.ref p = V.ref a ∧ (SqT K H a xs ∨ SqL K H a xs) ∧ ∀ x dx, H x = none → H dx = none → dx ≠ x → spStar ["self"] (sp_linit K C) (V.ref x :: xs) (upd (upd H dx (.own x)) x (.ins C dx [])) (fun v H2 => v = .non ∧ R x H2) E :=
  ⟨p, _, rfl, .inr hp, i_newLane (by rw [h.len]; exact hl) h k⟩
theorem RwT.takeP {H : Hp} {qs : List Addr} {rs : List (Int × Int)} (h : RwT K H qs rs) (n : Nat) : RwT K H (qs.take n) (rs.take n) := RwT.take h n
def sp_waitOf (K : PySem.W.Frag) : Sp := fun vs H Q _ => ∃ (p : Addr) (n : Nat) (w0 : Int) (qs : List Addr) (rs : List (Int × Int)), vs = [.ref p, .int (n : Int), .int w0] ∧ SqL K H p (qs.map V.ref) ∧ RwT K H qs rs ∧ 0 < rs.length ∧ rs.length ≤ 1000 ∧ (∀ r ∈ rs, RwB r) ∧ n < 2 ^ 90 ∧ 0 ≤ w0 ∧
  ∀ H', Same H H' → Q (.int (cyW rs w0 n)) H'
theorem ok_wait_of (T : Txt K mg a) : FnOk P w K mg base CX0 5 a.f_wait_of a.fd_wait_of ["rows", "number", "initial"] (sp_waitOf K) := by
  refine T.d_wait_of.ok sc_wait_of (fun vs H Q E h => ?_) (fun cdv A outer s H vs Q E hr h => ?_)
  · obtain ⟨p, n, w0, qs, rs, rfl, _⟩ := h
    rfl
  · obtain ⟨p, n, w0, qs, rs, rfl, hp, hr', l0, l1, hb, n1, w1, k⟩ := h
    have ld := dF_bound hb l1
    have v := lane_ok rs
    refine ⟨_, (pss_cons (ps_asg (pe_callB call_dvm (by rfl) T.g_divmod (by decide +kernel) (pa_cons (pv 1) (pa_cons (pe_callB call_lenL (by rfl) T.g_len PySem.boot_len (pa_cons (pv 0) pa_nil)) pa_nil))) (pg_tup (by rfl) (pgs_cons (pg_name (i := 3) sc_wait_of.nd rfl (.inl rfl)) (pgs_cons (pg_name (i := 4) sc_wait_of.nd rfl (.inl rfl)) pgs_nil))))
    (pss_cons (ps_set (i := 5) sc_wait_of.nd rfl (.inl rfl) (pe_slice sl_list (pv 0) po_none (po_some (pv 4))))
    (pss_cons (ps_set (i := 6) sc_wait_of.nd rfl (.inl rfl) (pe_op (op_mulO T.u_Lane (okR (ok_Lane___mul__ T) T.d_Lane___mul__.b) (hr.mono (by decide)) pass0) (pe_meth (pe_makeS T.mk_Lane (ok_Lane___init__ T) (hr.mono (by decide)) (by rfl) T.g_Lane pass0 (pv 0)) T.cl_Lane T.m_Lane_repeated (ok_Lane_repeated T) (hr.mono (by decide)) T.d_Lane_repeated.b .nil pass0 (pa_cons (pv 3) pa_nil)) (pe_makeS T.mk_Lane (ok_Lane___init__ T) (hr.mono (by decide)) (by rfl) T.g_Lane pass0 (pv 5))))
    (pss_one (ps_ret (StX.pe_callO (pv 6) T.c_Lane (okR (ok_Lane___call__ T) T.d_Lane___call__.b) (hr.mono (by decide)) pass0 (pa_cons (pv 2) pa_nil))))))), ?_⟩
    walk_at "rd"
    refine i_lenL hp ?_
    walk_at "rd"
    rw [List.length_map, hr'.len]
    refine ⟨_, _, rfl, ⟨by omega, by omega⟩, fun D nD => ?_⟩
    have s1 := same_upd (o := .tup [.int ((n : Int) / (rs.length : Int)), .int ((n : Int) % (rs.length : Int))]) (Same.refl H) nD
    have hD : (upd H D (.tup [.int ((n : Int) / (rs.length : Int)), .int ((n : Int) % (rs.length : Int))])) D = some (.tup [.int ((n : Int) / (rs.length : Int)), .int ((n : Int) % (rs.length : Int))]) := upd_same
    generalize upd H D (.tup [.int ((n : Int) / (rs.length : Int)), .int ((n : Int) % (rs.length : Int))]) = H1 at s1 hD ⊢
    refine i_tg (SqT.tup hD) rfl ?_
    walk_at "rd"
    refine i_slL (s1.seq hp) fun F nF => ?_
    have er : ((n : Int) % (rs.length : Int)) = ((n % rs.length : Nat) : Int) := by rw [Int.natCast_emod]
    have et : ((n : Int) / (rs.length : Int)) = ((n / rs.length : Nat) : Int) := by rw [Int.natCast_ediv]
    have eF : cutV (qs.map V.ref) none (some ((n : Int) % (rs.length : Int))) = (qs.take (n % rs.length)).map V.ref := by
      rw [cutV_map, er]
      exact congrArg (List.map V.ref) (cutA_to qs _)
    rw [eF]
    have s2 := same_upd (o := .lst ((qs.take (n % rs.length)).map V.ref)) s1 nF
    have hF : (upd H1 F (.lst ((qs.take (n % rs.length)).map V.ref))) F = some (.lst ((qs.take (n % rs.length)).map V.ref)) := upd_same
    generalize upd H1 F (.lst ((qs.take (n % rs.length)).map V.ref)) = H2 at s2 hF ⊢
    walk_at "rd"
    refine i_mth ?_
    refine i_makeS ?_
    walk_at "rd"
    refine i_starLane l1 (s2.seq hp) (hr'.same s2) fun x H3 s3 n3 h3 => ?_
    refine i_lm h3 rfl ?_
    walk_at "rd"
    have t1 : (n / rs.length : Nat) ≤ n := Nat.div_le_self _ _
    have t0 : (0 : Int) ≤ ((n / rs.length : Nat) : Int) := Int.natCast_nonneg _
    rw [et]
    refine i_rp h3 v (by omega) (by omega) (by omega) fun y H4 s4 n4 h4 => ?_
    walk_at "rd"
    refine i_makeS ?_
    walk_at "rd"
    have s24 := (s2.trans s3).trans s4
    refine i_starLane (rs := rs.take (n % rs.length)) (by rw [List.length_take]; omega) (SqL.lst (s4 _ _ (s3 _ _ hF))) ((hr'.same s24).take _) fun z H5 s5 n5 h5 => ?_
    refine i_lmul (h4.same s5) h5 (rep_ok v (by omega)) (lane_ok _) fun u H6 s6 n6 h6 => ?_
    walk_at "rd"
    refine i_callO ?_
    walk_at "rd"
    refine ⟨u, rfl, ?_⟩
    walk_at "rd"
    refine i_lcall h6 ?_
    rw [wait_eq w1 _ _ (Nat.le_of_lt (Nat.mod_lt _ l0)), Nat.mul_comm, Nat.div_add_mod]
    exact k _ ((s24.trans s5).trans s6)
/-! ### _sum_of_greater -/
/-! sums of the greater of two -/
def mxF (a b : Int) : Int := if b > a then b else a
def sgF (fl ba sl : Int) : Nat → Int
  | 0 => 0
  | m + 1 => sgF fl ba sl m + mxF fl (ba + ((m : Int) + 1) * sl)
def trF : Nat → Int
  | 0 => 0
  | n + 1 => trF n + (n + 1)
theorem trF_two : ∀ n : Nat, 2 * trF n = (n : Int) * (n + 1)
  | 0 => rfl
  | n + 1 => by
    show 2 * (trF n + (n + 1)) = _
    rw [Int.mul_add, trF_two n, Int.natCast_add, show ((1 : Nat) : Int) = 1 from rfl]
    have e : ((n : Int) + 1) * ((n : Int) + 1 + 1) = (n : Int) * (n + 1) + 2 * (n + 1) := by
      rw [Int.mul_add, Int.mul_one, Int.mul_comm ((n : Int) + 1) ((n : Int) + 1), Int.add_mul, Int.one_mul]
      omega
    rw [e]
theorem sg_zero (fl ba : Int) : ∀ m : Nat, sgF fl ba 0 m = (m : Int) * mxF fl ba
  | 0 => by show (0 : Int) = 0 * _; omega
  | m + 1 => by
    show sgF fl ba 0 m + mxF fl (ba + ((m : Int) + 1) * 0) = _
    rw [sg_zero fl ba m, Int.mul_zero, Int.add_zero, Int.natCast_add, Int.add_mul]
    show _ = _ + 1 * _
    omega
theorem sg_low {fl ba sl : Int} {x : Nat} (h : ∀ m : Nat, m < x → ba + ((m : Int) + 1) * sl ≤ fl) : ∀ m : Nat, m ≤ x → sgF fl ba sl m = (m : Int) * fl
  | 0, _ => by show (0 : Int) = 0 * _; omega
  | m + 1, hm => by
    show sgF fl ba sl m + mxF fl (ba + ((m : Int) + 1) * sl) = _
    rw [sg_low h m (by omega)]
    have e := h m (by omega)
    unfold mxF
    rw [if_neg (by omega), Int.natCast_add, Int.add_mul]
    show _ = _ + 1 * _
    omega
theorem sg_high {fl ba sl : Int} {x : Nat} (h0 : ∀ m : Nat, m < x → ba + ((m : Int) + 1) * sl ≤ fl) (h1 : ∀ m : Nat, x ≤ m → fl < ba + ((m : Int) + 1) * sl) : ∀ d : Nat, sgF fl ba sl (x + d) = (x : Int) * fl + (d : Int) * ba + sl * (trF (x + d) - trF x)
  | 0 => by
    rw [Nat.add_zero, sg_low h0 x (Nat.le_refl _), Int.sub_self, Int.mul_zero]
    show _ = _ + 0 * _ + 0
    omega
  | d + 1 => by
    show sgF fl ba sl (x + d) + mxF fl (ba + (((x + d : Nat) : Int) + 1) * sl) = (x : Int) * fl + ((d + 1 : Nat) : Int) * ba + sl * (trF (x + d) + (((x + d : Nat) : Int) + 1) - trF x)
    rw [sg_high h0 h1 d]
    have e := h1 (x + d) (by omega)
    unfold mxF
    rw [if_pos e, Int.natCast_add d 1, Int.add_mul (d : Int), show ((1 : Nat) : Int) = 1 from rfl, Int.one_mul]
    have e2 : trF (x + d) + (((x + d : Nat) : Int) + 1) - trF x = (trF (x + d) - trF x) + (((x + d : Nat) : Int) + 1) := by omega
    rw [e2, Int.mul_add sl, Int.mul_comm sl (((x + d : Nat) : Int) + 1)]
    omega
theorem sg_closed {fl ba sl : Int} (hs : 0 < sl) (m : Nat) {low : Int} (hl : low = if (m : Int) < (if 0 > (fl - ba) / sl then 0 else (fl - ba) / sl) then (m : Int) else (if 0 > (fl - ba) / sl then 0 else (fl - ba) / sl)) :
    low * fl + ((m : Int) - low) * ba + sl * ((m : Int) * (m + 1) - low * (low + 1)) / 2 = sgF fl ba sl m := by
  have d1 : (fl - ba) / sl * sl ≤ fl - ba := Int.ediv_mul_le _ (by omega)
  have d2 : fl - ba < ((fl - ba) / sl + 1) * sl := Int.lt_ediv_add_one_mul_self _ hs
  generalize (fl - ba) / sl = q at d1 d2 hl
  obtain ⟨x, hx⟩ : ∃ x : Nat, (x : Int) = if 0 > q then 0 else q := ⟨(if 0 > q then 0 else q).toNat, Int.toNat_of_nonneg (by split <;> omega)⟩
  rw [← hx] at hl
  have h0 : ∀ k : Nat, k < x → ba + ((k : Int) + 1) * sl ≤ fl := fun k hk => by
    have : (k : Int) + 1 ≤ q := by
      split at hx <;> omega
    have := Int.mul_le_mul_of_nonneg_right this (Int.le_of_lt hs)
    omega
  have h1 : ∀ k : Nat, x ≤ k → fl < ba + ((k : Int) + 1) * sl := fun k hk => by
    have : q + 1 ≤ (k : Int) + 1 := by
      split at hx <;> omega
    have := Int.mul_le_mul_of_nonneg_right this (Int.le_of_lt hs)
    omega
  have key : ∀ n : Nat, n ≤ m → (m : Int) * (m + 1) - (n : Int) * (n + 1) = 2 * (trF m - trF n) := fun n _ => by
    rw [Int.mul_sub, trF_two, trF_two]
  have half : ∀ n : Nat, n ≤ m → sl * ((m : Int) * (m + 1) - (n : Int) * (n + 1)) / 2 = sl * (trF m - trF n) := fun n hn => by
    rw [key n hn, Int.mul_left_comm, Int.mul_ediv_cancel_left _ (by decide)]
  by_cases hm : (m : Int) < x
  · rw [if_pos hm] at hl
    subst hl
    rw [half m (Nat.le_refl _), Int.sub_self, Int.sub_self, sg_low h0 m (by omega)]
    simp
  · rw [if_neg hm] at hl
    subst hl
    obtain ⟨d, rfl⟩ : ∃ d, m = x + d := ⟨m - x, by omega⟩
    rw [half x (by omega), sg_high h0 h1 d]
    have e : ((x + d : Nat) : Int) - x = d := by omega
    rw [e]
def smF (f : Nat → Int) : Nat → Int
  | 0 => 0
  | m + 1 => smF f m + f (m + 1)
theorem smF_front (f : Nat → Int) : ∀ m : Nat, smF f (m + 1) = f 1 + smF (fun k => f (k + 1)) m
  | 0 => by show 0 + f 1 = f 1 + 0; omega
  | m + 1 => by
    show smF f (m + 1) + f (m + 2) = f 1 + (smF (fun k => f (k + 1)) m + f (m + 2))
    rw [smF_front f m]
    omega
theorem smF_congr {f g : Nat → Int} : ∀ m : Nat, (∀ k : Nat, 1 ≤ k → k ≤ m → f k = g k) → smF f m = smF g m
  | 0, _ => rfl
  | m + 1, h => by
    show smF f m + f (m + 1) = smF g m + g (m + 1)
    rw [smF_congr m fun k a b => h k a (by omega), h (m + 1) (by omega) (by omega)]
theorem smF_rev (f : Nat → Int) : ∀ m : Nat, smF (fun k => f (m + 1 - k)) m = smF f m
  | 0 => rfl
  | m + 1 => by
    rw [smF_front]
    have e1 : smF (fun k => f (m + 1 + 1 - (k + 1))) m = smF f m := by
      rw [← smF_rev f m]
      refine smF_congr m fun k a b => ?_
      show f (m + 1 + 1 - (k + 1)) = f (m + 1 - k)
      rw [show m + 1 + 1 - (k + 1) = m + 1 - k by omega]
    rw [e1]
    show f (m + 1 + 1 - 1) + smF f m = smF f m + f (m + 1)
    rw [show m + 1 + 1 - 1 = m + 1 by omega]
    omega
theorem sg_sm (fl ba sl : Int) : ∀ m : Nat, sgF fl ba sl m = smF (fun k => mxF fl (ba + (k : Int) * sl)) m
  | 0 => rfl
  | m + 1 => by
    show sgF fl ba sl m + mxF fl (ba + ((m : Int) + 1) * sl) = smF _ m + mxF fl (ba + ((m + 1 : Nat) : Int) * sl)
    rw [sg_sm fl ba sl m]
    rfl
theorem sg_neg (fl ba sl : Int) (m : Nat) : sgF fl (ba + ((m : Int) + 1) * sl) (-sl) m = sgF fl ba sl m := by
  rw [sg_sm, sg_sm, ← smF_rev]
  refine smF_congr m fun k a b => ?_
  show mxF fl _ = mxF fl _
  congr 1
  have e : ((m + 1 - k : Nat) : Int) = (m : Int) + 1 - k := by omega
  rw [e, Int.mul_neg, Int.sub_mul]
  omega
def SgB (fl ba sl : Int) (m : Nat) (k : Nat) : Prop := fl.natAbs < 2 ^ k ∧ ba.natAbs < 2 ^ k ∧ sl.natAbs < 2 ^ 100 ∧ m < 2 ^ 70
def sp_sgG (spr : Sp) : Sp := fun vs H Q E => ∃ (fl ba sl : Int) (m : Nat), vs = [.int fl, .int ba, .int sl, .int (m : Int)] ∧ SgB fl ba sl m 250 ∧ (sl < 0 → spr [.int fl, .int (ba + ((m : Int) + 1) * sl), .int (-sl), .int (m : Int)] H Q E0) ∧ (0 ≤ sl → Q (.int (sgF fl ba sl m)) H)
theorem ok_sgG {k : Nat} {spr : Sp} (T : Txt K mg a) (okr : FnOk P w K mg base CX0 k a.f__sum_of_greater a.fd__sum_of_greater ["floor", "base", "slope", "many"] spr) : FnOk P w K mg base CX0 (k + 1) a.f__sum_of_greater a.fd__sum_of_greater ["floor", "base", "slope", "many"] (sp_sgG spr) := by
  refine T.d__sum_of_greater.F.ok sc__sum_of_greater (fun vs H Q E h => ?_) (fun cdv A outer s H vs Q E hr h => ?_)
  · obtain ⟨fl, ba, sl, m, rfl, _⟩ := h
    rfl
  · obtain ⟨fl, ba, sl, m, rfl, ⟨b1, b2, b3, b4⟩, hn, hp⟩ := h
    refine ⟨_, (pss_cons (ps_if (pt_cmpR op_lt (pv 2) pe_int (nomark _))
      (pss_one (ps_ret (cl T.d__sum_of_greater okr hr (pa_cons (pv 0) (pa_cons (pe_op op_add (pv 1) (pe_op op_mulW (pe_op op_add (pv 3) pe_int) (pv 2))) (pa_cons (pe_un un_neg (pv 2)) (pa_cons (pv 3) pa_nil)))))))
      pss_nil)
    (pss_cons (ps_if (pt_cmpR op_eq (pv 2) pe_int (nomark _))
      (pss_one (ps_ret (pe_op op_mulW (pv 3) (pe_callB (call_mx rfl) (by rfl) T.g_max (by decide +kernel) (pa_cons (pv 0) (pa_cons (pv 1) pa_nil))))))
      pss_nil)
    (pss_cons (ps_set (i := 4) sc__sum_of_greater.nd rfl (.inl rfl) (pe_callB (call_mn rfl) (by rfl) T.g_min (by decide +kernel) (pa_cons (pe_callB (call_mx rfl) (by rfl) T.g_max (by decide +kernel) (pa_cons (pe_op op_fdivW (pe_op op_sub (pv 0) (pv 1)) (pv 2)) (pa_cons pe_int pa_nil))) (pa_cons (pv 3) pa_nil))))
    (pss_cons (ps_set (i := 5) sc__sum_of_greater.nd rfl (.inl rfl) (pe_op op_fdivW (pe_op op_mulW (pv 2) (pe_op op_sub (pe_op op_mulW (pv 3) (pe_op op_add (pv 3) pe_int)) (pe_op op_mulW (pv 4) (pe_op op_add (pv 4) pe_int)))) pe_int))
    (pss_one (ps_ret (pe_op op_add (pe_op op_add (pe_op op_mulW (pv 4) (pv 0)) (pe_op op_mulW (pe_op op_sub (pv 3) (pv 4)) (pv 1))) (pv 5)))))))), ?_⟩
    have m1 : ((m : Int) + 1).natAbs < 2 ^ 71 := by omega
    walk_at "rd"
    refine w2 (fun e => ?_) (fun e => ?_)
    · walk_at "rd"
      refine i_I (wide_mul m1 b3 (by decide) (by decide) (by decide)) ?_
      walk_at "rd"
      exact hn e
    · walk_at "rd"
      refine w2 (fun e2 => ?_) (fun e2 => ?_)
      · subst e2
        walk_at "rd"
        have b5 : (if ba > fl then ba else fl).natAbs < 2 ^ 250 := by split <;> omega
        refine i_I (wide_mul (a := 71) (by omega) b5 (by decide) (by decide) (by decide)) ?_
        have z := hp (by decide)
        rw [sg_zero] at z
        exact z
      · have s0 : 0 < sl := by omega
        walk_at "rd"
        refine i_I (wide_div s0 b3 (by decide) (by decide)) ?_
        walk_at "rd"
        generalize el : (if (m : Int) < (if 0 > (fl - ba) / sl then 0 else (fl - ba) / sl) then (m : Int) else (if 0 > (fl - ba) / sl then 0 else (fl - ba) / sl)) = low
        have l0 : 0 ≤ low ∧ low ≤ m := by
          generalize (fl - ba) / sl = q at el
          subst el
          constructor <;> split <;> (try split) <;> omega
        have z := hp (by omega)
        rw [← sg_closed s0 m el.symm] at z
        have m2 : (m : Int).natAbs < 2 ^ 71 := by omega
        have m3 : low.natAbs < 2 ^ 71 := by omega
        have m4 : (low + 1).natAbs < 2 ^ 71 := by omega
        have p1 := wide_lt m2 m1
        have p2 := wide_lt m3 m4
        refine i_I (wide_mul m2 m1 (by decide) (by decide) (by decide)) ?_
        walk_at "rd"
        refine i_I (wide_mul m3 m4 (by decide) (by decide) (by decide)) ?_
        walk_at "rd"
        have p3 : ((m : Int) * (m + 1) - low * (low + 1)).natAbs < 2 ^ 143 := by
          generalize (m : Int) * (m + 1) = u at p1 ⊢
          generalize low * (low + 1) = v at p2 ⊢
          omega
        refine i_I (wide_mul b3 p3 (by decide) (by decide) (by decide)) ?_
        walk_at "rd"
        refine i_I (wide_div (b := 10) (by decide) (by decide) (by decide) (by decide)) ?_
        walk_at "rd"
        refine i_I (wide_mul m3 b1 (by decide) (by decide) (by decide)) ?_
        walk_at "rd"
        refine i_I (wide_mul (a := 71) (by omega) b2 (by decide) (by decide) (by decide)) ?_
        walk_at "rd"
        exact z
def sp_sg : Sp := fun vs H Q _ => ∃ (fl ba sl : Int) (m : Nat), vs = [.int fl, .int ba, .int sl, .int (m : Int)] ∧ SgB fl ba sl m 240 ∧ Q (.int (sgF fl ba sl m)) H
theorem ok__sum_of_greater (T : Txt K mg a) : FnOk P w K mg base CX0 2 a.f__sum_of_greater a.fd__sum_of_greater ["floor", "base", "slope", "many"] sp_sg :=
  fn_imp (ok_sgG T (ok_sgG T fn_none)) fun vs H Q E ⟨fl, ba, sl, m, e, ⟨b1, b2, b3, b4⟩, q⟩ => by
    have m1 : ((m : Int) + 1).natAbs < 2 ^ 71 := by omega
    have p := wide_lt m1 b3
    refine ⟨fl, ba, sl, m, e, ⟨by omega, by omega, b3, b4⟩, fun hs => ?_, fun _ => q⟩
    refine ⟨fl, _, -sl, m, rfl, ⟨by omega, ?_, by omega, b4⟩, fun h2 => by omega, fun _ => ?_⟩
    · generalize ((m : Int) + 1) * sl = u at p ⊢
      omega
    · rw [sg_neg]
      exact q
/-! ### _sum_behind -/
def flF (L D la da : Int) : Int := if D > 0 then la else mxF la (da + L)
def baF (L D da w0 : Int) : Int := if D > 0 then da + mxF w0 (L - D) else da + w0
def sp_behind (C : Addr) : Sp := fun vs H Q _ => ∃ (wh ah : Addr) (L D la da w0 : Int) (t : Nat), vs = [.ref wh, .ref ah, .int ((t : Int) + 1), .int w0] ∧ LnA C H wh L D ∧ LnA C H ah la da ∧ L.natAbs < 2 ^ 90 ∧ D.natAbs < 2 ^ 90 ∧ la.natAbs < 2 ^ 90 ∧ da.natAbs < 2 ^ 90 ∧ w0.natAbs < 2 ^ 90 ∧ t < 2 ^ 70 ∧ Q (.int (lnF la da w0 + sgF (flF L D la da) (baF L D da w0) D t)) H
theorem ok__sum_behind (T : Txt K mg a) : FnOk P w K mg base CX0 4 a.f__sum_behind a.fd__sum_behind ["whole", "ahead", "times", "initial"] (sp_behind a.k_Lane) := by
  refine T.d__sum_behind.F.ok sc__sum_behind (fun vs H Q E h => ?_) (fun cdv A outer s H vs Q E hr h => ?_)
  · obtain ⟨wh, ah, L, D, la, da, w0, t, rfl, _⟩ := h
    rfl
  · obtain ⟨wh, ah, L, D, la, da, w0, t, rfl, hw, ha, b1, b2, b3, b4, b5, b6, k⟩ := h
    refine ⟨_, (C8.pss_cut (ps_if (pt_cmpR op_gt (pe_prop (pv 0) T.cl_Lane T.p_Lane_drift (ok_Lane_drift T) (hr.mono (by decide)) T.d_Lane_drift.b .nil (E := E0) pass0 rfl) pe_int (nomark _))
      (pss_cons (ps_set (i := 4) sc__sum_behind.nd rfl (.inl rfl) (pe_prop (pv 1) T.cl_Lane T.p_Lane_least (ok_Lane_least T) (hr.mono (by decide)) T.d_Lane_least.b .nil (E := E0) pass0 rfl))
      (pss_one (ps_set (i := 5) sc__sum_behind.nd rfl (.inl rfl) (pe_op op_add (pe_prop (pv 1) T.cl_Lane T.p_Lane_drift (ok_Lane_drift T) (hr.mono (by decide)) T.d_Lane_drift.b .nil (E := E0) pass0 rfl) (pe_callB (call_mx rfl) (by rfl) T.g_max (by decide +kernel) (pa_cons (pv 3) (pa_cons (pe_op op_sub (pe_prop (pv 0) T.cl_Lane T.p_Lane_least (ok_Lane_least T) (hr.mono (by decide)) T.d_Lane_least.b .nil (E := E0) pass0 rfl) (pe_prop (pv 0) T.cl_Lane T.p_Lane_drift (ok_Lane_drift T) (hr.mono (by decide)) T.d_Lane_drift.b .nil (E := E0) pass0 rfl)) pa_nil)))))))
      (pss_cons (ps_set (i := 4) sc__sum_behind.nd rfl (.inl rfl) (pe_callB (call_mx rfl) (by rfl) T.g_max (by decide +kernel) (pa_cons (pe_prop (pv 1) T.cl_Lane T.p_Lane_least (ok_Lane_least T) (hr.mono (by decide)) T.d_Lane_least.b .nil (E := E0) pass0 rfl) (pa_cons (pe_op op_add (pe_prop (pv 1) T.cl_Lane T.p_Lane_drift (ok_Lane_drift T) (hr.mono (by decide)) T.d_Lane_drift.b .nil (E := E0) pass0 rfl) (pe_prop (pv 0) T.cl_Lane T.p_Lane_least (ok_Lane_least T) (hr.mono (by decide)) T.d_Lane_least.b .nil (E := E0) pass0 rfl)) pa_nil))))
      (pss_one (ps_set (i := 5) sc__sum_behind.nd rfl (.inl rfl) (pe_op op_add (pe_prop (pv 1) T.cl_Lane T.p_Lane_drift (ok_Lane_drift T) (hr.mono (by decide)) T.d_Lane_drift.b .nil (E := E0) pass0 rfl) (pv 3))))))
    (pss_one (ps_ret (pe_op op_add (StX.pe_callO (pv 1) T.c_Lane (okR (ok_Lane___call__ T) T.d_Lane___call__.b) (hr.mono (by decide)) pass0 (pa_cons (pv 3) pa_nil)) (cl T.d__sum_of_greater (ok__sum_of_greater T) (hr.mono (by decide)) (pa_cons (pv 4) (pa_cons (pv 5) (pa_cons (pe_prop (pv 0) T.cl_Lane T.p_Lane_drift (ok_Lane_drift T) (hr.mono (by decide)) T.d_Lane_drift.b .nil (E := E0) pass0 rfl) (pa_cons (pe_op op_sub (pv 2) pe_int) pa_nil))))))))), ?_⟩
    walk_at "rd"
    refine i_cut (fun σ' H' => H' = H ∧ σ' = [some (.ref wh), some (.ref ah), some (.int ((t : Int) + 1)), some (.int w0), some (.int (flF L D la da)), some (.int (baF L D da w0))]) ?_ ?_
    · walk_at "rd"
      refine i_prop ?_
      walk_at "rd"
      refine i_lk hw ?_
      walk_at "rd"
      refine w2 (fun e => ?_) (fun e => ?_)
      · walk_at "rd"
        refine i_prop ?_
        walk_at "rd"
        refine i_lk ha ?_
        walk_at "rd"
        refine i_prop ?_
        walk_at "rd"
        refine i_lk ha ?_
        walk_at "rd"
        refine i_prop ?_
        walk_at "rd"
        refine i_lk hw ?_
        walk_at "rd"
        refine i_prop ?_
        walk_at "rd"
        refine i_lk hw ?_
        walk_at "rd"
        refine ⟨rfl, ?_⟩
        unfold flF baF mxF
        rw [if_pos e, if_pos e]
        rfl
      · walk_at "rd"
        refine i_prop ?_
        walk_at "rd"
        refine i_lk ha ?_
        walk_at "rd"
        refine i_prop ?_
        walk_at "rd"
        refine i_lk ha ?_
        walk_at "rd"
        refine i_prop ?_
        walk_at "rd"
        refine i_lk hw ?_
        walk_at "rd"
        refine i_prop ?_
        walk_at "rd"
        refine i_lk ha ?_
        walk_at "rd"
        refine ⟨rfl, ?_⟩
        unfold flF baF mxF
        rw [if_neg e, if_neg e]
        rfl
    · rintro σ' H' ⟨rfl, rfl⟩
      walk_at "rd"
      refine i_callO ?_
      walk_at "rd"
      refine ⟨ah, rfl, ?_⟩
      walk_at "rd"
      refine i_lcall ha ?_
      walk_at "rd"
      refine i_prop ?_
      walk_at "rd"
      refine i_lk hw ?_
      walk_at "rd"
      rw [show (t : Int) + 1 - 1 = t by omega]
      refine ⟨_, _, _, t, rfl, ⟨?_, ?_, by omega, b6⟩, ?_⟩
      · unfold flF mxF
        split <;> (try split) <;> omega
      · unfold baF mxF
        split <;> (try split) <;> omega
      · walk_at "rd"
        exact k
/-! ### total -/
/-- the sum of the first m -/
def snF (f : Nat → Int) : Nat → Int
  | 0 => 0
  | m + 1 => snF f m + f m
theorem snF_add (f g : Nat → Int) : ∀ m : Nat, snF (fun i => f i + g i) m = snF f m + snF g m
  | 0 => rfl
  | m + 1 => by
    show snF _ m + (f m + g m) = snF f m + f m + (snF g m + g m)
    rw [snF_add f g m]
    omega
theorem snF_congr {f g : Nat → Int} : ∀ m : Nat, (∀ k : Nat, k < m → f k = g k) → snF f m = snF g m
  | 0, _ => rfl
  | m + 1, h => by
    show snF f m + f m = snF g m + g m
    rw [snF_congr m fun k a => h k (by omega), h m (by omega)]
theorem snF_split (f : Nat → Int) (a : Nat) : ∀ b : Nat, snF f (a + b) = snF f a + snF (fun i => f (a + i)) b
  | 0 => by show snF f a = snF f a + 0; omega
  | b + 1 => by
    show snF f (a + b) + f (a + b) = snF f a + (snF (fun i => f (a + i)) b + f (a + b))
    rw [snF_split f a b]
    omega
theorem snF_grid (c : Nat → Int) (n : Nat) : ∀ t : Nat, snF (fun i => snF (fun k => c (k * n + i)) t) n = snF c (t * n)
  | 0 => by
    rw [Nat.zero_mul]
    have : ∀ m : Nat, snF (fun _ => (0 : Int)) m = 0 := fun m => by
      induction m with
      | zero => rfl
      | succ m ih =>
        show snF _ m + 0 = 0
        rw [ih]
        rfl
    exact this n
  | t + 1 => by
    have e : snF (fun i => snF (fun k => c (k * n + i)) (t + 1)) n = snF (fun i => snF (fun k => c (k * n + i)) t + c (t * n + i)) n := rfl
    rw [e, snF_add, snF_grid c n t, Nat.add_mul, Nat.one_mul, snF_split]
theorem smF_sn (f : Nat → Int) : ∀ t : Nat, f 0 + smF f t = snF f (t + 1)
  | 0 => by show f 0 + 0 = 0 + f 0; omega
  | t + 1 => by
    show f 0 + (smF f t + f (t + 1)) = snF f (t + 1) + f (t + 1)
    rw [← smF_sn f t]
    omega
theorem far_ln {L D w0 : Int} (la da : Int) (v : LnV L D) (k : Nat) (hk : 1 ≤ k) : mxF (flF L D la da) (baF L D da w0 + (k : Int) * D) = lnF la da (lnF (repL L D k) ((k : Int) * D) w0) := by
  obtain ⟨v1, v2⟩ := v
  unfold repL
  rw [if_neg (show ¬ (k : Int) = 0 by omega)]
  have e : ((k : Int) - 1) * D = (k : Int) * D - D := by rw [Int.sub_mul]; omega
  unfold flF baF
  by_cases hD : D > 0
  · rw [if_pos hD, if_pos hD, if_pos hD, e]
    generalize (k : Int) * D = u
    unfold mxF lnF
    repeat' split
    all_goals omega
  · rw [if_neg hD, if_neg hD, if_neg hD, Int.mul_zero]
    generalize (k : Int) * D = u
    unfold mxF lnF
    repeat' split
    all_goals omega
/-- the waits of one row of each repetition -/
theorem col_sum {rs : List (Int × Int)} {w0 : Int} (h : 0 ≤ w0) (t i : Nat) (hi : i ≤ rs.length) : lnF (wF (rs.take i) 0) (dF (rs.take i)) w0 + sgF (flF (wF rs 0) (dF rs) (wF (rs.take i) 0) (dF (rs.take i))) (baF (wF rs 0) (dF rs) (dF (rs.take i)) w0) (dF rs) t = snF (fun k => cyW rs w0 (k * rs.length + i)) (t + 1) := by
  rw [← smF_sn, sg_sm]
  congr 1
  · show _ = cyW rs w0 (0 * rs.length + i)
    rw [cyW_row w0 0 i hi, Nat.zero_mul]
    exact (wF_lane _ h).symm
  · refine smF_congr t fun k a b => ?_
    show mxF _ _ = cyW rs w0 (k * rs.length + i)
    obtain ⟨e, p⟩ := cyV (rs := rs) h k
    rw [cyW_row w0 k i hi, wF_lane _ p, e]
    exact far_ln _ _ (lane_ok rs) k a
theorem wF_bound2 {rs : List (Int × Int)} (hb : ∀ r ∈ rs, RwB r) (hl : rs.length ≤ 1000) : (wF rs 0).natAbs < 2 ^ 75 := by
  have l2 := wF_bound rs 0 (by omega) hb
  have l4 : (rs.length : Int) * 10 ^ 18 ≤ 1000 * 10 ^ 18 := Int.mul_le_mul_of_nonneg_right (by omega) (by decide)
  omega
def sp_total (K : PySem.W.Frag) : Sp := fun vs H Q _ => ∃ (p : Addr) (t : Nat) (w0 : Int) (qs : List Addr) (rs : List (Int × Int)), vs = [.ref p, .int ((t : Int) + 1), .int w0] ∧ SqL K H p (qs.map V.ref) ∧ RwT K H qs rs ∧ rs.length ≤ 1000 ∧ (∀ r ∈ rs, RwB r) ∧ t < 2 ^ 70 ∧ 0 ≤ w0 ∧ w0 < 2 ^ 90 ∧
  ∀ H', Same H H' → Q (.int (snF (cyW rs w0) ((t + 1) * rs.length))) H'
theorem ok_total (T : Txt K mg a) : FnOk P w K mg base CX0 5 a.f_total a.fd_total ["rows", "times", "initial"] (sp_total K) := by
  refine T.d_total.ok sc_total (fun vs H Q E h => ?_) (fun cdv A outer s H vs Q E hr h => ?_)
  · obtain ⟨p, t, w0, qs, rs, rfl, _⟩ := h
    rfl
  · obtain ⟨p, t, w0, qs, rs, rfl, hp, hr', l1, hb, t1, w1, w2, k⟩ := h
    have ld := dF_bound hb l1
    have lw := wF_bound2 hb l1
    refine ⟨_, (pss_cons (ps_set (i := 3) sc_total.nd rfl (.inl rfl) (pe_makeS T.mk_Lane (ok_Lane___init__ T) (hr.mono (by decide)) (by rfl) T.g_Lane pass0 (pv 0)))
    (pss_cons (ps_set (i := 4) sc_total.nd rfl (.inl rfl) (pe_makeR0 T.mk_Lane (ok_Lane___init__ T) (hr.mono (by decide)) (by rfl) T.g_Lane pass0))
    (pss_cons (ps_set (i := 5) sc_total.nd rfl (.inl rfl) pe_int)
    (pss_cons (ps_for PassesOwn.never rfl (pi_list (pv 0)) (pg_name (i := 6) sc_total.nd rfl (.inl rfl))
      (pss_cons (ps_set (i := 5) sc_total.nd rfl (.inl rfl) (pe_op op_add (pv 5) (cl T.d__sum_behind (ok__sum_behind T) (hr.mono (by decide)) (pa_cons (pv 3) (pa_cons (pv 4) (pa_cons (pv 1) (pa_cons (pv 2) pa_nil)))))))
      (pss_one (ps_set (i := 4) sc_total.nd rfl (.inl rfl) (pe_op (op_mulO T.u_Lane (okR (ok_Lane___mul__ T) T.d_Lane___mul__.b) (hr.mono (by decide)) pass0) (pv 4) (StX.pe_makeR T.mk_Lane (ok_Lane___init__ T) (hr.mono (by decide)) (by rfl) T.g_Lane pass0 (pa_cons (pv 6) pa_nil)))))))
    (pss_one (ps_ret (pv 5))))))), ?_⟩
    walk_at "rd"
    refine i_makeS ?_
    walk_at "rd"
    refine i_starLane l1 hp hr' fun x H1 s1 n1 h1 => ?_
    walk_at "rd"
    refine i_makeR ?_
    walk_at "rd"
    refine i_newLane (qs := []) (rs := []) (by decide) RwT.nil fun y H2 s2 n2 h2 => ?_
    have s12 := s1.trans s2
    walk_at "rd"
    refine i_exRL (s12.seq hp) ?_
    refine go_for (walk_list (xs := qs.map V.ref)) (fun i σ' H' => ∃ y v6, σ' = [some (.ref p), some (.int ((t : Int) + 1)), some (.int w0), some (.ref x), some (.ref y), some (.int (snF (fun i => snF (fun k => cyW rs w0 (k * rs.length + i)) (t + 1)) i)), v6] ∧ Same H1 H' ∧ LnA a.k_Lane H' y (wF (rs.take i) 0) (dF (rs.take i)))
      ⟨y, _, rfl, s2, h2⟩ (fun i σ' H' _ h => by obtain ⟨_, _, _, h, _⟩ := h; exact (s1.trans h).seq hp) ?_ ?_
    · rintro i z σ' H3 H4 hi ⟨y, v6, rfl, s3, h3⟩ ⟨e1, e2⟩
      have e1' := e1.symm
      subst e1'
      rw [List.length_map] at hi
      have hi2 : i < rs.length := by rw [← hr'.len]; exact hi
      rw [List.getElem?_map, List.getElem?_eq_getElem hi] at e2
      cases e2
      have er := List.getElem?_eq_getElem hi2
      have hbt : ∀ r ∈ rs.take i, RwB r := fun r h => hb r (List.mem_of_mem_take h)
      have lt : (rs.take i).length ≤ 1000 := by rw [List.length_take]; omega
      have ld2 := dF_bound hbt lt
      have lw2 := wF_bound2 hbt lt
      walk_at "rd"
      refine ⟨x, y, _, _, _, _, w0, t, rfl, h1.same s3, h3, by omega, by omega, by omega, by omega, by omega, t1, ?_⟩
      rw [col_sum w1 t i (by omega)]
      walk_at "rd"
      refine i_makeR ?_
      walk_at "rd"
      refine i_newLane (qs := [qs[i]]) (rs := [rs[i]]) (show 1 ≤ 1000 by decide) (RwT.one ((hr'.same (s1.trans s3)).at_ i _ _ (List.getElem?_eq_getElem hi) er)) fun z H5 s5 n5 hz => ?_
      refine i_rmul (h3.same s5) hz fun z2 H6 s6 n6 hz2 => ?_
      walk_at "rd"
      have e3 : rs.take (i + 1) = rs.take i ++ [rs[i]] := by
        rw [List.take_add_one, er]
        rfl
      refine ⟨z2, some (.ref qs[i]), rfl, (s3.trans s5).trans s6, ?_⟩
      rw [e3]
      exact hz2
    · rintro σ' H3 ⟨y, v6, rfl, s3, h3⟩
      rw [List.length_map, hr'.len, snF_grid]
      walk_at "rd"
      exact k _ (s1.trans s3)
/-! ### _law_bag -/
/-- the bag of draws at b: its cells stand in a list of their own -/
def Bag (H : Hp) (b c : Addr) : Prop := ∃ (cs : List Int) (m s : Int) (i : Nat), b ≠ c ∧ H b = some (.lst [.int m, .int s, .int (i : Int), .ref c]) ∧ H c = some (.lst (cs.map V.int)) ∧ (∀ x ∈ cs, 0 ≤ x) ∧ 0 ≤ m ∧ 0 ≤ s
theorem Bag.keep {H H' : Hp} {b c : Addr} (h : Bag H b c) (e : Same H H') : Bag H' b c := by
  obtain ⟨cs, m, s, i, n, h1, h2, r⟩ := h
  exact ⟨cs, m, s, i, n, e _ _ h1, e _ _ h2, r⟩
theorem Bag.new {H : Hp} {b c p : Addr} {o : HO} (h : Bag H b c) (n : H p = none) : Bag (upd H p o) b c := h.keep (same_upd (Same.refl _) n)
/-- an object that was none of the bag's has changed -/
theorem Bag.old {H H0 : Hp} {b c p : Addr} {o : HO} (h0 : Bag H0 b c) (h : Bag H b c) (n : H0 p = none) : Bag (upd H p o) b c := by
  obtain ⟨cs0, _, _, _, n0, e0, f0, _⟩ := h0
  obtain ⟨cs, m, s, i, n1, h1, h2, r⟩ := h
  exact ⟨cs, m, s, i, n1, by rw [upd_ne (ne_of_none e0 n)]; exact h1, by rw [upd_ne (ne_of_none f0 n)]; exact h2, r⟩
theorem Bag.ne {H : Hp} {b c p : Addr} (h : Bag H b c) (n : H p = none) : p ≠ b := by
  obtain ⟨_, _, _, _, _, e0, _⟩ := h
  exact (ne_of_none e0 n).symm
theorem cut63 {ns : List Int} (h : ns.length ≤ 63) : cutV (ns.map V.int) none (some 63) = ns.map V.int := by
  unfold cutV
  have e : HT.sIx (ns.map V.int).length (ns.map V.int).length (some 63) = (ns.map V.int).length := by
    rw [show (63 : Int) = ((63 : Nat) : Int) from rfl, HT.sIx_nat, List.length_map]
    omega
  rw [e, HT.sIx_none, List.drop_zero, Nat.sub_zero, List.take_length]
def sp_bag (K : PySem.W.Frag) : Sp := fun vs H Q _ => ∃ (a : Addr) (ns : List Int), vs = [.ref a] ∧ SqL K H a (ns.map V.int) ∧ ns.length ≤ 63 ∧ ∀ b c H', H b = none → Same H H' → Bag H' b c → Q (.ref b) H'
theorem ok__law_bag (T : Txt K mg a) : FnOk P w K mg base CX0 1 a.f__law_bag a.fd__law_bag ["_law_script"] (sp_bag K) := by
  refine T.d__law_bag.F.ok sc__law_bag (fun vs H Q E h => ?_) (fun cdv A outer s H vs Q E hr h => ?_)
  · obtain ⟨a, ns, rfl, _⟩ := h
    rfl
  · obtain ⟨a, ns, rfl, hS, hl, k⟩ := h
    refine ⟨_, (pss_one (ps_ret (pe_lst (pa_cons pe_int (pa_cons pe_int (pa_cons pe_int (pa_cons (pe_lc (own := [("_law_cell", 1)]) (g := gName 1) (tt := tYes) rfl sc__law_bag.nd (pi_list (pe_slice sl_list (pv 0) po_none (po_some pe_int))) (blkOk_by (own := [("_law_cell", 1)]) (N := ["_law_script", "_law_cell"]) (sc := defScope s__law_bag) (by decide +kernel)) (fun _ _ _ _ _ => pg_name (i := 1) sc__law_bag.nd rfl (Or.inl rfl)) (fun _ _ _ _ _ => pts_nil) (fun _ _ _ _ _ => (pe_callB call_absI (by rfl) T.g_abs (by decide +kernel) (pa_cons (pv 1) pa_nil)))) pa_nil))))))), ?_⟩
    walk_at "rd"
    refine i_slL hS fun p np => ?_
    rw [cut63 hl]
    have s1 : Same H (upd H p (.lst (ns.map V.int))) := same_upd (Same.refl _) np
    refine i_exRL (SqL.lst upd_same) ?_
    intro c nc
    have pc : p ≠ c := ne_of_none upd_same nc
    refine lc_map (walk_listF (d := .int 0)) (fun i => .int (if ns.getD i 0 < 0 then -(ns.getD i 0) else ns.getD i 0)) (by rw [List.length_map]; exact small1000 (by omega)) nc (fun H' e => e.seq (SqL.lst upd_same)) ?_ ?_
    · intro i H' hi e R hR
      walk_at "rd"
      rw [List.length_map] at hi
      refine ⟨ns.getD i 0, ?_, hR _ (Same.refl _)⟩
      simp [List.getD_eq_getElem?_getD, hi]
    · intro H' e hc
      walk_at "rd"
      refine ⟨by show 4 ≤ sizeLine; decide, fun b nb => ?_⟩
      have cb : c ≠ b := ne_of_none hc nb
      refine k b c _ ?_ ?_ ⟨(List.range ns.length).map (fun i => if ns.getD i 0 < 0 then -(ns.getD i 0) else ns.getD i 0), 0, 1234567891, 0, cb.symm, upd_same, ?_, ?_, by omega, by omega⟩
      · exact s1.free (e.free nb)
      · exact same_upd (s1.trans e) nb
      · rw [upd_ne cb, hc, List.length_map, List.map_map]
        rfl
      · intro x hx
        obtain ⟨i, _, rfl⟩ := List.mem_map.mp hx
        split <;> omega
/-! ### _law_take -/
/-- one draw: a number below many; all but the bag stays -/
def sp_take : Sp := fun vs H Q _ => ∃ (b c : Addr) (n : Int), vs = [.ref b, .int n] ∧ Bag H b c ∧ 0 < n ∧ n < 2 ^ 250 ∧ ∀ (r : Nat) H', (r : Int) < n → Bag H' b c → But b H H' → Q (.int (r : Int)) H'
theorem ok__law_take (T : Txt K mg a) : FnOk P w K mg base CX0 1 a.f__law_take a.fd__law_take ["_law_bag_here", "_law_many"] sp_take := by
  refine T.d__law_take.F.ok sc__law_take (fun vs H Q E h => ?_) (fun cdv A outer s H vs Q E hr h => ?_)
  · obtain ⟨b, c, n, rfl, _⟩ := h
    rfl
  · obtain ⟨b, c, n, rfl, ⟨cs, m, s, i, bc, hb, hc, hcs, hm, hs⟩, n0, nb, k0⟩ := h
    have k : ∀ (r : Int) H', 0 ≤ r → r < n → Bag H' b c → But b H H' → Q (.int r) H' := fun r H' h0 h1 h2 h3 => by
      obtain ⟨r', rfl⟩ := Int.eq_ofNat_of_zero_le h0
      exact k0 r' H' h1 h2 h3
    refine ⟨_, (C8.pss_cut (ps_if (pt_cmpR op_eq (pe_ix ix_list (pv 0) pe_int (fun _ _ => rfl)) pe_int (nomark _))
      (pss_cons (ps_set (i := 2) sc__law_take.nd rfl (.inl rfl) pe_int)
      (C8.pss_cut (ps_if (pt_cmpR op_lt (pe_ix ix_list (pv 0) pe_int (fun _ _ => rfl)) (pe_callB call_lenL (by rfl) T.g_len PySem.boot_len (pa_cons (pe_ix ix_list (pv 0) pe_int (fun _ _ => rfl)) pa_nil)) (nomark _))
        (pss_one (ps_set (i := 2) sc__law_take.nd rfl (.inl rfl) (pe_ix ix_list (pe_ix ix_list (pv 0) pe_int (fun _ _ => rfl)) (pe_ix ix_list (pv 0) pe_int (fun _ _ => rfl)) (fun _ _ => rfl))))
        pss_nil)
      (pss_cons (ps_augS (pv 0) pe_int get_list pe_int ip_add set_list)
      (C8.pss_cut (ps_if (pt_cmpR op_ge (pv 2) pe_int (nomark _))
        (pss_one (ps_asg (pv 2) (pg_sub (pv 0) pe_int set_list)))
        pss_nil)
      (pss_one (ps_asg (pe_op op_mod (pe_op op_add (pe_op op_add (pe_op op_mul (pe_ix ix_list (pv 0) pe_int (fun _ _ => rfl)) pe_int) (pe_op op_mod (pv 2) pe_int)) (pe_op op_mul pe_int (pe_ix ix_list (pv 0) pe_int (fun _ _ => rfl)))) pe_int) (pg_sub (pv 0) pe_int set_list)))))))
      pss_nil)
    (pss_cons (ps_if (pt_cmpR op_gt (pe_ix ix_list (pv 0) pe_int (fun _ _ => rfl)) pe_int (nomark _))
      (pss_cons (ps_set (i := 3) sc__law_take.nd rfl (.inl rfl) (pe_op op_mod (pe_ix ix_list (pv 0) pe_int (fun _ _ => rfl)) (pv 1)))
      (pss_cons (ps_asg (pe_op op_fdivW (pe_ix ix_list (pv 0) pe_int (fun _ _ => rfl)) (pv 1)) (pg_sub (pv 0) pe_int set_list))
      (pss_one (ps_ret (pv 3)))))
      pss_nil)
    (pss_cons (ps_set (i := 4) sc__law_take.nd rfl (.inl rfl) (pe_op op_mod (pe_op op_mul (pe_op op_add (pe_ix ix_list (pv 0) pe_int (fun _ _ => rfl)) pe_int) pe_int) pe_int))
    (pss_cons (ps_set (i := 5) sc__law_take.nd rfl (.inl rfl) (pe_op op_mod (pe_op op_mul (pe_op op_mod (pe_op op_mul (pv 4) (pv 4)) pe_int) pe_int) pe_int))
    (pss_cons (ps_if (pt_cmpR op_gt (pv 1) pe_int (nomark _))
      (pss_one (ps_ret (pe_op op_mod (pe_op op_add (pe_op op_mul (pv 5) pe_int) (pv 4)) (pv 1))))
      pss_nil)
    (pss_one (ps_ret (pe_op op_mod (pe_op op_fdivW (pv 5) pe_int) (pv 1))))))))), ?_⟩
    walk_at "rd"
    -- if bag[0] == 0: a cell is taken in
    refine i_cut (fun σ' H' => ∃ (m' s' : Int) (i' : Nat) (v2 v3 v4 v5 : Option V), σ' = [some (.ref b), some (.int n), v2, v3, v4, v5] ∧ H' b = some (.lst [.int m', .int s', .int (i' : Int), .ref c]) ∧ But b H H' ∧ 0 ≤ m' ∧ 0 ≤ s') ?_ ?_
    · walk_at "rd"
      refine w2 (fun e => ?_) (fun e => ?_)
      · walk_at "rd"
        refine i_cut (fun σ' H' => ∃ z : Int, σ' = [some (.ref b), some (.int n), some (.int z), none, none, none] ∧ H' = H ∧ 0 ≤ z) ?_ ?_
        · walk_at "rd"
          refine w2 (fun e => ?_) (fun e => ?_)
          · walk_at "rd"
            have hi : i < cs.length := by
              rw [List.length_map] at e
              omega
            refine i_ixL (xs := cs.map V.int) (v := .int cs[i]) (SqL.lst hc) (atI_nat (j := i) (by rw [List.getElem?_map, List.getElem?_eq_getElem hi]; rfl)) ?_
            walk_at "rd"
            exact ⟨cs[i], rfl, rfl, hcs _ (List.getElem_mem hi)⟩
          · walk_at "rd"
            exact ⟨0, rfl, rfl, by omega⟩
        · rintro σ' H' ⟨z, rfl, rfl, hz⟩
          walk_at "rd"
          refine i_cut (fun σ' H'' => σ' = [some (.ref b), some (.int n), some (.int z), none, none, none] ∧ ∃ m', H'' = upd H' b (.lst [.int m', .int s, .int ((i + 1 : Nat) : Int), .ref c]) ∧ 0 ≤ m') ?_ ?_
          · walk_at "rd"
            refine w2 (fun e => ?_) (fun e => ?_)
            · walk_at "rd"
              exact ⟨rfl, z, by rw [upd_upd]; rfl, hz⟩
            · walk_at "rd"
              exact ⟨rfl, m, rfl, hm⟩
          · rintro σ' H'' ⟨rfl, m', rfl, hm'⟩
            walk_at "rd"
            refine ⟨m', _, i + 1, _, _, _, _, rfl, upd_same, fun x o hx e => ?_, hm', Int.emod_nonneg _ (by decide)⟩
            rw [upd_ne hx, upd_ne hx]
            exact e
      · walk_at "rd"
        exact ⟨m, s, i, _, _, _, _, rfl, hb, But.refl, hm, hs⟩
    · rintro σ' H' ⟨m', s', i', v2, v3, v4, v5, rfl, hb', bt, hm', hs'⟩
      walk_at "rd"
      have hc' : H' c = some (.lst (cs.map V.int)) := bt c _ bc.symm hc
      refine w2 (fun e => ?_) (fun e => ?_)
      · walk_at "rd"
        refine i_I (wide_div n0 (show n.natAbs < 2 ^ 250 by omega) (by decide) (by decide)) ?_
        walk_at "rd"
        refine k _ _ (Int.emod_nonneg _ (by omega)) (Int.emod_lt_of_pos _ n0) ⟨cs, m' / n, s', i', bc, upd_same, ?_, hcs, Int.ediv_nonneg hm' (by omega), hs'⟩ bt.self
        rw [upd_ne bc.symm]
        exact hc'
      · walk_at "rd"
        have f0 : 0 ≤ (s' + 1) * 39373 % 1000000007 := Int.emod_nonneg _ (by decide)
        have f1 : (s' + 1) * 39373 % 1000000007 < 1000000007 := Int.emod_lt_of_pos _ (by decide)
        generalize (s' + 1) * 39373 % 1000000007 = u at f0 f1 ⊢
        refine i_I (.inl ⟨by omega, by omega⟩) ?_
        walk_at "rd"
        have g0 : 0 ≤ u * u % 998244353 * 30011 % 998244353 := Int.emod_nonneg _ (by decide)
        generalize u * u % 998244353 * 30011 % 998244353 = q at g0 ⊢
        have bg : Bag H' b c := ⟨cs, m', s', i', bc, hb', hc', hcs, hm', hs'⟩
        refine w2 (fun e => ?_) (fun e => ?_)
        · walk_at "rd"
          exact k _ _ (Int.emod_nonneg _ (by omega)) (Int.emod_lt_of_pos _ n0) bg bt
        · walk_at "rd"
          refine i_I (wide_div (b := 30) (by decide) (by decide) (by decide) (by decide)) ?_
          walk_at "rd"
          exact k _ _ (Int.emod_nonneg _ (by omega)) (Int.emod_lt_of_pos _ n0) bg bt
theorem i_take {H : Hp} {Q : VK} {E : XK} {b c : Addr} {n : Int} (bg : Bag H b c) (n0 : 0 < n) (nb : n < 2 ^ 250) (k : ∀ (r : Nat) H', (r : Int) < n → Bag H' b c → But b H H' → Q (.int (r : Int)) H') : sp_take ([.ref b, .int n] ++ []) H Q E :=
  ⟨b, c, n, rfl, bg, n0, nb, k⟩
/-- a comprehension whose items draw: what each is, the bag, all else -/
theorem lc_draw {σ : L2.St} {H1 : Hp} {b c Da : Addr} {te : TE} {vs : List Nat} {ix : Nat} {Qd : Hp → Prop} {J : It} {n : Nat} {G : Hp → Prop} {x : Nat → V} (w : Walk J n G (fun i H y H' => H' = H ∧ y = x i)) (Py : V → Prop) (hn : n < sizeLine) (nD : H1 Da = none)
    (bg : Bag H1 b c) (hG : ∀ H', But b H1 H' → G H')
    (he : ∀ i H', i < n → But b H1 H' → Bag H' b c → ∀ R : VK, (∀ y H'', Py y → But b H' H'' → Bag H'' b c → R y H'') → te ((wipe σ vs).set ix (some (x i))) H' R)
    (hd : ∀ ys H', ys.length = n → (∀ y ∈ ys, Py y) → But b H1 H' → Bag H' b c → H' Da = some (.lst ys) → Qd H')
    (hw : ∀ y, wipe ((wipe σ vs).set ix (some y)) vs = wipe σ vs := by intro y; rfl) : LcW J (gName ix) tYes te vs σ H1 Da Qd := by
  have nb : Da ≠ b := bg.ne nD
  refine go_lc w (fun i H' => But b H1 H' ∧ Bag H' b c ∧ ∃ ys, H' Da = some (.lst ys) ∧ ys.length = i ∧ ∀ y ∈ ys, Py y) ⟨But.refl.upd nD, bg.new nD, [], upd_same, rfl, fun y h => by cases h⟩ (fun i H' _ h => hG H' h.1) ?_ ?_
  · rintro i y H' _ hi ⟨h1, h2, ys, h3, h4, h5⟩ ⟨rfl, rfl⟩
    refine ⟨hw _, ?_⟩
    refine i_yes (iteT ?_)
    refine he i _ hi h1 h2 _ fun y H'' py bt bg' => ⟨ys, bt _ _ nb h3, by omega, (h1.trans bt).mut nD, bg.old bg' nD, ys ++ [y], upd_same, by simp [h4], fun z hz => ?_⟩
    rcases List.mem_append.mp hz with hz | hz
    · exact h5 z hz
    · rw [List.mem_singleton.mp hz]
      exact py
  · rintro H' ⟨h1, h2, ys, h3, h4, h5⟩
    exact hd ys H' h4 h5 h1 h2 h3
/-! ### _law_number -/
def sp_number : Sp := fun vs H Q _ => ∃ (b c : Addr), vs = [.ref b] ∧ Bag H b c ∧ ∀ (r : Nat) H', r ≤ 10 ^ 18 → Bag H' b c → But b H H' → Q (.int (r : Int)) H'
theorem ok__law_number (T : Txt K mg a) : FnOk P w K mg base CX0 2 a.f__law_number a.fd__law_number ["_law_bag_here"] sp_number := by
  refine T.d__law_number.F.ok sc__law_number (fun vs H Q E h => ?_) (fun cdv A outer s H vs Q E hr h => ?_)
  · obtain ⟨b, c, rfl, _⟩ := h
    rfl
  · obtain ⟨b, c, rfl, bg, k⟩ := h
    refine ⟨_, (pss_cons (ps_set (i := 1) sc__law_number.nd rfl (.inl rfl) (cl T.d__law_take (ok__law_take T) (hr.mono (by decide)) (pa_cons (pv 0) (pa_cons pe_int pa_nil))))
    (pss_one (ps_ret (pe_ix ix_list (pe_lst (pa_cons (cl T.d__law_take (ok__law_take T) (hr.mono (by decide)) (pa_cons (pv 0) (pa_cons pe_int pa_nil))) (pa_cons (cl T.d__law_take (ok__law_take T) (hr.mono (by decide)) (pa_cons (pv 0) (pa_cons pe_int pa_nil))) (pa_cons (cl T.d__law_take (ok__law_take T) (hr.mono (by decide)) (pa_cons (pv 0) (pa_cons pe_int pa_nil))) (pa_cons pe_int (pa_cons (cl T.d__law_take (ok__law_take T) (hr.mono (by decide)) (pa_cons (pv 0) (pa_cons (pe_op op_add (pe_op op_pow pe_int pe_int) pe_int) pa_nil))) (pa_cons (pe_op op_pow pe_int pe_int) pa_nil))))))) (pv 1) (fun _ _ => rfl))))), ?_⟩
    walk_at "rd"
    refine i_take bg (by decide) (by decide) fun w H1 hw bg1 bt1 => ?_
    walk_at "rd"
    refine i_take bg1 (by decide) (by decide) fun r1 H2 h1 bg2 bt2 => ?_
    walk_at "rd"
    refine i_take bg2 (by decide) (by decide) fun r2 H3 h2 bg3 bt3 => ?_
    walk_at "rd"
    refine i_take bg3 (by decide) (by decide) fun r3 H4 h3 bg4 bt4 => ?_
    walk_at "rd"
    refine i_take bg4 (by decide) (by decide) fun r4 H5 h4 bg5 bt5 => ?_
    walk_at "rd"
    refine ⟨sz, fun l nl => ?_⟩
    walk_at "rd"
    have h4' : (r4 : Int) < 10 ^ 18 + 1 := h4
    clear h4
    have hw' : w < 6 := by omega
    have lt := ((((bt1.trans bt2).trans bt3).trans bt4).trans bt5).upd (o := .lst [V.int r1, V.int r2, V.int r3, V.int 0, V.int r4, V.int (10 ^ 18)]) nl
    obtain ⟨z, hz, hz2⟩ : ∃ z : Nat, ([V.int r1, V.int r2, V.int r3, V.int 0, V.int r4, V.int (10 ^ 18)] : List V)[w]? = some (.int (z : Int)) ∧ z ≤ 10 ^ 18 := by
      match w, hw' with
      | 0, _ => exact ⟨r1, rfl, by omega⟩
      | 1, _ => exact ⟨r2, rfl, by omega⟩
      | 2, _ => exact ⟨r3, rfl, by omega⟩
      | 3, _ => exact ⟨0, rfl, by omega⟩
      | 4, _ => exact ⟨r4, rfl, by omega⟩
      | 5, _ => exact ⟨10 ^ 18, rfl, by omega⟩
    refine i_ixL (SqL.lst upd_same) (atI_nat hz) ?_
    exact k z _ hz2 (bg5.new nl) lt
/-! ### _law_served -/
def sp_served (K : PySem.W.Frag) : Sp := fun vs H Q _ => ∃ (b c : Addr) (n : Nat), vs = [.ref b, .int (n : Int)] ∧ Bag H b c ∧ n ≤ 100 ∧
  ∀ p qs rs H', H p = none → RwL K b H' p qs rs → (∀ r ∈ rs, RwB r) → rs.length ≤ n → Bag H' b c → But b H H' → Q (.ref p) H'
theorem ok__law_served (T : Txt K mg a) : FnOk P w K mg base CX0 3 a.f__law_served a.fd__law_served ["_law_bag_here", "_law_top"] (sp_served K) := by
  refine T.d__law_served.F.ok sc__law_served (fun vs H Q E h => ?_) (fun cdv A outer s H vs Q E hr h => ?_)
  · obtain ⟨b, c, n, rfl, _⟩ := h
    rfl
  · obtain ⟨b, c, n, rfl, bg, hn, k⟩ := h
    refine ⟨_, (pss_cons (ps_set (i := 2) sc__law_served.nd rfl (.inl rfl) (pe_lst pa_nil))
    (pss_cons (ps_for PassesOwn.never rfl (pi_range1 (by rfl) T.g_range (pa_cons (cl T.d__law_take (ok__law_take T) (hr.mono (by decide)) (pa_cons (pv 0) (pa_cons (pe_op op_add (pv 1) pe_int) pa_nil))) pa_nil)) (pg_name (i := 3) sc__law_served.nd rfl (.inl rfl))
      (pss_cons (ps_par (i := 4) (j := 5) rfl sc__law_served.nd rfl rfl (by decide) rfl rfl (pa_cons (cl T.d__law_number (ok__law_number T) (hr.mono (by decide)) (pa_cons (pv 0) pa_nil)) (pa_cons (cl T.d__law_number (ok__law_number T) (hr.mono (by decide)) (pa_cons (pv 0) pa_nil)) pa_nil)) (by rfl))
      (pss_one (ps_expr (pe_bm PySem.F.plainAttrs_list PySem.F.slot_list_append PySem.F.type_list_append mt_append (pv 2) (pa_cons (pe_ix ix_list (pe_lst (pa_cons (pe_tup (pa_cons (pv 4) (pa_cons (pv 5) pa_nil))) (pa_cons (pe_tup (pa_cons (pv 4) (pa_cons (pv 4) pa_nil))) (pa_cons (pe_tup (pa_cons (pv 5) (pa_cons (pv 4) pa_nil))) pa_nil)))) (cl T.d__law_take (ok__law_take T) (hr.mono (by decide)) (pa_cons (pv 0) (pa_cons pe_int pa_nil))) (fun _ _ => rfl)) pa_nil))))))
    (pss_one (ps_ret (pv 2))))), ?_⟩
    walk_at "rd"
    refine ⟨sz, fun F nF => ?_⟩
    have Fb : F ≠ b := bg.ne nF
    walk_at "rd"
    refine i_take (bg.new nF) (by omega) (by omega) fun m H1 hm bg1 bt1 => ?_
    walk_at "rd"
    have hF1 := bt1 _ _ Fb (upd_same (a := F) (o := .lst []) (H := H))
    have bt2 : But b H H1 := (But.refl.upd nF).trans bt1
    refine ⟨(m : Int), rfl, by omega, by omega, ?_⟩
    refine go_for walk_range (fun i σ' H' => ∃ v3 v4 v5 qs rs, σ' = [some (.ref b), some (.int (n : Int)), some (.ref F), v3, v4, v5] ∧ Bag H' b c ∧ But b H H' ∧ RwL K b H' F qs rs ∧ rs.length = i ∧ ∀ r ∈ rs, RwB r)
      ⟨_, _, _, [], [], rfl, bg1, bt2, ⟨Fb, hF1, RwT.nil⟩, rfl, fun r h => by cases h⟩ (fun _ _ _ _ _ => True.intro) ?_ ?_
    · rintro i x σ' H5 H6 hi ⟨v3, v4, v5, qs, rs, rfl, bg6, bt6, L, rl, hb⟩ ⟨rfl, rfl⟩
      walk_at "rd"
      refine ⟨b, c, rfl, bg6, fun sv H7 h7 bg7 bt7 => ?_⟩
      walk_at "rd"
      refine ⟨b, c, rfl, bg7, fun gp H8 h8 bg8 bt8 => ?_⟩
      walk_at "rd"
      refine ⟨i_tyl (SqL.lst (((L.but bt7).but bt8).lst)), ?_⟩
      walk_at "rd"
      refine ⟨sz, fun p1 n1 => ?_⟩
      walk_at "rd"
      refine ⟨sz, fun p2 n2 => ?_⟩
      walk_at "rd"
      refine ⟨sz, fun p3 n3 => ?_⟩
      walk_at "rd"
      refine ⟨sz, fun l nl => ?_⟩
      walk_at "rd"
      have b1 : p1 ≠ b := bg8.ne n1
      have bg9 := bg8.new (o := .tup [V.int sv, V.int gp]) n1
      have b2 : p2 ≠ b := bg9.ne n2
      have bg10 := bg9.new (o := .tup [V.int sv, V.int sv]) n2
      have b3 : p3 ≠ b := bg10.ne n3
      have bg11 := bg10.new (o := .tup [V.int gp, V.int sv]) n3
      have bl : l ≠ b := bg11.ne nl
      have bg12 := bg11.new (o := .lst [V.ref p1, V.ref p2, V.ref p3]) nl
      have s1 := same_upd (o := .tup [V.int sv, V.int gp]) (Same.refl H8) n1
      have e1 : (upd H8 p1 (.tup [V.int sv, V.int gp])) p1 = some (.tup [V.int sv, V.int gp]) := upd_same
      generalize upd H8 p1 (.tup [V.int sv, V.int gp]) = H9 at s1 e1 n2 n3 nl bg10 bg11 bg12 ⊢
      have s2 := same_upd (o := .tup [V.int sv, V.int sv]) (Same.refl H9) n2
      have e2 : (upd H9 p2 (.tup [V.int sv, V.int sv])) p2 = some (.tup [V.int sv, V.int sv]) := upd_same
      generalize upd H9 p2 (.tup [V.int sv, V.int sv]) = H10 at s2 e2 n3 nl bg11 bg12 ⊢
      have s3 := same_upd (o := .tup [V.int gp, V.int sv]) (Same.refl H10) n3
      have e3 : (upd H10 p3 (.tup [V.int gp, V.int sv])) p3 = some (.tup [V.int gp, V.int sv]) := upd_same
      generalize upd H10 p3 (.tup [V.int gp, V.int sv]) = H11 at s3 e3 nl bg12 ⊢
      have s4 := same_upd (o := .lst [V.ref p1, V.ref p2, V.ref p3]) (Same.refl H11) nl
      have e4 : (upd H11 l (.lst [V.ref p1, V.ref p2, V.ref p3])) l = some (.lst [V.ref p1, V.ref p2, V.ref p3]) := upd_same
      generalize upd H11 l (.lst [V.ref p1, V.ref p2, V.ref p3]) = H12 at s4 e4 bg12 ⊢
      refine i_take bg12 (by decide) (by decide) fun d H13 hd bg13 bt13 => ?_
      have hd' : d < 3 := by omega
      obtain ⟨q, r, hq, hqb, hr2, hrb⟩ : ∃ q r, ([V.ref p1, V.ref p2, V.ref p3] : List V)[d]? = some (.ref q) ∧ q ≠ b ∧ H12 q = some (.tup [.int r.1, .int r.2]) ∧ RwB r := by
        match d, hd' with
        | 0, _ => exact ⟨p1, (sv, gp), rfl, b1, s4 _ _ (s3 _ _ (s2 _ _ e1)), by omega, by omega, by omega, by omega⟩
        | 1, _ => exact ⟨p2, (sv, sv), rfl, b2, s4 _ _ (s3 _ _ e2), by omega, by omega, by omega, by omega⟩
        | 2, _ => exact ⟨p3, (gp, sv), rfl, b3, s4 _ _ e3, by omega, by omega, by omega, by omega⟩
      refine i_ixL (SqL.lst (bt13 _ _ bl e4)) (atI_nat hq) ?_
      have bt14 : But b H6 H13 := ((bt7.trans bt8).trans (But.of (((s1.trans s2).trans s3).trans s4))).trans bt13
      have L14 := L.but bt14
      walk_at "rd"
      refine i_app L14.lst (by rw [List.length_map, L.len, rl]; exact line_lt (by omega)) ?_
      have hq13 := bt13 _ _ hqb hr2
      have qF : q ≠ F := ne_of hq13 L14.lst (by intro z; cases z)
      refine ⟨_, _, _, qs ++ [q], rs ++ [r], rfl, bg.old bg13 nF, (bt6.trans bt14).mut nF, ⟨Fb, by rw [upd_same, List.map_append]; rfl, ?_⟩, by rw [List.length_append, rl]; rfl, ?_⟩
      · refine RwT.app ?_ (RwT.one (SqT.tup ?_))
        · refine ⟨L14.len, fun j q' r' a1 a2 => ?_⟩
          have z := L14.row.at_ j q' r' a1 a2
          rcases z with z | z
          · rcases z with z | ⟨o, z⟩
            · refine .inl (.inl ?_)
              have qb : q' ≠ b := fun e => by
                rw [e] at z
                unfold hid at z
                rw [if_pos rfl] at z
                cases z
              rw [hid_ne qb] at z ⊢
              rw [upd_ne (ne_of z L14.lst (by intro z; cases z))]
              exact z
            · refine .inl (.inr ⟨o, ?_⟩)
              have qb : q' ≠ b := fun e => by
                rw [e] at z
                unfold hid at z
                rw [if_pos rfl] at z
                cases z
              rw [hid_ne qb] at z ⊢
              rw [upd_ne (ne_of z L14.lst (by intro z; cases z))]
              exact z
          · exact .inr z
        · rw [hid_ne hqb, upd_ne qF]
          exact hq13
      · intro r' hr'
        rcases List.mem_append.mp hr' with h | h
        · exact hb r' h
        · rw [List.mem_singleton.mp h]
          exact hrb
    · rintro σ' H5 ⟨v3, v4, v5, qs, rs, rfl, bg6, bt6, L, rl, hb⟩
      walk_at "rd"
      exact k F qs rs H5 nF L hb (by omega) bg6 bt6
/-! ### _law_lane -/
def sp_lawLane (K : PySem.W.Frag) (C : Addr) : Sp := fun vs H Q _ => ∃ (p : Addr) (qs : List Addr) (rs : List (Int × Int)), vs = [.ref p] ∧ SqL K H p (qs.map V.ref) ∧ RwT K H qs rs ∧ ∀ x H', Same H H' → H x = none → LnA C H' x (wF rs 0) (dF rs) → Q (.ref x) H'
theorem ok__law_lane (T : Txt K mg a) : FnOk P w K mg base CX0 5 a.f__law_lane a.fd__law_lane ["_law_rows"] (sp_lawLane K a.k_Lane) := by
  refine T.d__law_lane.F.ok sc__law_lane (fun vs H Q E h => ?_) (fun cdv A outer s H vs Q E hr h => ?_)
  · obtain ⟨p, qs, rs, rfl, _⟩ := h
    rfl
  · obtain ⟨p, qs, rs, rfl, hp, hr', k⟩ := h
    refine ⟨_, (pss_cons (ps_set (i := 1) sc__law_lane.nd rfl (.inl rfl) (pe_makeR0 T.mk_Lane (ok_Lane___init__ T) (hr.mono (by decide)) (by rfl) T.g_Lane pass0))
    (pss_cons (ps_for PassesOwn.never rfl (pi_list (pv 0)) (pg_name (i := 2) sc__law_lane.nd rfl (.inl rfl))
      (pss_one (ps_set (i := 1) sc__law_lane.nd rfl (.inl rfl) (pe_op (op_mulO T.u_Lane (okR (ok_Lane___mul__ T) T.d_Lane___mul__.b) (hr.mono (by decide)) pass0) (pv 1) (StX.pe_makeR T.mk_Lane (ok_Lane___init__ T) (hr.mono (by decide)) (by rfl) T.g_Lane pass0 (pa_cons (pv 2) pa_nil))))))
    (pss_one (ps_ret (pv 1))))), ?_⟩
    walk_at "rd"
    refine i_makeR ?_
    walk_at "rd"
    refine i_newLane (qs := []) (rs := []) (by decide) RwT.nil fun x H1 s1 n1 hx => ?_
    walk_at "rd"
    refine i_exRL (s1.seq hp) ?_
    refine go_for (walk_list (xs := qs.map V.ref)) (fun i σ' H' => ∃ x v2, σ' = [some (.ref p), some (.ref x), v2] ∧ Same H H' ∧ H x = none ∧ LnA a.k_Lane H' x (wF (rs.take i) 0) (dF (rs.take i))) ⟨x, _, rfl, s1, n1, hx⟩ (fun i σ' H' _ h => by obtain ⟨_, _, _, h, _⟩ := h; exact h.seq hp) ?_ ?_
    · rintro i y σ' H3 H4 hi ⟨x, v2, rfl, s3, nx, h3⟩ ⟨e1, e2⟩
      have e1' := e1.symm
      subst e1'
      rw [List.length_map] at hi
      have hi2 : i < rs.length := by rw [← hr'.len]; exact hi
      rw [List.getElem?_map, List.getElem?_eq_getElem hi] at e2
      cases e2
      have er := List.getElem?_eq_getElem hi2
      walk_at "rd"
      refine i_makeR ?_
      walk_at "rd"
      refine i_newLane (qs := [qs[i]]) (rs := [rs[i]]) (show 1 ≤ 1000 by decide) (RwT.one ((hr'.same s3).at_ i _ _ (List.getElem?_eq_getElem hi) er)) fun z H5 s5 n5 hz => ?_
      refine i_rmul (h3.same s5) hz fun z2 H6 s6 n6 hz2 => ?_
      walk_at "rd"
      refine ⟨z2, some (.ref qs[i]), rfl, (s3.trans s5).trans s6, Gd.Same.none (s3.trans s5) n6, ?_⟩
      have e3 : rs.take (i + 1) = rs.take i ++ [rs[i]] := by
        rw [List.take_add_one, er]
        rfl
      rw [e3]
      exact hz2
    · rintro σ' H3 ⟨x, v2, rfl, s3, nx, h3⟩
      rw [List.length_map, List.take_of_length_le (by rw [← hr'.len]; omega)] at h3
      walk_at "rd"
      exact k x _ s3 nx h3
/-! ### _law_far_right -/
def sp_farRight (K : PySem.W.Frag) (C : Addr) : Sp := fun vs H Q _ => ∃ (b c p x : Addr) (one w : Nat) (qs : List Addr) (rs : List (Int × Int)), vs = [.ref b, .ref p, .ref x, .int ((one : Int) * (rs.length : Int)), .int (w : Int)] ∧ Bag H b c ∧ RwL K b H p qs rs ∧ (∀ r ∈ rs, RwB r) ∧ 0 < rs.length ∧ rs.length ≤ 1000 ∧ LnA C (hid b H) x (repL (wF rs 0) (dF rs) one) ((one : Int) * dF rs) ∧ 0 < one ∧ one * rs.length ≤ 10 ^ 21 ∧
  ∀ H', Bag H' b c → But b H H' → Q (.bl true) H'
theorem ok__law_far_right (T : Txt K mg a) : FnOk P w K mg base CX0 6 a.f__law_far_right a.fd__law_far_right ["_law_bag_here", "_law_rows", "_law_lane_here", "_law_many", "_law_wait_here"] (sp_farRight K a.k_Lane) := by
  refine T.d__law_far_right.F.ok sc__law_far_right (fun vs H Q E h => ?_) (fun cdv A outer s H vs Q E hr h => ?_)
  · obtain ⟨b, c, p, x, one, w, qs, rs, rfl, _⟩ := h
    rfl
  · obtain ⟨b, c, p, x, one, w, qs, rs, rfl, bg, L, B, l0, l1, hx, o0, o1, k⟩ := h
    refine ⟨_, (pss_cons (ps_set (i := 5) sc__law_far_right.nd rfl (.inl rfl) (pe_callB (call_mn rfl) (by rfl) T.g_min (by decide +kernel) (pa_cons (pe_op op_pow pe_int pe_int) (pa_cons (pe_op op_add pe_int (cl T.d__law_take (ok__law_take T) (hr.mono (by decide)) (pa_cons (pv 0) (pa_cons (pe_op op_fdivW (pe_op op_pow pe_int pe_int) (pv 3)) pa_nil)))) pa_nil))))
    (pss_one (ps_ret (pe_cmpR op_eq (clKW T.d_wait_of (ok_wait_of T) (hr.mono (by decide)) (pa_cons (pv 1) (pa_cons (pe_op op_mulW (pv 5) (pv 3)) pa_nil)) (pk_cons (pv 4) pk_nil)) (StX.pe_callO (pe_meth (pv 2) T.cl_Lane T.m_Lane_repeated (ok_Lane_repeated T) (hr.mono (by decide)) T.d_Lane_repeated.b .nil pass0 (pa_cons (pv 5) pa_nil)) T.c_Lane (okR (ok_Lane___call__ T) T.d_Lane___call__.b) (hr.mono (by decide)) pass0 (pa_cons (pv 4) pa_nil)) (nomark _))))), ?_⟩
    walk_at "rd"
    obtain ⟨m, hm⟩ : ∃ m : Nat, m = one * rs.length := ⟨_, rfl⟩
    have em : (one : Int) * (rs.length : Int) = (m : Int) := by rw [hm, Int.natCast_mul]
    have m0 : 0 < m := by rw [hm]; exact Nat.mul_pos o0 l0
    have m1 : m ≤ 10 ^ 21 := by rw [hm]; exact o1
    have om : one ≤ m := by rw [hm]; exact Nat.le_mul_of_pos_right _ l0
    rw [em]
    have q0 : (0 : Int) < 10 ^ Int.toNat 21 / (m : Int) := by
      rw [show (10 : Int) ^ Int.toNat 21 = 10 ^ 21 from rfl]
      have z : (1 : Int) ≤ 10 ^ 21 / (m : Int) := (Int.le_ediv_iff_mul_le (by omega)).mpr (by omega)
      omega
    have q1 : (10 : Int) ^ Int.toNat 21 / (m : Int) * (m : Int) ≤ 10 ^ 21 := Int.ediv_mul_le _ (by omega)
    have q2 : (10 : Int) ^ Int.toNat 21 / (m : Int) ≤ 10 ^ 21 := Int.ediv_le_self _ (by decide)
    refine i_I (wide_div (b := 90) (by omega) (by omega) (by decide) (by decide)) ?_
    generalize (10 : Int) ^ Int.toNat 21 / (m : Int) = q at q0 q1 q2 ⊢
    walk_at "rd"
    refine i_take bg q0 (by omega) fun r H1 hr1 bg1 bt1 => ?_
    walk_at "rd"
    obtain ⟨t, et, t0, t1⟩ : ∃ t : Nat, (if 1 + (r : Int) < 10 ^ Int.toNat 18 then 1 + (r : Int) else 10 ^ Int.toNat 18) = (t : Int) ∧ 0 < t ∧ t ≤ r + 1 := by
      rw [show (10 : Int) ^ Int.toNat 18 = 10 ^ 18 from rfl]
      by_cases h : 1 + (r : Int) < 10 ^ 18
      · rw [if_pos h]
        exact ⟨r + 1, by omega, by omega, by omega⟩
      · rw [if_neg h]
        exact ⟨10 ^ 18, by omega, by omega, by omega⟩
    rw [et]
    have t2 : t * m ≤ 10 ^ 21 + m := by
      have z1 : (t : Int) * (m : Int) ≤ q * (m : Int) := Int.mul_le_mul_of_nonneg_right (by omega) (by omega)
      have z2 : ((t * m : Nat) : Int) = (t : Int) * (m : Int) := Int.natCast_mul _ _
      omega
    walk_at "rd"
    refine i_callN ?_
    walk_at "rd"
    refine i_I (wide_mul (i := (t : Int)) (j := (m : Int)) (a := 90) (b := 90) (by omega) (by omega) (by decide) (by decide) (by decide)) ?_
    rw [show (t : Int) * (m : Int) = ((t * m : Nat) : Int) from (Int.natCast_mul _ _).symm]
    replace L := L.but bt1
    replace hx := hx.same bt1.hid
    walk_at "rd"
    refine ⟨rfl, rfl, ?_⟩
    refine ⟨p, t * m, (w : Int), qs, rs, rfl, SqL.lst L.lst, L.rows, l0, l1, B, by omega, by omega, fun H2 s2 => ?_⟩
    have hx2 := (hx.same hid_same).same s2
    have v := rep_ok (lane_ok rs) (show (0 : Int) ≤ one by omega)
    have ld := dF_bound B l1
    have od : ((one : Int) * dF rs).natAbs < 2 ^ 200 := by
      rw [Int.natAbs_mul]
      exact Nat.lt_of_lt_of_le (Nat.mul_lt_mul'' (show (one : Int).natAbs < 2 ^ 80 by omega) ld) (by decide)
    walk_at "rd"
    refine i_mth ?_
    walk_at "rd"
    refine i_lm hx2 rfl ?_
    walk_at "rd"
    refine i_rp hx2 v (by omega) (by omega) od fun z H3 s3 n3 h3 => ?_
    refine ⟨z, rfl, ?_⟩
    walk_at "rd"
    refine i_lcall h3 ?_
    walk_at "rd"
    have e : cyW rs (w : Int) (t * m) = lnF (repL (repL (wF rs 0) (dF rs) one) ((one : Int) * dF rs) t) ((t : Int) * ((one : Int) * dF rs)) w := by
      rw [hm, ← Nat.mul_assoc, (cyV (rs := rs) (show (0 : Int) ≤ w by omega) (t * one)).1, rep_rep (by omega) (by omega), Int.natCast_mul, Int.mul_comm (one : Int) (t : Int), Int.mul_assoc]
    rw [e, decide_eq_true rfl]
    exact k H3 ((bg1.keep s2).keep s3) ((bt1.trans (But.of s2)).trans (But.of s3))
/-! ### _law_drawn_rows -/
def sp_drawnRows (K : PySem.W.Frag) : Sp := fun vs H Q _ => ∃ (b c : Addr), vs = [.ref b] ∧ Bag H b c ∧
  ∀ p qs rs H', RwL K b H' p qs rs → (∀ r ∈ rs, RwB r) → 0 < rs.length → rs.length ≤ 200 → Bag H' b c → But b H H' → Q (.ref p) H'
theorem ok__law_drawn_rows (T : Txt K mg a) : FnOk P w K mg base CX0 4 a.f__law_drawn_rows a.fd__law_drawn_rows ["_law_bag_here"] (sp_drawnRows K) := by
  refine T.d__law_drawn_rows.F.ok sc__law_drawn_rows (fun vs H Q E h => ?_) (fun cdv A outer s H vs Q E hr h => ?_)
  · obtain ⟨b, c, rfl, _⟩ := h
    rfl
  · obtain ⟨b, c, rfl, bg2, k⟩ := h
    refine ⟨_, (pss_cons (ps_set (i := 1) sc__law_drawn_rows.nd rfl (.inl rfl) (pe_op op_cat (pe_lst (pa_cons (pe_tup (pa_cons (cl T.d__law_number (ok__law_number T) (hr.mono (by decide)) (pa_cons (pv 0) pa_nil)) (pa_cons (cl T.d__law_number (ok__law_number T) (hr.mono (by decide)) (pa_cons (pv 0) pa_nil)) pa_nil))) pa_nil)) (cl T.d__law_served (ok__law_served T) (hr.mono (by decide)) (pa_cons (pv 0) (pa_cons pe_int pa_nil)))))
    (pss_cons (ps_if (pt_cmpR op_gt (cl T.d__law_take (ok__law_take T) (hr.mono (by decide)) (pa_cons (pv 0) (pa_cons pe_int pa_nil))) pe_int (nomark _))
      (pss_one (ps_ret (pv 1)))
      pss_nil)
    (pss_one (ps_ret (pe_lc (own := [("_law_j", 2), ("_law_service", 3), ("_law_gap", 4)]) (g := gTup K 2 (gCons (gName 2) (gCons (gTup K 2 (gCons (gName 3) (gCons (gName 4) gNil))) gNil))) (tt := tYes) rfl sc__law_drawn_rows.nd (pi_enum (by rfl) T.g_enumerate (pa_cons (pe_slice sl_list (pe_op op_rep (pv 1) pe_int) po_none (po_some pe_int)) pa_nil)) (blkOk_by (own := [("_law_j", 2), ("_law_service", 3), ("_law_gap", 4)]) (N := ["_law_bag_here", "_law_rows", "_law_j", "_law_service", "_law_gap"]) (sc := defScope s__law_drawn_rows) (by decide +kernel)) (fun _ _ _ _ _ => (pg_tup (by rfl) (pgs_cons (pg_name (i := 2) sc__law_drawn_rows.nd rfl (.inl rfl)) (pgs_cons (pg_tup (by rfl) (pgs_cons (pg_name (i := 3) sc__law_drawn_rows.nd rfl (.inl rfl)) (pgs_cons (pg_name (i := 4) sc__law_drawn_rows.nd rfl (.inl rfl)) pgs_nil))) pgs_nil)))) (fun _ _ _ _ _ => pts_nil) (fun _ _ _ _ _ => (pe_tup (pa_cons (pe_callB (call_mn rfl) (by rfl) T.g_min (by decide +kernel) (pa_cons (pe_op op_pow pe_int pe_int) (pa_cons (pe_op op_add (pv 3) (pv 2)) pa_nil))) (pa_cons (pv 4) pa_nil))))))))), ?_⟩
    walk_at "rd"
    refine ⟨b, c, rfl, bg2, fun sv H4 h4 bg4 bt4 => ?_⟩
    walk_at "rd"
    refine ⟨b, c, rfl, bg4, fun gp H5 h5 bg5 bt5 => ?_⟩
    walk_at "rd"
    refine ⟨sz, fun q nq => ?_⟩
    walk_at "rd"
    refine ⟨sz, fun l nl => ?_⟩
    walk_at "rd"
    have qb : q ≠ b := bg5.ne nq
    have bt6 := (bt4.trans bt5).upd (o := .tup [V.int (sv : Int), V.int (gp : Int)]) nq
    have bg6 := bg5.new (o := .tup [V.int (sv : Int), V.int (gp : Int)]) nq
    have hq : (upd H5 q (.tup [V.int (sv : Int), V.int (gp : Int)])) q = some (.tup [V.int (sv : Int), V.int (gp : Int)]) := upd_same
    generalize upd H5 q (.tup [V.int (sv : Int), V.int (gp : Int)]) = H6 at bg6 hq nl bt6 ⊢
    have lb : l ≠ b := bg6.ne nl
    have bg7 := bg6.new (o := .lst [V.ref q]) nl
    have s7 := same_upd (o := .lst [V.ref q]) (Same.refl H6) nl
    have hl7 : (upd H6 l (.lst [V.ref q])) l = some (.lst [V.ref q]) := upd_same
    generalize upd H6 l (.lst [V.ref q]) = H7 at bg7 s7 hl7 ⊢
    have hq7 := s7 _ _ hq
    refine ⟨b, c, 9, rfl, bg7, by decide, fun p qs rs H8 np L B m bg8 bt8 => ?_⟩
    have hl8 := bt8 _ _ lb hl7
    have hq8 := bt8 _ _ qb hq7
    refine i_cat hl8 L.lst (by rw [List.length_map, L.len]; exact line_le (by show 1 + _ ≤ _; omega)) fun D nD => ?_
    have Db : D ≠ b := bg8.ne nD
    have bg9 := bg8.new (o := .lst ([V.ref q] ++ qs.map V.ref)) nD
    have s9 := same_upd (o := .lst ([V.ref q] ++ qs.map V.ref)) (Same.refl H8) nD
    have hD : (upd H8 D (.lst ([V.ref q] ++ qs.map V.ref))) D = some (.lst ([V.ref q] ++ qs.map V.ref)) := upd_same
    walk_at "rd"
    generalize upd H8 D (.lst ([V.ref q] ++ qs.map V.ref)) = H9 at bg9 s9 hD ⊢
    have L9 : RwL K b H9 D ([q] ++ qs) ([((sv : Int), (gp : Int))] ++ rs) := ⟨Db, by rw [List.map_append]; exact hD, RwT.app (RwT.one (SqT.tup (by rw [hid_ne qb]; exact s9 _ _ hq8))) (L.row.same (But.hid (But.of s9)))⟩
    have B9 : ∀ r ∈ [((sv : Int), (gp : Int))] ++ rs, RwB r := fun r hr => by
      rcases List.mem_append.mp hr with h | h
      · rw [List.mem_singleton.mp h]
        exact ⟨by omega, by omega, by omega, by omega⟩
      · exact B r h
    have m9 : ([((sv : Int), (gp : Int))] ++ rs).length = rs.length + 1 := by simp
    have bt9 := ((bt6.trans (But.of s7)).trans bt8).trans (But.of s9)
    generalize [((sv : Int), (gp : Int))] ++ rs = rs9 at L9 B9 m9
    generalize [q] ++ qs = qs9 at L9
    clear hD s9 nD L np hq8 hl8 bt8 bg8 hq7 hl7 s7 bg7 hq bg6 nl nq bg5 bt5 bg4 bt4 B bt6
    refine i_take bg9 (by decide) (by decide) fun r H10 hr10 bg10 bt10 => ?_
    replace L9 := L9.but bt10
    replace bt9 := bt9.trans bt10
    clear bg9 bt10
    walk_at "rd"
    refine w2 (fun e => ?_) (fun e => ?_)
    · walk_at "rd"
      exact k D qs9 rs9 _ L9 B9 (by omega) (by omega) bg10 bt9
    · walk_at "rd"
      refine ⟨D, 200, _, rfl, rfl, L9.lst, by decide, by decide, by rw [List.length_map, L9.len]; exact line_le (by show rs9.length * 200 ≤ _; omega), fun D2 nD2 => ?_⟩
      walk_at "rd"
      intro D3 nD3
      have eR : cutV ((List.replicate (Int.toNat 200) (qs9.map V.ref)).flatten) none (some 200) = (((List.replicate 200 qs9).flatten).take 200).map V.ref := by
        have e1 : (List.replicate (Int.toNat 200) (qs9.map V.ref)).flatten = ((List.replicate 200 qs9).flatten).map V.ref := by
          rw [List.map_flatten, List.map_replicate]
          rfl
        rw [e1, cutV_map]
        congr 1
        exact cutA_to _ 200
      rw [eR]
      have s6 := same_upd (o := .lst ((List.replicate (Int.toNat 200) (qs9.map V.ref)).flatten)) (Same.refl H10) nD2
      have s7 := same_upd (o := .lst ((((List.replicate 200 qs9).flatten).take 200).map V.ref)) s6 nD3
      have hD3 : (upd (upd H10 D2 (.lst ((List.replicate (Int.toNat 200) (qs9.map V.ref)).flatten))) D3 (.lst ((((List.replicate 200 qs9).flatten).take 200).map V.ref))) D3 = some (.lst ((((List.replicate 200 qs9).flatten).take 200).map V.ref)) := upd_same
      have D3b : D3 ≠ b := (bg10.new nD2).ne nD3
      have bg7 := bg10.keep s7
      generalize upd (upd H10 D2 (.lst ((List.replicate (Int.toNat 200) (qs9.map V.ref)).flatten))) D3 (.lst ((((List.replicate 200 qs9).flatten).take 200).map V.ref)) = H11 at s7 hD3 bg7 ⊢
      have L11 := L9.but (But.of s7)
      have L12 : RwL K b H11 D3 _ _ := ⟨D3b, hD3, (L11.row.rep 200).take 200⟩
      have B12 : ∀ r ∈ ((List.replicate 200 rs9).flatten).take 200, RwB r := fun r hr => by
        obtain ⟨l, hl1, hl2⟩ := List.mem_flatten.mp (List.mem_of_mem_take hr)
        rw [(List.mem_replicate.mp hl1).2] at hl2
        exact B9 r hl2
      have m12 : 0 < (((List.replicate 200 rs9).flatten).take 200).length ∧ (((List.replicate 200 rs9).flatten).take 200).length ≤ 200 := by
        rw [List.length_take, List.length_flatten, List.map_replicate, List.sum_replicate_nat]
        omega
      generalize ((List.replicate 200 qs9).flatten).take 200 = q12 at L12
      generalize ((List.replicate 200 rs9).flatten).take 200 = r12 at L12 B12 m12
      have bt11 := bt9.trans (But.of s7)
      clear L11 s7 hD3 bg10 nD2 nD3 eR L9 B9 m9 bt9 s6
      walk_at "rd"
      refine ⟨D3, _, rfl, SqL.lst L12.lst, ?_⟩
      intro F nF
      have Fb : F ≠ b := bg7.ne nF
      refine go_lc (n := r12.length) (walk_enum (xs := q12.map V.ref) |> fun W => by rw [List.length_map, L12.len] at W; exact W) (fun i H' => Same H11 H' ∧ ∃ qs' rs', H' F = some (.lst (qs'.map V.ref)) ∧ RwT K (hid F H') qs' rs' ∧ rs'.length = i ∧ (∀ r ∈ rs', RwB r) ∧ (∀ q ∈ qs', H11 q = none))
        ⟨same_upd (Same.refl _) nF, [], [], upd_same, RwT.nil, rfl, (fun r hr => by cases hr), fun q hq => by cases hq⟩ (fun i H' _ h => SqL.lst (h.1 _ _ L12.lst)) ?_ ?_
      · rintro i y H' H'' hi ⟨s8, qs', rs', hF, R', lr, B', nq'⟩ ⟨T4, x1, y1, rfl, nT, rfl, e1, e2⟩
        cases e1
        have hiq : i < q12.length := by rw [L12.len]; exact hi
        dsimp only at e2
        rw [List.getElem?_map, List.getElem?_eq_getElem hiq] at e2
        cases e2
        have er := List.getElem?_eq_getElem hi
        have s9 := same_upd (o := .tup [.int (i : Int), .ref q12[i]]) (Same.refl H') nT
        have hT : (upd H' T4 (.tup [.int (i : Int), .ref q12[i]])) T4 = some (.tup [.int (i : Int), .ref q12[i]]) := upd_same
        generalize upd H' T4 (.tup [.int (i : Int), .ref q12[i]]) = H12 at s9 hT ⊢
        have s10 := s8.trans s9
        have hF2 := s9 _ _ hF
        refine i_tg (SqT.tup hT) rfl ?_
        walk_at "rd"
        refine i_tg ((L12.rows.same s10).at_ i _ _ (List.getElem?_eq_getElem hiq) er) rfl ?_
        walk_at "rd"
        refine ⟨rfl, ?_⟩
        walk_at "rd"
        refine ⟨sz, fun q nq => ?_⟩
        have qF : q ≠ F := (ne_of_none hF2 nq).symm
        obtain ⟨b1, b2, b3, b4⟩ := B12 _ (List.getElem_mem hi)
        refine ⟨qs'.map V.ref, by rw [upd_ne (Ne.symm qF)]; exact hF2, by rw [List.length_map, R'.len, lr]; exact line_lt (by omega), same_mut (same_upd s10 nq) nF, qs' ++ [q], rs' ++ [(if r12[i].1 + (i : Int) < 10 ^ Int.toNat 18 then r12[i].1 + (i : Int) else 10 ^ Int.toNat 18, r12[i].2)], by rw [upd_same, List.map_append]; rfl, ?_, by simp [lr], ?_, ?_⟩
        · rw [hid_upd]
          refine RwT.app (R'.same ?_) (RwT.one (SqT.tup ?_))
          · refine But.hid (But.of ?_)
            exact same_upd s9 nq
          · rw [hid_ne qF, upd_same]
        · intro r hr
          rcases List.mem_append.mp hr with h | h
          · exact B' r h
          · rw [List.mem_singleton.mp h]
            refine ⟨?_, ?_, b3, b4⟩
            · show 0 ≤ if r12[i].1 + (i : Int) < 10 ^ 18 then r12[i].1 + (i : Int) else 10 ^ 18
              split <;> omega
            · show (if r12[i].1 + (i : Int) < 10 ^ 18 then r12[i].1 + (i : Int) else 10 ^ 18) ≤ 10 ^ 18
              split <;> omega
        · intro q' hq'
          rcases List.mem_append.mp hq' with h | h
          · exact nq' q' h
          · rw [List.mem_singleton.mp h]
            exact Gd.Same.none s10 nq
      · rintro H' ⟨s8, qs', rs', hF, R', lr, B', nq'⟩
        walk_at "rd"
        refine k F qs' rs' H' ⟨Fb, hF, ?_⟩ B' (by omega) (by omega) (bg7.keep s8) (bt11.trans (But.of s8))
        refine ⟨R'.len, fun j q r a1 a2 => ?_⟩
        have z := (R'.same hid_same).at_ j q r a1 a2
        have qb : q ≠ b := by
          obtain ⟨cs, m', s', i', bc, g1, _⟩ := bg7
          exact (ne_of_none g1 (nq' q (List.mem_of_getElem? a1))).symm
        exact sqt_hid qb z
/-! ### law -/
theorem cyW_add (rs : List (Int × Int)) (w : Int) (a : Nat) : ∀ k : Nat, cyW rs (cyW rs w (a * rs.length)) k = cyW rs w (a * rs.length + k)
  | 0 => rfl
  | k + 1 => by
    show stepW (cyW rs (cyW rs w (a * rs.length)) k) (rs.getD (k % rs.length) (0, 0)) = stepW (cyW rs w (a * rs.length + k)) (rs.getD ((a * rs.length + k) % rs.length) (0, 0))
    rw [cyW_add rs w a k, Nat.mul_comm a rs.length, Nat.mul_add_mod]
theorem getD_twice {rs : List (Int × Int)} (l0 : 0 < rs.length) (k : Nat) : (rs ++ rs).getD (k % (rs ++ rs).length) (0, 0) = rs.getD (k % rs.length) (0, 0) := by
  rw [List.getD_eq_getElem?_getD, List.getD_eq_getElem?_getD, List.length_append]
  have e : k % rs.length = k % (rs.length + rs.length) % rs.length := by
    rw [← Nat.two_mul, Nat.mul_comm, Nat.mod_mul_right_mod]
  have h : k % (rs.length + rs.length) < rs.length + rs.length := Nat.mod_lt _ (by omega)
  rw [e]
  generalize k % (rs.length + rs.length) = j at h
  by_cases hj : j < rs.length
  · rw [List.getElem?_append_left hj, Nat.mod_eq_of_lt hj]
  · rw [List.getElem?_append_right (by omega), Nat.mod_eq_sub_mod (by omega), Nat.mod_eq_of_lt (by omega)]
theorem cyW_twice {rs : List (Int × Int)} (l0 : 0 < rs.length) (w : Int) : ∀ k : Nat, cyW (rs ++ rs) w k = cyW rs w k
  | 0 => rfl
  | k + 1 => by
    show stepW (cyW (rs ++ rs) w k) ((rs ++ rs).getD (k % (rs ++ rs).length) (0, 0)) = stepW (cyW rs w k) (rs.getD (k % rs.length) (0, 0))
    rw [cyW_twice l0 w k, getD_twice l0]
theorem cyW_nn {rs : List (Int × Int)} {w : Int} (h : 0 ≤ w) : ∀ k : Nat, 0 ≤ cyW rs w k
  | 0 => h
  | k + 1 => by
    show 0 ≤ stepW _ _
    unfold stepW
    split <;> omega
theorem snF_nn {f : Nat → Int} (h : ∀ k, 0 ≤ f k) : ∀ m : Nat, 0 ≤ snF f m
  | 0 => Int.le_refl 0
  | m + 1 => by
    have z := snF_nn h m
    have z1 := h m
    show 0 ≤ snF f m + f m
    omega
theorem snF_some {f : Nat → Int} (h : ∀ k, 0 ≤ f k) {n : Nat} (n0 : 0 < n) : ∀ m : Nat, snF (fun j => f (j * n)) m ≤ snF f (m * n)
  | 0 => by rw [Nat.zero_mul]; exact Int.le_refl 0
  | m + 1 => by
    have z := snF_some h n0 m
    rw [Nat.add_mul, Nat.one_mul, snF_split f (m * n) n]
    obtain ⟨n', rfl⟩ : ∃ n', n = 1 + n' := ⟨n - 1, by omega⟩
    rw [snF_split (fun i => f (m * (1 + n') + i)) 1 n']
    have z1 : snF (fun i => f (m * (1 + n') + i)) 1 = f (m * (1 + n')) := by
      show 0 + f (m * (1 + n') + 0) = _
      rw [Int.zero_add, Nat.add_zero]
    have z2 := snF_nn (f := fun i => f (m * (1 + n') + (1 + i))) (fun k => h _) n'
    show snF (fun j => f (j * (1 + n'))) m + f (m * (1 + n')) ≤ _
    rw [z1]
    omega
theorem sum_range (f : Nat → Int) : ∀ m : Nat, ((List.range m).map f).sum = snF f m
  | 0 => rfl
  | m + 1 => by
    rw [List.range_succ, List.map_append, List.sum_append, sum_range f m]
    show _ + (f m + 0) = snF f m + f m
    omega
theorem i_tot {p : Addr} {H : Hp} {Q : VK} {E : XK} {qs : List Addr} {rs : List (Int × Int)} {o : Nat} {w0 : Int} (o0 : 0 < o) (o1 : o < 2 ^ 70) (hp : SqL K H p (qs.map V.ref)) (hr : RwT K H qs rs) (l1 : rs.length ≤ 1000) (B : ∀ r ∈ rs, RwB r) (h0 : 0 ≤ w0) (h1 : w0 < 2 ^ 90) (k : ∀ H', Same H H' → Q (.int (snF (cyW rs w0) (o * rs.length))) H') : sp_total K [.ref p, .int (o : Int), .int w0] H Q E :=
  ⟨p, o - 1, w0, qs, rs, by rw [show (((o - 1 : Nat) : Int) + 1) = (o : Int) by omega], hp, hr, l1, B, by omega, h0, h1, by rw [show o - 1 + 1 = o by omega]; exact k⟩
def sp_law (K : PySem.W.Frag) : Sp := fun vs H Q _ => ∃ (a : Addr) (ns : List Int), vs = [.ref a] ∧ SqL K H a (ns.map V.int) ∧ ns.length ≤ 63 ∧ ∀ H', Q (.bl true) H'
theorem ok_law (T : Txt K mg a) : Fn P w K mg base CX0 7 a.f_law a.fd_law ["_law_script"] (sp_law K) := by
  refine Gd.mk T.d_law.F sc_law (fun vs H Q E h => ?_) (fun cdv A outer s H vs Q E hG hr h => ?_)
  · obtain ⟨as, ns, rfl, _⟩ := h
    rfl
  · obtain ⟨as, ns, rfl, hS, hl, k⟩ := h
    refine ⟨_, (pss_cons (ps_set (i := 1) sc_law.nd rfl (.inl rfl) (cl T.d__law_bag (ok__law_bag T) (hr.mono (by decide)) (pa_cons (pv 0) pa_nil)))
    (pss_cons (ps_for PassesOwn.never rfl (pi_range1 (by rfl) T.g_range (pa_cons pe_int pa_nil)) (pg_name (i := 2) sc_law.nd rfl (.inl rfl))
      (pss_cons (ps_set (i := 3) sc_law.nd rfl (.inl rfl) (cl T.d__law_drawn_rows (ok__law_drawn_rows T) (hr.mono (by decide)) (pa_cons (pv 1) pa_nil)))
      (pss_cons (ps_asg (pe_tup (pa_cons (pe_ix ix_list (pe_lst (pa_cons pe_int (pa_cons (cl T.d__law_take (ok__law_take T) (hr.mono (by decide)) (pa_cons (pv 1) (pa_cons pe_int pa_nil))) (pa_cons (cl T.d__law_number (ok__law_number T) (hr.mono (by decide)) (pa_cons (pv 1) pa_nil)) pa_nil)))) (cl T.d__law_take (ok__law_take T) (hr.mono (by decide)) (pa_cons (pv 1) (pa_cons pe_int pa_nil))) (fun _ _ => rfl)) (pa_cons (pe_callB call_lenL (by rfl) T.g_len PySem.boot_len (pa_cons (pv 3) pa_nil)) pa_nil))) (pg_tup (by rfl) (pgs_cons (pg_name (i := 4) sc_law.nd rfl (.inr rfl)) (pgs_cons (pg_name (i := 5) sc_law.nd rfl (.inl rfl)) pgs_nil))))
      (pss_cons (ps_set (i := 6) sc_law.nd rfl (.inl rfl) (pe_lst (pa_cons pe_int (pa_cons pe_int (pa_cons (pe_op op_mul pe_int (pe_op op_pow pe_int pe_int)) pa_nil)))))
      (pss_cons (ps_par (i := 7) (j := 8) rfl sc_law.nd rfl rfl (by decide) rfl rfl (pa_cons (pe_op op_add pe_int (cl T.d__law_take (ok__law_take T) (hr.mono (by decide)) (pa_cons (pv 1) (pa_cons (pe_ix ix_list (pv 6) (cl T.d__law_take (ok__law_take T) (hr.mono (by decide)) (pa_cons (pv 1) (pa_cons pe_int pa_nil))) (fun _ _ => rfl)) pa_nil)))) (pa_cons (pe_op op_add pe_int (cl T.d__law_take (ok__law_take T) (hr.mono (by decide)) (pa_cons (pv 1) (pa_cons (pe_ix ix_list (pv 6) (cl T.d__law_take (ok__law_take T) (hr.mono (by decide)) (pa_cons (pv 1) (pa_cons pe_int pa_nil))) (fun _ _ => rfl)) pa_nil)))) pa_nil)) (by rfl))
      (pss_cons (ps_set (i := 9) sc_law.nd rfl (.inl rfl) (clKW T.d_wait_of (ok_wait_of T) (hr.mono (by decide)) (pa_cons (pv 3) (pa_cons (pe_op op_mulW (pv 7) (pv 5)) pa_nil)) (pk_cons (pv 4) pk_nil)))
      (C8.pss_cut (ps_if (pt_cmpR op_le (pv 9) (pe_op op_pow pe_int pe_int) (nomark _))
        (pss_cons (ps_set (i := 10) sc_law.nd rfl (.inl rfl) (pe_op op_add (clKW T.d_total (ok_total T) (hr.mono (by decide)) (pa_cons (pv 3) (pa_cons (pv 7) pa_nil)) (pk_cons (pv 4) pk_nil)) (clKW T.d_total (ok_total T) (hr.mono (by decide)) (pa_cons (pv 3) (pa_cons (pv 8) pa_nil)) (pk_cons (pv 9) pk_nil))))
        (pss_cons (ps_if (pt_cmpR op_ne (clKW T.d_total (ok_total T) (hr.mono (by decide)) (pa_cons (pv 3) (pa_cons (pe_op op_add (pv 7) (pv 8)) pa_nil)) (pk_cons (pv 4) pk_nil)) (pv 10) (nomark _))
          (pss_one (ps_ret pe_bl))
          pss_nil)
        (pss_cons (ps_set (i := 11) sc_law.nd rfl (.inl rfl) (pe_op op_sub (pe_op op_fdivW (pe_op op_pow pe_int pe_int) (pv 5)) (pv 7)))
        (pss_one (ps_if (pt_cmpR op_ne (clKW T.d_wait_of (ok_wait_of T) (hr.mono (by decide)) (pa_cons (pv 3) (pa_cons (pe_op op_mulW (pv 11) (pv 5)) pa_nil)) (pk_cons (pv 9) pk_nil)) (clKW T.d_wait_of (ok_wait_of T) (hr.mono (by decide)) (pa_cons (pv 3) (pa_cons (pe_op op_mulW (pe_op op_add (pv 11) (pv 7)) (pv 5)) pa_nil)) (pk_cons (pv 4) pk_nil)) (nomark _))
          (pss_one (ps_ret pe_bl))
          pss_nil)))))
        pss_nil)
      (pss_cons (ps_if (pt_cmpR op_ne (clKW T.d_total (ok_total T) (hr.mono (by decide)) (pa_cons (pe_op op_cat (pv 3) (pv 3)) (pa_cons (pv 7) pa_nil)) (pk_cons (pv 4) pk_nil)) (clKW T.d_total (ok_total T) (hr.mono (by decide)) (pa_cons (pv 3) (pa_cons (pe_op op_mulW pe_int (pv 7)) pa_nil)) (pk_cons (pv 4) pk_nil)) (nomark _))
        (pss_one (ps_ret pe_bl))
        pss_nil)
      (pss_cons (ps_set (i := 12) sc_law.nd rfl (.inr rfl) (cl T.d__law_lane (ok__law_lane T) (hr.mono (by decide)) (pa_cons (pv 3) pa_nil)))
      (pss_cons (ps_if (pt_cmpR op_ne (pv 9) (StX.pe_callO (pe_meth (pv 12) T.cl_Lane T.m_Lane_repeated (ok_Lane_repeated T) (hr.mono (by decide)) T.d_Lane_repeated.b .nil pass0 (pa_cons (pv 7) pa_nil)) T.c_Lane (okR (ok_Lane___call__ T) T.d_Lane___call__.b) (hr.mono (by decide)) pass0 (pa_cons (pv 4) pa_nil)) (nomark _))
        (pss_one (ps_ret pe_bl))
        pss_nil)
      (pss_cons (ps_if (pt_not (pt_val (cl T.d__law_far_right (ok__law_far_right T) (hr.mono (by decide)) (pa_cons (pv 1) (pa_cons (pv 3) (pa_cons (pe_meth (pv 12) T.cl_Lane T.m_Lane_repeated (ok_Lane_repeated T) (hr.mono (by decide)) T.d_Lane_repeated.b .nil pass0 (pa_cons (pv 7) pa_nil)) (pa_cons (pe_op op_mulW (pv 7) (pv 5)) (pa_cons (pv 4) pa_nil))))))))
        (pss_one (ps_ret pe_bl))
        pss_nil)
      (pss_cons (ps_set (i := 13) sc_law.nd rfl (.inl rfl) (cl T.d__law_take (ok__law_take T) (hr.mono (by decide)) (pa_cons (pv 1) (pa_cons (pv 5) pa_nil))))
      (pss_cons (ps_set (i := 14) sc_law.nd rfl (.inl rfl) (StX.pe_callO (pe_meth (pv 12) T.cl_Lane T.m_Lane_repeated (ok_Lane_repeated T) (hr.mono (by decide)) T.d_Lane_repeated.b .nil pass0 (pa_cons (pv 7) pa_nil)) T.c_Lane (okR (ok_Lane___call__ T) T.d_Lane___call__.b) (hr.mono (by decide)) pass0 (pa_cons (pv 4) pa_nil)))
      (pss_cons (ps_for PassesOwn.never rfl (pi_list (pe_slice sl_list (pv 3) po_none (po_some (pv 13)))) (pg_tup (by rfl) (pgs_cons (pg_name (i := 15) sc_law.nd rfl (.inl rfl)) (pgs_cons (pg_name (i := 16) sc_law.nd rfl (.inl rfl)) pgs_nil)))
        (pss_one (ps_set (i := 14) sc_law.nd rfl (.inl rfl) (pe_callB (call_mx rfl) (by rfl) T.g_max (by decide +kernel) (pa_cons pe_int (pa_cons (pe_op op_sub (pe_op op_add (pv 14) (pv 15)) (pv 16)) pa_nil))))))
      (pss_cons (ps_if (pt_cmpR op_ne (clKW T.d_wait_of (ok_wait_of T) (hr.mono (by decide)) (pa_cons (pv 3) (pa_cons (pe_op op_add (pe_op op_mulW (pv 7) (pv 5)) (pv 13)) pa_nil)) (pk_cons (pv 4) pk_nil)) (pv 14) (nomark _))
        (pss_one (ps_ret pe_bl))
        pss_nil)
      (pss_cons (ps_setLc (i := 18) (own := [("_law_j", 17)]) (g := gName 17) (tt := tYes) rfl sc_law.nd rfl rfl (sw_true rfl rfl rfl (by decide +kernel)) (pi_range1 (by rfl) T.g_range (pa_cons (pe_callB (call_mn rfl) (by rfl) T.g_min (by decide +kernel) (pa_cons (pv 7) (pa_cons pe_int pa_nil))) pa_nil)) (blkOk_by (own := [("_law_j", 17)]) (N := ["_law_script", "_law_bag_here", "_law_k", "_law_rows", "_law_wait_here", "_law_many", "_law_tops", "_law_one", "_law_other", "_law_behind", "_law_parts", "_law_far", "_law_lane_here", "_law_at", "_law_near", "_law_service", "_law_gap", "_law_j", "_law_some"]) (sc := defScope s_law) (by decide +kernel)) (fun _ _ _ _ _ => pg_name (i := 17) sc_law.nd rfl (Or.inl rfl)) (fun _ _ _ _ _ => pts_nil) (fun _ _ _ _ _ => (pe_callA (pe_meth (pv 12) T.cl_Lane T.m_Lane_repeated (ok_Lane_repeated T) (hr.mono (by decide)) T.d_Lane_repeated.b .nil pass0 (pa_cons (pv 17) pa_nil)) T.c_Lane (okR (ok_Lane___call__ T) T.d_Lane___call__.b) (hr.mono (by decide)) pass0 (pa_cons (pv 4) pa_nil))))
      (pss_one (ps_if (pt_cmpR op_lt (clKW T.d_total (ok_total T) (hr.mono (by decide)) (pa_cons (pv 3) (pa_cons (pv 7) pa_nil)) (pk_cons (pv 4) pk_nil)) (pe_callB (cr_sum rfl) (by rfl) T.g_sum (by decide +kernel) (pa_cons (pv 18) pa_nil)) (nomark _))
        (pss_one (ps_ret pe_bl))
        pss_nil))))))))))))))))))
    (pss_one (ps_ret pe_bl)))), ?_⟩
    walk_at "rd"
    refine ⟨as, ns, rfl, hS, hl, fun b c H1 nb s1 bg1 => ?_⟩
    walk_at "rd"
    refine ⟨4, rfl, by decide, by decide, ?_⟩
    refine go_for (walk_range (n := 4)) (fun i σ' H' => ∃ v2 v3 v4 v5 v6 v7 v8 v9 v10 v11 v12 v13 v14 v15 v16 v17 v18, σ' = [some (.ref as), some (.ref b), v2, v3, v4, v5, v6, v7, v8, v9, v10, v11, v12, v13, v14, v15, v16, v17, v18] ∧ Bag H' b c)
      ⟨_, _, _, _, _, _, _, _, _, _, _, _, _, _, _, _, _, rfl, bg1⟩ (fun _ _ _ _ _ => True.intro) ?_ ?_
    · rintro i x σ' H2 H3 hi ⟨v2, v3, v4, v5, v6, v7, v8, v9, v10, v11, v12, v13, v14, v15, v16, v17, v18, rfl, bg2⟩ ⟨rfl, rfl⟩
      walk_at "rd"
      refine ⟨b, c, rfl, bg2, fun p qs rs H4 L B l0 l1 bg4 bt4 => ?_⟩
      walk_at "rd"
      refine i_take bg4 (by decide) (by decide) fun r1 H10 hr1 bg10 bt10 => ?_
      walk_at "rd"
      refine ⟨b, c, rfl, bg10, fun r2 H11 hr2 bg11 bt11 => ?_⟩
      walk_at "rd"
      refine ⟨sz, fun l nl => ?_⟩
      have lb : l ≠ b := bg11.ne nl
      walk_at "rd"
      refine i_take (bg11.new nl) (by decide) (by decide) fun d H12 hd bg12 bt12 => ?_
      walk_at "rd"
      have hl12 := bt12 _ _ lb (upd_same (a := l) (H := H11) (o := .lst [V.int 0, V.int (r1 : Int), V.int (r2 : Int)]))
      obtain ⟨w, hw, hw1⟩ : ∃ w : Nat, ([V.int 0, V.int (r1 : Int), V.int (r2 : Int)] : List V)[d]? = some (.int (w : Int)) ∧ w ≤ 10 ^ 18 := by
        have hd' : d < 3 := by omega
        match d, hd' with
        | 0, _ => exact ⟨0, rfl, by omega⟩
        | 1, _ => exact ⟨r1, rfl, by omega⟩
        | 2, _ => exact ⟨r2, rfl, by omega⟩
      refine i_ixL (SqL.lst hl12) (atI_nat hw) ?_
      have bt := ((bt10.trans bt11).upd (o := .lst [V.int 0, V.int (r1 : Int), V.int (r2 : Int)]) nl).trans bt12
      replace L := L.but bt
      clear bg4 bg10 bg11 bt10 bt11 bt12 nl hl12 bt hw hr1 hr2 r1 r2 hd d lb l bt4
      walk_at "rd"
      refine i_lenL (SqL.lst L.lst) ?_
      rw [List.length_map, L.len]
      refine ⟨sz, fun T nT => ?_⟩
      have s13 := same_upd (o := .tup [V.int (w : Int), V.int (rs.length : Int)]) (Same.refl H12) nT
      have hT : (upd H12 T (.tup [V.int (w : Int), V.int (rs.length : Int)])) T = some (.tup [V.int (w : Int), V.int (rs.length : Int)]) := upd_same
      generalize upd H12 T (.tup [V.int (w : Int), V.int (rs.length : Int)]) = H13 at s13 hT ⊢
      replace L := L.but (But.of s13)
      have bg13 := bg12.keep s13
      refine i_tg (SqT.tup hT) rfl ?_
      walk_at "rd"
      clear hT nT s13 bg12
      refine ⟨sz, fun l nl => ?_⟩
      have lb : l ≠ b := bg13.ne nl
      walk_at "rd"
      have s14 := same_upd (o := .lst [V.int 5, V.int 100, V.int (5 * 10 ^ Int.toNat 17)]) (Same.refl H13) nl
      have hl14 : (upd H13 l (.lst [V.int 5, V.int 100, V.int (5 * 10 ^ Int.toNat 17)])) l = some (.lst [V.int 5, V.int 100, V.int (5 * 10 ^ Int.toNat 17)]) := upd_same
      generalize upd H13 l (.lst [V.int 5, V.int 100, V.int (5 * 10 ^ Int.toNat 17)]) = H14 at s14 hl14 ⊢
      replace L := L.but (But.of s14)
      have bg14 := bg13.keep s14
      clear nl s14 bg13
      have top : ∀ d : Nat, (d : Int) < 3 → ∃ tp : Nat, ([V.int 5, V.int 100, V.int (5 * 10 ^ Int.toNat 17)] : List V)[d]? = some (.int (tp : Int)) ∧ 0 < tp ∧ tp ≤ 5 * 10 ^ 17 := fun d hd => by
        have hd' : d < 3 := by omega
        match d, hd' with
        | 0, _ => exact ⟨5, rfl, by omega, by omega⟩
        | 1, _ => exact ⟨100, rfl, by omega, by omega⟩
        | 2, _ => exact ⟨5 * 10 ^ 17, rfl, by omega, by omega⟩
      refine i_take bg14 (by decide) (by decide) fun d H15 hd bg15 bt15 => ?_
      obtain ⟨tp, etp, tp0, tp1⟩ := top d hd
      replace L := L.but bt15
      replace hl14 := bt15 _ _ lb hl14
      walk_at "rd"
      refine i_ixL (SqL.lst hl14) (atI_nat etp) ?_
      walk_at "rd"
      refine i_take bg15 (by omega) (by omega) fun e1 H16 he1 bg16 bt16 => ?_
      replace L := L.but bt16
      replace hl14 := bt16 _ _ lb hl14
      clear etp bt15 bt16 bg14 bg15 hd d
      walk_at "rd"
      refine i_take bg16 (by decide) (by decide) fun d H15 hd bg15 bt15 => ?_
      obtain ⟨tp2, etp, tp20, tp21⟩ := top d hd
      replace L := L.but bt15
      replace hl14 := bt15 _ _ lb hl14
      walk_at "rd"
      refine i_ixL (SqL.lst hl14) (atI_nat etp) ?_
      walk_at "rd"
      refine i_take bg15 (by omega) (by omega) fun e2 H17 he2 bg17 bt17 => ?_
      replace L := L.but bt17
      clear etp bt15 bt17 bg15 bg16 hd d top hl14 lb
      walk_at "rd"
      obtain ⟨one, eo, o0, o1⟩ : ∃ one : Nat, 1 + (e1 : Int) = (one : Int) ∧ 0 < one ∧ one ≤ 5 * 10 ^ 17 := ⟨e1 + 1, by omega, by omega, by omega⟩
      obtain ⟨oth, et, t0, t1⟩ : ∃ oth : Nat, 1 + (e2 : Int) = (oth : Int) ∧ 0 < oth ∧ oth ≤ 5 * 10 ^ 17 := ⟨e2 + 1, by omega, by omega, by omega⟩
      rw [eo, et]
      clear he1 he2 tp1 tp0 tp21 tp20 eo et e1 e2 tp tp2
      have wn : (0 : Int) ≤ w := by omega
      have om : one * rs.length ≤ 5 * 10 ^ 17 * 200 := Nat.mul_le_mul o1 l1
      have em : (one : Int) * (rs.length : Int) = ((one * rs.length : Nat) : Int) := (Int.natCast_mul _ _).symm
      refine i_callN ?_
      walk_at "rd"
      refine i_I (wide_mul (i := (one : Int)) (j := (rs.length : Int)) (a := 90) (b := 90) (by omega) (by omega) (by decide) (by decide) (by decide)) ?_
      rw [em]
      walk_at "rd"
      refine ⟨rfl, rfl, ?_⟩
      refine ⟨p, one * rs.length, (w : Int), qs, rs, rfl, SqL.lst L.lst, L.rows, l0, by omega, B, by omega, wn, fun H18 s18 => ?_⟩
      replace L := L.but (But.of s18)
      have bg18 := bg17.keep s18
      clear s18 bg17
      have hb := cyW_nn (rs := rs) wn (one * rs.length)
      have eb := cyW_add rs (w : Int) one
      walk_at "rd"
      refine i_cut (fun σ' H' => ∃ v6 v10 v11, σ' = [some (.ref as), some (.ref b), some (.int (0 + (i : Int))), some (.ref p), some (.int (w : Int)), some (.int (rs.length : Int)), v6, some (.int (one : Int)), some (.int (oth : Int)), some (.int (cyW rs (w : Int) (one * rs.length))), v10, v11, v12, v13, v14, v15, v16, v17, v18] ∧ Bag H' b c ∧ RwL K b H' p qs rs) ?_ ?_
      · generalize hbe : cyW rs (w : Int) (one * rs.length) = be at hb eb
        walk_at "rd"
        refine w2 (fun e => ?_) (fun e => ?_)
        · replace e : be ≤ 10 ^ 18 := e
          walk_at "rd"
          refine i_callN ?_
          walk_at "rd"
          refine ⟨rfl, rfl, ?_⟩
          refine i_tot o0 (by omega) (SqL.lst L.lst) L.rows (by omega) B wn (by omega) fun H19 s19 => ?_
          replace L := L.but (But.of s19)
          replace bg18 := bg18.keep s19
          clear s19
          refine i_callN ?_
          walk_at "rd"
          refine ⟨rfl, rfl, ?_⟩
          refine i_tot t0 (by omega) (SqL.lst L.lst) L.rows (by omega) B hb (by omega) fun H20 s20 => ?_
          replace L := L.but (But.of s20)
          replace bg18 := bg18.keep s20
          clear s20
          walk_at "rd"
          refine i_callN ?_
          walk_at "rd"
          refine ⟨rfl, rfl, ?_⟩
          rw [show (one : Int) + (oth : Int) = ((one + oth : Nat) : Int) from (Int.natCast_add _ _).symm]
          refine i_tot (by omega) (by omega) (SqL.lst L.lst) L.rows (by omega) B wn (by omega) fun H21 s21 => ?_
          replace L := L.but (But.of s21)
          replace bg18 := bg18.keep s21
          clear s21
          have e1 : snF (cyW rs (w : Int)) ((one + oth) * rs.length) = snF (cyW rs (w : Int)) (one * rs.length) + snF (cyW rs be) (oth * rs.length) := by
            rw [Nat.add_mul, snF_split]
            refine congrArg _ (snF_congr _ fun k _ => ?_)
            exact (eb k).symm
          walk_at "rd"
          rw [if_neg (by rw [e1]; simp)]
          walk_at "rd"
          have q1 : (10 : Int) ^ Int.toNat 21 / (rs.length : Int) * (rs.length : Int) ≤ 10 ^ 21 := Int.ediv_mul_le _ (by omega)
          have q2 : (10 : Int) ^ Int.toNat 21 / (rs.length : Int) ≤ 10 ^ 21 := Int.ediv_le_self _ (by decide)
          have q3 : (5 * 10 ^ 17 : Int) ≤ (10 : Int) ^ Int.toNat 21 / (rs.length : Int) := by
            rw [show (10 : Int) ^ Int.toNat 21 = 10 ^ 21 from rfl]
            exact (Int.le_ediv_iff_mul_le (by omega)).mpr (by omega)
          refine i_I (wide_div (b := 90) (by omega) (by omega) (by decide) (by decide)) ?_
          generalize (10 : Int) ^ Int.toNat 21 / (rs.length : Int) = q at q1 q2 q3 ⊢
          walk_at "rd"
          obtain ⟨far, efar⟩ : ∃ far : Nat, q - (one : Int) = (far : Int) := ⟨(q - one).toNat, by omega⟩
          rw [efar]
          have f1 : (far + one) * rs.length ≤ 10 ^ 21 := by
            have z1 : (((far + one) * rs.length : Nat) : Int) = q * (rs.length : Int) := by
              rw [Int.natCast_mul, show ((far + one : Nat) : Int) = q by omega]
            omega
          have f2 : far * rs.length ≤ (far + one) * rs.length := Nat.mul_le_mul_right _ (by omega)
          refine i_callN ?_
          walk_at "rd"
          refine i_I (wide_mul (i := (far : Int)) (j := (rs.length : Int)) (a := 90) (b := 90) (by omega) (by omega) (by decide) (by decide) (by decide)) ?_
          rw [show (far : Int) * (rs.length : Int) = ((far * rs.length : Nat) : Int) from (Int.natCast_mul _ _).symm]
          walk_at "rd"
          refine ⟨rfl, rfl, ?_⟩
          refine ⟨p, far * rs.length, be, qs, rs, rfl, SqL.lst L.lst, L.rows, l0, by omega, B, by omega, hb, fun H22 s22 => ?_⟩
          replace L := L.but (But.of s22)
          replace bg18 := bg18.keep s22
          clear s22
          refine i_callN ?_
          walk_at "rd"
          rw [show (far : Int) + (one : Int) = ((far + one : Nat) : Int) from (Int.natCast_add _ _).symm]
          refine i_I (wide_mul (i := ((far + one : Nat) : Int)) (j := (rs.length : Int)) (a := 90) (b := 90) (by omega) (by omega) (by decide) (by decide) (by decide)) ?_
          rw [show ((far + one : Nat) : Int) * (rs.length : Int) = (((far + one) * rs.length : Nat) : Int) from (Int.natCast_mul _ _).symm]
          walk_at "rd"
          refine ⟨rfl, rfl, ?_⟩
          refine ⟨p, (far + one) * rs.length, (w : Int), qs, rs, rfl, SqL.lst L.lst, L.rows, l0, by omega, B, by omega, wn, fun H23 s23 => ?_⟩
          replace L := L.but (But.of s23)
          replace bg18 := bg18.keep s23
          clear s23
          have e2 : cyW rs be (far * rs.length) = cyW rs (w : Int) ((far + one) * rs.length) := by
            rw [eb, Nat.add_comm far one, Nat.add_mul]
          rw [e2]
          walk_at "rd"
          rw [if_neg (by simp)]
          walk_at "rd"
          exact ⟨_, _, _, rfl, bg18, L⟩
        · walk_at "rd"
          rw [← hbe]
          exact ⟨_, _, _, rfl, bg18, L⟩
      · clear bg18 L eb
        rintro σ' H19 ⟨v6, v10, v11, rfl, bg19, L⟩
        walk_at "rd"
        refine i_callN ?_
        walk_at "rd"
        refine i_cat L.lst L.lst (by rw [List.length_map, L.len]; exact line_le (by omega)) fun D nD => ?_
        have s20 := same_upd (o := .lst (qs.map V.ref ++ qs.map V.ref)) (Same.refl H19) nD
        have hD : (upd H19 D (.lst (qs.map V.ref ++ qs.map V.ref))) D = some (.lst (qs.map V.ref ++ qs.map V.ref)) := upd_same
        generalize upd H19 D (.lst (qs.map V.ref ++ qs.map V.ref)) = H20 at s20 hD ⊢
        replace L := L.but (But.of s20)
        replace bg19 := bg19.keep s20
        walk_at "rd"
        refine ⟨rfl, rfl, ?_⟩
        refine i_tot (rs := rs ++ rs) (qs := qs ++ qs) o0 (by omega) (by rw [List.map_append]; exact SqL.lst hD) (L.rows.app L.rows) (by rw [List.length_append]; omega) (fun r hr => (List.mem_append.mp hr).elim (B r) (B r)) wn (by omega) fun H21 s21 => ?_
        replace L := L.but (But.of s21)
        replace bg19 := bg19.keep s21
        clear s21 hD s20 nD
        walk_at "rd"
        refine i_callN ?_
        walk_at "rd"
        refine i_I (wide_mul (i := 2) (j := (one : Int)) (a := 90) (b := 90) (by decide) (by omega) (by decide) (by decide) (by decide)) ?_
        rw [show (2 : Int) * (one : Int) = ((2 * one : Nat) : Int) from by omega]
        walk_at "rd"
        refine ⟨rfl, rfl, ?_⟩
        refine i_tot (by omega) (by omega) (SqL.lst L.lst) L.rows (by omega) B wn (by omega) fun H22 s22 => ?_
        replace L := L.but (But.of s22)
        replace bg19 := bg19.keep s22
        clear s22
        have e3 : snF (cyW (rs ++ rs) (w : Int)) (one * (rs ++ rs).length) = snF (cyW rs (w : Int)) (2 * one * rs.length) := by
          rw [funext (cyW_twice l0 (w : Int)), List.length_append, Nat.mul_add, Nat.mul_assoc, Nat.two_mul]
        rw [e3]
        walk_at "rd"
        rw [if_neg (by simp)]
        walk_at "rd"
        refine ⟨p, qs, rs, rfl, SqL.lst L.lst, L.rows, fun x H23 s23 n23 h23 => ?_⟩
        have xb : x ≠ b := bg19.ne n23
        replace L := L.but (But.of s23)
        replace bg19 := bg19.keep s23
        have X : LnR a.k_Lane b H23 x rs := LnA.hid h23 xb
        clear h23 n23 s23 xb e3
        have ld := dF_bound B (by omega : rs.length ≤ 1000)
        have v := lane_ok rs
        have ec := (cyV (rs := rs) wn one).1
        walk_at "rd"
        refine i_mth ?_
        walk_at "rd"
        refine i_lm X.at_ rfl ?_
        walk_at "rd"
        refine i_rp X.at_ v (by omega) (by omega) (by omega) fun z H24 s24 n24 h24 => ?_
        refine ⟨z, rfl, ?_⟩
        walk_at "rd"
        refine i_lcall h24 ?_
        rw [← ec]
        replace L := L.but (But.of s24)
        replace X := X.but (But.of s24)
        replace bg19 := bg19.keep s24
        clear h24 n24 s24 z
        walk_at "rd"
        rw [if_neg (by simp)]
        walk_at "rd"
        refine i_mth ?_
        walk_at "rd"
        refine i_lm X.at_ rfl ?_
        walk_at "rd"
        refine i_rp X.at_ v (by omega) (by omega) (by omega) fun z H25 s25 n25 h25 => ?_
        have zb : z ≠ b := bg19.ne n25
        replace L := L.but (But.of s25)
        replace X := X.but (But.of s25)
        replace bg19 := bg19.keep s25
        walk_at "rd"
        refine i_I (wide_mul (i := (one : Int)) (j := (rs.length : Int)) (a := 90) (b := 90) (by omega) (by omega) (by decide) (by decide) (by decide)) ?_
        walk_at "rd"
        refine ⟨b, c, p, z, one, w, qs, rs, rfl, bg19, L, B, l0, by omega, LnA.hid h25 zb, o0, by omega, fun H26 bg26 bt26 => ?_⟩
        replace L := L.but bt26
        replace X := X.but bt26
        clear zb h25 n25 s25 z bg19 bt26
        refine ⟨true, rfl, ?_⟩
        rw [if_neg (by decide)]
        walk_at "rd"
        refine i_take bg26 (by omega) (by omega) fun t H27 ht bg27 bt27 => ?_
        replace L := L.but bt27
        replace X := X.but bt27
        clear bt27 bg26
        have ht' : t < rs.length := by omega
        walk_at "rd"
        refine i_mth ?_
        walk_at "rd"
        refine i_lm X.at_ rfl ?_
        walk_at "rd"
        refine i_rp X.at_ v (by omega) (by omega) (by omega) fun z H28 s28 n28 h28 => ?_
        refine ⟨z, rfl, ?_⟩
        walk_at "rd"
        refine i_lcall h28 ?_
        rw [← ec]
        replace L := L.but (But.of s28)
        replace X := X.but (But.of s28)
        replace bg27 := bg27.keep s28
        clear h28 n28 s28 z
        walk_at "rd"
        refine i_slL (SqL.lst L.lst) fun S nS => ?_
        have eS : cutV (qs.map V.ref) none (some (t : Int)) = (qs.take t).map V.ref := by
          rw [cutV_map]
          exact congrArg (List.map V.ref) (cutA_to qs _)
        rw [eS]
        have s29 := same_upd (o := .lst ((qs.take t).map V.ref)) (Same.refl H28) nS
        have hS : (upd H28 S (.lst ((qs.take t).map V.ref))) S = some (.lst ((qs.take t).map V.ref)) := upd_same
        generalize upd H28 S (.lst ((qs.take t).map V.ref)) = H29 at s29 hS ⊢
        replace L := L.but (But.of s29)
        replace X := X.but (But.of s29)
        have bg29 := bg27.keep s29
        clear nS s29 bg27 eS
        walk_at "rd"
        have R := L.rows.take t
        have hlt : (qs.take t).length = t := by rw [List.length_take, L.len]; omega
        have hlr : (rs.take t).length = t := by rw [List.length_take]; omega
        have enear : wF (rs.take t) (cyW rs (w : Int) (one * rs.length)) = cyW rs (w : Int) (one * rs.length + t) := (cyW_row (w : Int) one t (by omega)).symm
        have hbn : cyW rs (w : Int) (one * rs.length) = cyW rs (w : Int) (one * rs.length) := rfl
        generalize hbe : cyW rs (w : Int) (one * rs.length) = be at enear hb ec hbn ⊢
        refine ⟨S, rfl, ⟨_, SqL.lst hS⟩, ?_⟩
        refine go_for (walk_list (xs := (qs.take t).map V.ref)) (fun j σ' H' => H' = H29 ∧ ∃ v15 v16, σ' = [some (.ref as), some (.ref b), some (.int (0 + (i : Int))), some (.ref p), some (.int (w : Int)), some (.int (rs.length : Int)), v6, some (.int (one : Int)), some (.int (oth : Int)), some (.int be), v10, v11, some (.ref x), some (.int (t : Int)), some (.int (wF ((rs.take t).take j) be)), v15, v16, v17, v18]) ⟨rfl, _, _, rfl⟩ (fun j σ' H' _ h => by obtain ⟨rfl, _⟩ := h; exact SqL.lst hS) ?_ ?_
        · rintro j y σ' H' H'' hj ⟨rfl, v15, v16, rfl⟩ ⟨e1, e2⟩
          have e1' := e1.symm
          subst e1'
          rw [List.length_map, hlt] at hj
          rw [List.getElem?_map, List.getElem?_eq_getElem (by rw [hlt]; exact hj)] at e2
          cases e2
          have er := List.getElem?_eq_getElem (l := rs.take t) (i := j) (by rw [hlr]; exact hj)
          refine i_tg (R.at_ j _ _ (List.getElem?_eq_getElem (by rw [hlt]; exact hj)) er) rfl ?_
          walk_at "rd"
          have e3 := wF_take er be
          refine ⟨rfl, some (.int ((rs.take t)[j]'(by rw [hlr]; exact hj)).1), some (.int ((rs.take t)[j]'(by rw [hlr]; exact hj)).2), ?_⟩
          rw [e3]
          rfl
        · rintro σ' H' ⟨rfl, v15, v16, rfl⟩
          rw [List.length_map, hlt, List.take_of_length_le (by omega), enear]
          walk_at "rd"
          refine i_callN ?_
          walk_at "rd"
          refine i_I (wide_mul (i := (one : Int)) (j := (rs.length : Int)) (a := 90) (b := 90) (by omega) (by omega) (by decide) (by decide) (by decide)) ?_
          rw [em]
          walk_at "rd"
          rw [show ((one * rs.length : Nat) : Int) + (t : Int) = ((one * rs.length + t : Nat) : Int) from (Int.natCast_add _ _).symm]
          refine ⟨rfl, rfl, ?_⟩
          refine ⟨p, one * rs.length + t, (w : Int), qs, rs, rfl, SqL.lst L.lst, L.rows, l0, by omega, B, by omega, wn, fun H30 s30 => ?_⟩
          replace L := L.but (But.of s30)
          replace X := X.but (But.of s30)
          replace bg29 := bg29.keep s30
          clear s30 R enear hS ht ht' hlt hlr hbn
          walk_at "rd"
          rw [if_neg (by simp)]
          walk_at "rd"
          obtain ⟨u, eu, u6, uo⟩ : ∃ u : Nat, (if (6 : Int) < (one : Int) then 6 else (one : Int)) = (u : Int) ∧ u ≤ 6 ∧ u ≤ one := by
            by_cases h : (6 : Int) < (one : Int)
            · rw [if_pos h]
              exact ⟨6, rfl, by omega, by omega⟩
            · rw [if_neg h]
              exact ⟨one, rfl, by omega, by omega⟩
          rw [eu]
          refine ⟨(u : Int), rfl, by omega, by omega, ?_⟩
          rw [Int.toNat_natCast]
          intro D nD
          refine lc_map (walk_range (n := u)) (fun j => .int (cyW rs (w : Int) (j * rs.length))) (line_lt (by omega)) nD (fun _ _ => True.intro) ?_ ?_
          · intro j H' hj sm R hR
            walk_at "rd"
            have ecj := (cyV (rs := rs) wn j).1
            refine i_mth ?_
            walk_at "rd"
            refine i_lm (X.at_.same sm) rfl ?_
            walk_at "rd"
            refine i_rp (X.at_.same sm) v (by omega) (by omega) (by omega) fun z H31 s31 n31 h31 => ?_
            refine ⟨z, rfl, ?_⟩
            walk_at "rd"
            rw [Int.zero_add] at h31
            obtain ⟨dz, hz⟩ := id h31
            refine ⟨⟨dz, _, hz⟩, z, _, _, _, rfl, h31, ?_⟩
            rw [← ecj]
            exact hR _ s31
          · intro H' sm hD
            replace L := L.but (But.of sm)
            replace bg29 := bg29.keep sm
            walk_at "rd"
            refine i_callN ?_
            walk_at "rd"
            refine ⟨rfl, rfl, ?_⟩
            refine i_tot o0 (by omega) (SqL.lst L.lst) L.rows (by omega) B wn (by omega) fun H31 s31 => ?_
            replace bg29 := bg29.keep s31
            replace hD := s31 _ _ hD
            walk_at "rd"
            have eD : (List.range u).map (fun j => V.int (cyW rs (w : Int) (j * rs.length))) = ((List.range u).map fun j => cyW rs (w : Int) (j * rs.length)).map V.int := by
              rw [List.map_map]
              rfl
            rw [eD] at hD
            refine ⟨D, _, rfl, SqL.lst hD, ?_⟩
            rw [sum_range]
            have le1 := snF_some (f := cyW rs (w : Int)) (fun k => cyW_nn wn k) l0 u
            have le2 : snF (cyW rs (w : Int)) (u * rs.length) ≤ snF (cyW rs (w : Int)) (one * rs.length) := by
              obtain ⟨d, hd⟩ : ∃ d, one * rs.length = u * rs.length + d := ⟨one * rs.length - u * rs.length, by
                have z := Nat.mul_le_mul_right rs.length uo
                omega⟩
              rw [hd, snF_split]
              have z := snF_nn (f := fun i => cyW rs (w : Int) (u * rs.length + i)) (fun k => cyW_nn wn _) d
              omega
            walk_at "rd"
            rw [if_neg (by rw [decide_eq_true_iff]; omega)]
            walk_at "rd"
            exact ⟨_, _, _, _, _, _, _, _, _, _, _, _, _, _, _, _, _, rfl, bg29⟩
    · rintro σ' H2 ⟨v2, v3, v4, v5, v6, v7, v8, v9, v10, v11, v12, v13, v14, v15, v16, v17, v18, rfl, bg2⟩
      walk_at "rd"
      exact k _
end
end M
namespace M
open PySem PySem.Spec PyProof.Rows L2 Gd
theorem all_mk {l : PySem.W.OpenLaw} {w : World} {K : PySem.W.Frag} {h : Heap} {mg : Str → Option Value} {fa f0 f1 f2 f3 f4 f5 f6 f7 f8 f9 f10 f11 f12 f13 f14 f15 f16 f17 f18 : Addr} (X : K.In h) (G : h.Ns mainGlobals mg) (hfa : mg "law" = some (.ref fa))
    {od0 an0 : Option Addr} {sl0 : Array (Option Value)} {oc0 kV0 dc0 pm0 cd0 ct0 : Value}
    (l0 : K.lookup f0 = some ⟨oc0, od0, .func (PySem.W.fnOf "__init__" "Lane.__init__" (defArgs s_Lane___init__) (defBody s_Lane___init__) (defScope s_Lane___init__) .none kV0 dc0 pm0 an0 cd0 ct0), sl0⟩)
    (c0 : PySem.W.codeIn K cd0 "Lane.__init__" = true) (k0 : PySem.W.keepIn K (.ref f0) = true)
    {od1 an1 : Option Addr} {sl1 : Array (Option Value)} {oc1 kV1 dc1 pm1 cd1 ct1 : Value}
    (l1 : K.lookup f1 = some ⟨oc1, od1, .func (PySem.W.fnOf "least" "Lane.least" (defArgs s_Lane_least) (defBody s_Lane_least) (defScope s_Lane_least) .none kV1 dc1 pm1 an1 cd1 ct1), sl1⟩)
    (c1 : PySem.W.codeIn K cd1 "Lane.least" = true) (k1 : PySem.W.keepIn K (.ref f1) = true)
    {od2 an2 : Option Addr} {sl2 : Array (Option Value)} {oc2 kV2 dc2 pm2 cd2 ct2 : Value}
    (l2 : K.lookup f2 = some ⟨oc2, od2, .func (PySem.W.fnOf "__call__" "Lane.__call__" (defArgs s_Lane___call__) (defBody s_Lane___call__) (defScope s_Lane___call__) .none kV2 dc2 pm2 an2 cd2 ct2), sl2⟩)
    (c2 : PySem.W.codeIn K cd2 "Lane.__call__" = true) (k2 : PySem.W.keepIn K (.ref f2) = true)
    {od3 an3 : Option Addr} {sl3 : Array (Option Value)} {oc3 kV3 dc3 pm3 cd3 ct3 : Value}
    (a3 : PySem.W.nsIn K mainGlobals "_lane_of" = some (some (.ref f3))) (l3 : K.lookup f3 = some ⟨oc3, od3, .func (PySem.W.fnOf "_lane_of" "_lane_of" (defArgs s__lane_of) (defBody s__lane_of) (defScope s__lane_of) .none kV3 dc3 pm3 an3 cd3 ct3), sl3⟩)
    (c3 : PySem.W.codeIn K cd3 "_lane_of" = true) (k3 : PySem.W.keepIn K (.ref f3) = true)
    {od4 an4 : Option Addr} {sl4 : Array (Option Value)} {oc4 kV4 dc4 pm4 cd4 ct4 : Value}
    (l4 : K.lookup f4 = some ⟨oc4, od4, .func (PySem.W.fnOf "__mul__" "Lane.__mul__" (defArgs s_Lane___mul__) (defBody s_Lane___mul__) (defScope s_Lane___mul__) .none kV4 dc4 pm4 an4 cd4 ct4), sl4⟩)
    (c4 : PySem.W.codeIn K cd4 "Lane.__mul__" = true) (k4 : PySem.W.keepIn K (.ref f4) = true)
    {od5 an5 : Option Addr} {sl5 : Array (Option Value)} {oc5 kV5 dc5 pm5 cd5 ct5 : Value}
    (l5 : K.lookup f5 = some ⟨oc5, od5, .func (PySem.W.fnOf "drift" "Lane.drift" (defArgs s_Lane_drift) (defBody s_Lane_drift) (defScope s_Lane_drift) .none kV5 dc5 pm5 an5 cd5 ct5), sl5⟩)
    (c5 : PySem.W.codeIn K cd5 "Lane.drift" = true) (k5 : PySem.W.keepIn K (.ref f5) = true)
    {od6 an6 : Option Addr} {sl6 : Array (Option Value)} {oc6 kV6 dc6 pm6 cd6 ct6 : Value}
    (l6 : K.lookup f6 = some ⟨oc6, od6, .func (PySem.W.fnOf "repeated" "Lane.repeated" (defArgs s_Lane_repeated) (defBody s_Lane_repeated) (defScope s_Lane_repeated) .none kV6 dc6 pm6 an6 cd6 ct6), sl6⟩)
    (c6 : PySem.W.codeIn K cd6 "Lane.repeated" = true) (k6 : PySem.W.keepIn K (.ref f6) = true)
    {od7 an7 : Option Addr} {sl7 : Array (Option Value)} {oc7 dc7 pm7 cd7 ct7 : Value}
    {KD7 : Addr} {KT7 : Tok} (a7 : PySem.W.nsIn K mainGlobals "wait_of" = some (some (.ref f7))) (l7 : K.lookup f7 = some ⟨oc7, od7, .func (PySem.W.fnOf "wait_of" "wait_of" (defArgs s_wait_of) (defBody s_wait_of) (defScope s_wait_of) .none (.ref KD7) dc7 pm7 an7 cd7 ct7), sl7⟩)
    (kn7 : PySem.W.nsIn K KD7 "initial" = some (some (.int 0 KT7)))
    (c7 : PySem.W.codeIn K cd7 "wait_of" = true) (k7 : PySem.W.keepIn K (.ref f7) = true)
    {od8 an8 : Option Addr} {sl8 : Array (Option Value)} {oc8 kV8 dc8 pm8 cd8 ct8 : Value}
    (a8 : PySem.W.nsIn K mainGlobals "_sum_of_greater" = some (some (.ref f8))) (l8 : K.lookup f8 = some ⟨oc8, od8, .func (PySem.W.fnOf "_sum_of_greater" "_sum_of_greater" (defArgs s__sum_of_greater) (defBody s__sum_of_greater) (defScope s__sum_of_greater) .none kV8 dc8 pm8 an8 cd8 ct8), sl8⟩)
    (c8 : PySem.W.codeIn K cd8 "_sum_of_greater" = true) (k8 : PySem.W.keepIn K (.ref f8) = true)
    {od9 an9 : Option Addr} {sl9 : Array (Option Value)} {oc9 kV9 dc9 pm9 cd9 ct9 : Value}
    (a9 : PySem.W.nsIn K mainGlobals "_sum_behind" = some (some (.ref f9))) (l9 : K.lookup f9 = some ⟨oc9, od9, .func (PySem.W.fnOf "_sum_behind" "_sum_behind" (defArgs s__sum_behind) (defBody s__sum_behind) (defScope s__sum_behind) .none kV9 dc9 pm9 an9 cd9 ct9), sl9⟩)
    (c9 : PySem.W.codeIn K cd9 "_sum_behind" = true) (k9 : PySem.W.keepIn K (.ref f9) = true)
    {od10 an10 : Option Addr} {sl10 : Array (Option Value)} {oc10 dc10 pm10 cd10 ct10 : Value}
    {KD10 : Addr} {KT10 : Tok} (a10 : PySem.W.nsIn K mainGlobals "total" = some (some (.ref f10))) (l10 : K.lookup f10 = some ⟨oc10, od10, .func (PySem.W.fnOf "total" "total" (defArgs s_total) (defBody s_total) (defScope s_total) .none (.ref KD10) dc10 pm10 an10 cd10 ct10), sl10⟩)
    (kn10 : PySem.W.nsIn K KD10 "initial" = some (some (.int 0 KT10)))
    (c10 : PySem.W.codeIn K cd10 "total" = true) (k10 : PySem.W.keepIn K (.ref f10) = true)
    {od11 an11 : Option Addr} {sl11 : Array (Option Value)} {oc11 kV11 dc11 pm11 cd11 ct11 : Value}
    (a11 : PySem.W.nsIn K mainGlobals "_law_bag" = some (some (.ref f11))) (l11 : K.lookup f11 = some ⟨oc11, od11, .func (PySem.W.fnOf "_law_bag" "_law_bag" (defArgs s__law_bag) (defBody s__law_bag) (defScope s__law_bag) .none kV11 dc11 pm11 an11 cd11 ct11), sl11⟩)
    (c11 : PySem.W.codeIn K cd11 "_law_bag" = true) (k11 : PySem.W.keepIn K (.ref f11) = true)
    {od12 an12 : Option Addr} {sl12 : Array (Option Value)} {oc12 kV12 dc12 pm12 cd12 ct12 : Value}
    (a12 : PySem.W.nsIn K mainGlobals "_law_take" = some (some (.ref f12))) (l12 : K.lookup f12 = some ⟨oc12, od12, .func (PySem.W.fnOf "_law_take" "_law_take" (defArgs s__law_take) (defBody s__law_take) (defScope s__law_take) .none kV12 dc12 pm12 an12 cd12 ct12), sl12⟩)
    (c12 : PySem.W.codeIn K cd12 "_law_take" = true) (k12 : PySem.W.keepIn K (.ref f12) = true)
    {od13 an13 : Option Addr} {sl13 : Array (Option Value)} {oc13 kV13 dc13 pm13 cd13 ct13 : Value}
    (a13 : PySem.W.nsIn K mainGlobals "_law_number" = some (some (.ref f13))) (l13 : K.lookup f13 = some ⟨oc13, od13, .func (PySem.W.fnOf "_law_number" "_law_number" (defArgs s__law_number) (defBody s__law_number) (defScope s__law_number) .none kV13 dc13 pm13 an13 cd13 ct13), sl13⟩)
    (c13 : PySem.W.codeIn K cd13 "_law_number" = true) (k13 : PySem.W.keepIn K (.ref f13) = true)
    {od14 an14 : Option Addr} {sl14 : Array (Option Value)} {oc14 kV14 dc14 pm14 cd14 ct14 : Value}
    (a14 : PySem.W.nsIn K mainGlobals "_law_served" = some (some (.ref f14))) (l14 : K.lookup f14 = some ⟨oc14, od14, .func (PySem.W.fnOf "_law_served" "_law_served" (defArgs s__law_served) (defBody s__law_served) (defScope s__law_served) .none kV14 dc14 pm14 an14 cd14 ct14), sl14⟩)
    (c14 : PySem.W.codeIn K cd14 "_law_served" = true) (k14 : PySem.W.keepIn K (.ref f14) = true)
    {od15 an15 : Option Addr} {sl15 : Array (Option Value)} {oc15 kV15 dc15 pm15 cd15 ct15 : Value}
    (a15 : PySem.W.nsIn K mainGlobals "_law_lane" = some (some (.ref f15))) (l15 : K.lookup f15 = some ⟨oc15, od15, .func (PySem.W.fnOf "_law_lane" "_law_lane" (defArgs s__law_lane) (defBody s__law_lane) (defScope s__law_lane) .none kV15 dc15 pm15 an15 cd15 ct15), sl15⟩)
    (c15 : PySem.W.codeIn K cd15 "_law_lane" = true) (k15 : PySem.W.keepIn K (.ref f15) = true)
    {od16 an16 : Option Addr} {sl16 : Array (Option Value)} {oc16 kV16 dc16 pm16 cd16 ct16 : Value}
    (a16 : PySem.W.nsIn K mainGlobals "_law_far_right" = some (some (.ref f16))) (l16 : K.lookup f16 = some ⟨oc16, od16, .func (PySem.W.fnOf "_law_far_right" "_law_far_right" (defArgs s__law_far_right) (defBody s__law_far_right) (defScope s__law_far_right) .none kV16 dc16 pm16 an16 cd16 ct16), sl16⟩)
    (c16 : PySem.W.codeIn K cd16 "_law_far_right" = true) (k16 : PySem.W.keepIn K (.ref f16) = true)
    {od17 an17 : Option Addr} {sl17 : Array (Option Value)} {oc17 kV17 dc17 pm17 cd17 ct17 : Value}
    (a17 : PySem.W.nsIn K mainGlobals "_law_drawn_rows" = some (some (.ref f17))) (l17 : K.lookup f17 = some ⟨oc17, od17, .func (PySem.W.fnOf "_law_drawn_rows" "_law_drawn_rows" (defArgs s__law_drawn_rows) (defBody s__law_drawn_rows) (defScope s__law_drawn_rows) .none kV17 dc17 pm17 an17 cd17 ct17), sl17⟩)
    (c17 : PySem.W.codeIn K cd17 "_law_drawn_rows" = true) (k17 : PySem.W.keepIn K (.ref f17) = true)
    {od18 an18 : Option Addr} {sl18 : Array (Option Value)} {oc18 kV18 dc18 pm18 cd18 ct18 : Value}
    (a18 : PySem.W.nsIn K mainGlobals "law" = some (some (.ref f18))) (l18 : K.lookup f18 = some ⟨oc18, od18, .func (PySem.W.fnOf "law" "law" (defArgs s_law) (defBody s_law) (defScope s_law) .none kV18 dc18 pm18 an18 cd18 ct18), sl18⟩)
    (c18 : PySem.W.codeIn K cd18 "law" = true) (k18 : PySem.W.keepIn K (.ref f18) = true)
    (z0 : PySem.W.nsIn K mainGlobals "abs" = some none)
    (z1 : PySem.W.nsIn K mainGlobals "divmod" = some none)
    (z2 : PySem.W.nsIn K mainGlobals "enumerate" = some none)
    (z3 : PySem.W.nsIn K mainGlobals "isinstance" = some none)
    (z4 : PySem.W.nsIn K mainGlobals "len" = some none)
    (z5 : PySem.W.nsIn K mainGlobals "max" = some none)
    (z6 : PySem.W.nsIn K mainGlobals "min" = some none)
    (z7 : PySem.W.nsIn K mainGlobals "property" = some none)
    (z8 : PySem.W.nsIn K mainGlobals "range" = some none)
    (z9 : PySem.W.nsIn K mainGlobals "sum" = some none)
    {CLane : Addr} (cgLane : PySem.W.nsIn K mainGlobals "Lane" = some (some (.ref CLane))) (cBLane : clsB K CLane = true)
    (ciLane : PySem.W.findIn K (.ref CLane) "__init__" = some (some (.ref f0))) (mBLane : mkB K CLane f0 = true)
    (nBLane__least : noaB K CLane "_least" = true)
    (nBLane__drift : noaB K CLane "_drift" = true)
    (ma2 : PySem.W.findIn K (.ref CLane) "__call__" = some (some (.ref f2)))
    (dB2 : ocallB K CLane f2 = true)
    (ma4 : PySem.W.findIn K (.ref CLane) "__mul__" = some (some (.ref f4)))
    (dB4 : omulB K CLane f4 = true)
    {P1 : Addr} {Pr1 : List Value} (pa1 : PySem.W.findIn K (.ref CLane) "least" = some (some (.ref P1))) (pr1 : PySem.W.recIn K P1 "property" = some (.ref f1 :: Pr1)) (pB1 : propB K CLane "least" P1 f1 = true)
    {P5 : Addr} {Pr5 : List Value} (pa5 : PySem.W.findIn K (.ref CLane) "drift" = some (some (.ref P5))) (pr5 : PySem.W.recIn K P5 "property" = some (.ref f5 :: Pr5)) (pB5 : propB K CLane "drift" P5 f5 = true)
    (ma6 : PySem.W.findIn K (.ref CLane) "repeated" = some (some (.ref f6))) (hB6 : methB K CLane "repeated" f6 = true)
    : ∃ fd : FuncData, (∀ (s : Shared) (v : Value), BindsTo s fd ⟨[v], []⟩ [("_law_script", v)]) ∧ ∀ base : Heap, K.In base → base.Ns mainGlobals mg → Gd.Fn l.prog w K mg base CX0 7 fa fd ["_law_script"] (sp_law K) := by
  have e := hfa.symm.trans (PySem.W.mg_of X G a18)
  cases e
  have F0 := fun_mk (st := s_Lane___init__) l0 c0 k0
  have F1 := fun_mk (st := s_Lane_least) l1 c1 k1
  have b1 := F1.binds (ps := ["self"]) fun _ _ _ _ _ _ us hl => match us, hl with | [_], _ => rfl
  have F2 := fun_mk (st := s_Lane___call__) l2 c2 k2
  have b2 := F2.binds (ps := ["self", "wait"]) fun _ _ _ _ _ _ us hl => match us, hl with | [_, _], _ => rfl
  have F3 := fun_mk (st := s__lane_of) l3 c3 k3
  have b3 := F3.binds (ps := ["least", "drift"]) fun _ _ _ _ _ _ us hl => match us, hl with | [_, _], _ => rfl
  have F4 := fun_mk (st := s_Lane___mul__) l4 c4 k4
  have b4 := F4.binds (ps := ["self", "other"]) fun _ _ _ _ _ _ us hl => match us, hl with | [_, _], _ => rfl
  have F5 := fun_mk (st := s_Lane_drift) l5 c5 k5
  have b5 := F5.binds (ps := ["self"]) fun _ _ _ _ _ _ us hl => match us, hl with | [_], _ => rfl
  have F6 := fun_mk (st := s_Lane_repeated) l6 c6 k6
  have b6 := F6.binds (ps := ["self", "times"]) fun _ _ _ _ _ _ us hl => match us, hl with | [_, _], _ => rfl
  have F8 := fun_mk (st := s__sum_of_greater) l8 c8 k8
  have b8 := F8.binds (ps := ["floor", "base", "slope", "many"]) fun _ _ _ _ _ _ us hl => match us, hl with | [_, _, _, _], _ => rfl
  have F9 := fun_mk (st := s__sum_behind) l9 c9 k9
  have b9 := F9.binds (ps := ["whole", "ahead", "times", "initial"]) fun _ _ _ _ _ _ us hl => match us, hl with | [_, _, _, _], _ => rfl
  have F11 := fun_mk (st := s__law_bag) l11 c11 k11
  have b11 := F11.binds (ps := ["_law_script"]) fun _ _ _ _ _ _ us hl => match us, hl with | [_], _ => rfl
  have F12 := fun_mk (st := s__law_take) l12 c12 k12
  have b12 := F12.binds (ps := ["_law_bag_here", "_law_many"]) fun _ _ _ _ _ _ us hl => match us, hl with | [_, _], _ => rfl
  have F13 := fun_mk (st := s__law_number) l13 c13 k13
  have b13 := F13.binds (ps := ["_law_bag_here"]) fun _ _ _ _ _ _ us hl => match us, hl with | [_], _ => rfl
  have F14 := fun_mk (st := s__law_served) l14 c14 k14
  have b14 := F14.binds (ps := ["_law_bag_here", "_law_top"]) fun _ _ _ _ _ _ us hl => match us, hl with | [_, _], _ => rfl
  have F15 := fun_mk (st := s__law_lane) l15 c15 k15
  have b15 := F15.binds (ps := ["_law_rows"]) fun _ _ _ _ _ _ us hl => match us, hl with | [_], _ => rfl
  have F16 := fun_mk (st := s__law_far_right) l16 c16 k16
  have b16 := F16.binds (ps := ["_law_bag_here", "_law_rows", "_law_lane_here", "_law_many", "_law_wait_here"]) fun _ _ _ _ _ _ us hl => match us, hl with | [_, _, _, _, _], _ => rfl
  have F17 := fun_mk (st := s__law_drawn_rows) l17 c17 k17
  have b17 := F17.binds (ps := ["_law_bag_here"]) fun _ _ _ _ _ _ us hl => match us, hl with | [_], _ => rfl
  have F18 := fun_mk (st := s_law) l18 c18 k18
  have b18 := F18.binds (ps := ["_law_script"]) fun _ _ _ _ _ _ us hl => match us, hl with | [_], _ => rfl
  have T : Txt K mg (Ads.mk CLane P1 P5 f0 _ f1 _ f2 _ f3 _ f4 _ f5 _ f6 _ f7 _ f8 _ f9 _ f10 _ f11 _ f12 _ f13 _ f14 _ f15 _ f16 _ f17 _ fa _) := ⟨DefS.of1 l0 c0 (fun _ => rfl) (fun _ _ _ => rfl), DefM.of F1 b1, propB_ok pB1, DefM.of F2 b2, ⟨F3, PySem.W.mg_of X G a3, b3⟩, DefM.of F4 b4, DefM.of F5 b5, propB_ok pB5, DefM.of F6 b6, methB_ok hB6, DefK.of2 l7 c7 k7 (PySem.W.mg_of X G a7) kn7 ⟨_, rfl⟩ (fun _ _ _ _ _ _ _ _ _ => ⟨_, _, _, _, _, _, rfl, rfl, rfl⟩) (fun _ _ _ _ _ _ _ _ _ => rfl), ⟨F8, PySem.W.mg_of X G a8, b8⟩, ⟨F9, PySem.W.mg_of X G a9, b9⟩, DefK.of2 l10 c10 k10 (PySem.W.mg_of X G a10) kn10 ⟨_, rfl⟩ (fun _ _ _ _ _ _ _ _ _ => ⟨_, _, _, _, _, _, rfl, rfl, rfl⟩) (fun _ _ _ _ _ _ _ _ _ => rfl), ⟨F11, PySem.W.mg_of X G a11, b11⟩, ⟨F12, PySem.W.mg_of X G a12, b12⟩, ⟨F13, PySem.W.mg_of X G a13, b13⟩, ⟨F14, PySem.W.mg_of X G a14, b14⟩, ⟨F15, PySem.W.mg_of X G a15, b15⟩, ⟨F16, PySem.W.mg_of X G a16, b16⟩, ⟨F17, PySem.W.mg_of X G a17, b17⟩, ⟨F18, PySem.W.mg_of X G a18, b18⟩, PySem.W.mg_none_of X G z0, PySem.W.mg_none_of X G z1, PySem.W.mg_none_of X G z2, PySem.W.mg_none_of X G z3, PySem.W.mg_none_of X G z4, PySem.W.mg_none_of X G z5, PySem.W.mg_none_of X G z6, PySem.W.mg_none_of X G z7, PySem.W.mg_none_of X G z8, PySem.W.mg_none_of X G z9, PySem.W.mg_of X G cgLane, clsB_ok cBLane, mkB_ok mBLane, noaB_ok nBLane__least, noaB_ok nBLane__drift, ocallB_ok dB2, omulB_ok dB4⟩
  exact ⟨_, fun s v => .of_eq rfl, fun base _ _ => ok_law T⟩
end M
open PySem PySem.W PyProof.Rows
set_option maxRecDepth 100000 in
set_option maxHeartbeats 0 in
theorem PySem.Challenge.cw_rowqueue_k89_whole_far_waits_holds : PySem.Challenge.rw_rowqueue_k89_whole_far_waits.Holds := by
  w_on; o_law; k_head; (case hw => w_witness2)
  k_fill
  refine Gd.walk (l := PySem.Challenge.rw_rowqueue_k89_whole_far_waits) (n := 63) (k := 7) (x := "_law_script") (sp := fun w => M.sp_law _) rfl (by decide) rfl ⟨rfl, by decide, by decide⟩ (fun w h Y => PySem.W.kIn_of Y) ?F (fun _ _ a ns hl hS => ⟨a, ns, rfl, hS, hl, fun _ => rfl⟩)
  case F =>
    intro w mg fa h KX G hmg
    refine' M.all_mk KX G hmg ?l0 ?c0 ?k0 ?l1 ?c1 ?k1 ?l2 ?c2 ?k2 ?a3 ?l3 ?c3 ?k3 ?l4 ?c4 ?k4 ?l5 ?c5 ?k5 ?l6 ?c6 ?k6 ?a7 ?l7 ?kn7 ?c7 ?k7 ?a8 ?l8 ?c8 ?k8 ?a9 ?l9 ?c9 ?k9 ?a10 ?l10 ?kn10 ?c10 ?k10 ?a11 ?l11 ?c11 ?k11 ?a12 ?l12 ?c12 ?k12 ?a13 ?l13 ?c13 ?k13 ?a14 ?l14 ?c14 ?k14 ?a15 ?l15 ?c15 ?k15 ?a16 ?l16 ?c16 ?k16 ?a17 ?l17 ?c17 ?k17 ?a18 ?l18 ?c18 ?k18 ?z0 ?z1 ?z2 ?z3 ?z4 ?z5 ?z6 ?z7 ?z8 ?z9 ?cgLane ?cBLane ?ciLane ?mBLane ?nBLane__least ?nBLane__drift ?ma2 ?dB2 ?ma4 ?dB4 ?pa1 ?pr1 ?pB1 ?pa5 ?pr5 ?pB5 ?ma6 ?hB6
    (case cgLane => k_is)
    (case ciLane => k_is)
    (case ma2 => k_is)
    (case ma4 => k_is)
    (case pa1 => k_is)
    (case pr1 => k_is)
    (case pa5 => k_is)
    (case pr5 => k_is)
    (case ma6 => k_is)
    (case l0 => k_is)
    (case c0 => k_is)
    (case k0 => k_is)
    (case l1 => k_is)
    (case c1 => k_is)
    (case k1 => k_is)
    (case l2 => k_is)
    (case c2 => k_is)
    (case k2 => k_is)
    (case a3 => k_is)
    (case l3 => k_is)
    (case c3 => k_is)
    (case k3 => k_is)
    (case l4 => k_is)
    (case c4 => k_is)
    (case k4 => k_is)
    (case l5 => k_is)
    (case c5 => k_is)
    (case k5 => k_is)
    (case l6 => k_is)
    (case c6 => k_is)
    (case k6 => k_is)
    (case a7 => k_is)
    (case l7 => k_is)
    (case kn7 => k_is)
    (case c7 => k_is)
    (case k7 => k_is)
    (case a8 => k_is)
    (case l8 => k_is)
    (case c8 => k_is)
    (case k8 => k_is)
    (case a9 => k_is)
    (case l9 => k_is)
    (case c9 => k_is)
    (case k9 => k_is)
    (case a10 => k_is)
    (case l10 => k_is)
    (case kn10 => k_is)
    (case c10 => k_is)
    (case k10 => k_is)
    (case a11 => k_is)
    (case l11 => k_is)
    (case c11 => k_is)
    (case k11 => k_is)
    (case a12 => k_is)
    (case l12 => k_is)
    (case c12 => k_is)
    (case k12 => k_is)
    (case a13 => k_is)
    (case l13 => k_is)
    (case c13 => k_is)
    (case k13 => k_is)
    (case a14 => k_is)
    (case l14 => k_is)
    (case c14 => k_is)
    (case k14 => k_is)
    (case a15 => k_is)
    (case l15 => k_is)
    (case c15 => k_is)
    (case k15 => k_is)
    (case a16 => k_is)
    (case l16 => k_is)
    (case c16 => k_is)
    (case k16 => k_is)
    (case a17 => k_is)
    (case l17 => k_is)
    (case c17 => k_is)
    (case k17 => k_is)
    (case a18 => k_is)
    (case l18 => k_is)
    (case c18 => k_is)
    (case k18 => k_is)
    (case z0 => k_is)
    (case z1 => k_is)
    (case z2 => k_is)
    (case z3 => k_is)
    (case z4 => k_is)
    (case z5 => k_is)
    (case z6 => k_is)
    (case z7 => k_is)
    (case z8 => k_is)
    (case z9 => k_is)
    (case cBLane => kernel_rfl)
    (case mBLane => kernel_rfl)
    (case nBLane__least => kernel_rfl)
    (case nBLane__drift => kernel_rfl)
    (case dB2 => kernel_rfl)
    (case dB4 => kernel_rfl)
    (case pB1 => kernel_rfl)
    (case pB5 => kernel_rfl)
    (case hB6 => kernel_rfl)
