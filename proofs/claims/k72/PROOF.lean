import PyProof.Rows.All
import Wide.All
import OpenK.AllK
import Wide.FinOn
import PySem.Challenge.RW_deedworlds_k72_leads_told_and_judged
import HandS.Base
import HandS.Call
import HandS.List
import HandS.Comp
import HandS.Iter
import HandS.Evl
import HandS.Words
import KE.GoesMore
import KE.GoesEnum
import PyProof.ReprRoads
import PyProof.AutoIntOps
import HandS.Ends
import HandS.ForMost
import HandS.IsInst
import HandS.Zip
import HandS.TupAny
import HandS.Conv
import HandS.NoneIn
import HandS.More
import HandS.Wide
import HandS.Walk
import HandS.ReCall
import KE.KIndexOf
import PyProof.Rows.RegFStrParts
import KE.KDictPairs
import KE.KDictZip
import HandS.Dict
import HandS.Set
import HandS.SetFor
import HandS.TupSets
import PyProof.Rows.SortStr
import HandS.Strs
import HandS.Deep
import KE.DatumOrd
import PyProof.Rows.SetFrom
import KE.SortData
import HandS.Style
import KE.GoesZip
import PyProof.ListStr
import HandS.FStr
import HandS.DictComp
import HandS.ListItems
import HandS.Text
import KE.KEqDict
import KE.KDictItemsList
import HandS.TupMul
import HandS.Exc
import HandS.ExcOwn
import HandS.WordsExc
import KE.KExcIs
import HandS.ExcIs
import PyProof.RowDictHeap
import PyProof.ReprLen
import HandS.RaiseMore
import KE.KTupSum
import HandS.SortKw
import HandS.Sort
import HandS.Codes
set_option Elab.async false
set_option linter.all false
set_option maxRecDepth 100000
set_option maxHeartbeats  4000000
section
/-! a rule of our own over the hand layer: for .. in enumerate(a tuple) -/
namespace Dw
open PySem PySem.Spec PyProof.Rows L2
/-- the walker of a tuple, and what counts beside it, as enumerate lays them -/
abbrev tupWalker (tp : Addr) : Obj := { cls := .type "tuple_iterator", data := .fields #[.ref tp, .int 0 0] }
abbrev counter (wk : Addr) : Obj := { cls := .type "enumerate", data := .fields #[.none, .bool false, .ref wk, rawInt 0, .none, .none] }
theorem new_enumT (tp : Addr) (cells : Array Value) (cap : Nat) (dc : Option Addr) (osl : Array (Option Value)) :
    Meets (Builtin.«enumerate.__new__» ⟨[.type "enumerate", .ref tp], []⟩) (fun _ R s => s.heap.get? tp = some { cls := .type "tuple", dict := dc, data := .seq cells cap, slots := osl } ∧
      R (.ok (.ret (.ref (s.heap.push (tupWalker tp)).objs.size))) { s with heap := (s.heap.push (tupWalker tp)).push (counter s.heap.objs.size) }) := by
  refine .of_wp fun prog w A R s pre => ?_
  obtain ⟨hp, glo, dep, tk, os⟩ := s
  obtain ⟨at_, goal⟩ := pre
  have isSub := sub_enumerate
  have isTup : Heap.IsTuple (Shared.heap ⟨hp, glo, dep, tk, os⟩) tp cells := ⟨_, at_, rfl, cap, rfl⟩
  wp_walk using AutoSeq1.wpAny_loadPart' at_
  refine wpAny_stack_any (fun _ => wpAny_pure ?_)
  split
  case h_1 cl _ _ _ _ _ =>
    generalize (cl == Value.type "enumerate") = same
    cases same <;> (wp_walk using AutoSeq1.wpAny_loadPart' at_, wpAny_pyIter_tuple isTup; exact ⟨_, rfl, goal⟩)
  case h_2 =>
    wp_walk using AutoSeq1.wpAny_loadPart' at_, wpAny_pyIter_tuple isTup
    exact ⟨_, rfl, goal⟩
/-- what stands behind enumerate(tuple): two new objects, all else as it was -/
structure Laid (old new : Heap) (tp : Addr) : Prop where
  cnt : IsEnum new (old.objs.size + 1) old.objs.size 0 .none
  wlk : new.IsTupleIter old.objs.size tp 0
  kept : ∀ b o, old.get? b = some o → new.get? b = some o
theorem laid_mk (old : Heap) (tp : Addr) : Laid old ((old.push (tupWalker tp)).push (counter old.objs.size)) tp := by
  have size1 : (old.push (tupWalker tp)).objs.size = old.objs.size + 1 := Heap.size_push ..
  have last := Heap.get?_push_size (old.push (tupWalker tp)) (o := counter old.objs.size) rfl
  rw [size1] at last
  exact ⟨last, ⟨tupWalker tp, Heap.get?_push_of_some _ (Heap.get?_push_size _ rfl), rfl, rfl⟩, fun b o q => Heap.get?_push_of_some _ (Heap.get?_push_of_some _ q)⟩
theorem call_enumT {prog : Program} {w : World} {A : Around} {E Q : Value → Shared → Prop} {s : Shared} {tp : Addr} {cells : Array Value} (isTup : s.heap.IsTuple tp cells)
    (next : ∀ new, Laid s.heap new tp → Q (.ref (s.heap.objs.size + 1)) { s with heap := new }) : wpAny (model prog w) A (call (.type "enumerate") [.ref tp]) Q E s := by
  obtain ⟨⟨cl, dc, dat, osl⟩, at_, isT, cap, isSeq⟩ := isTup
  have e1 : cl = .type "tuple" := isT
  have e2 : dat = .seq cells cap := isSeq
  subst e1
  subst e2
  have made := laid_mk s.heap tp
  have size1 : (s.heap.push (tupWalker tp)).objs.size = s.heap.objs.size + 1 := Heap.size_push ..
  refine callType_new F.called_enumerate (by decide) (F.typeCall_enumerate_1 _) (F.newCall_enumerate_1 _) (fun ob => F.args_object_init_2 ob _) F.entry_enumerate_new (new_enumT tp cells cap dc osl) (And.intro at_ ?_)
  have e3 : Value.ref (s.heap.push (tupWalker tp)).objs.size = .ref (s.heap.objs.size + 1) := by rw [size1]
  show _ ∧ _
  rw [e3]
  exact And.intro ⟨_, made.cnt, rfl⟩ (next _ made)
/-- the tuple at tp: its items, each in a new pair behind its place -/
def IteT (K : PySem.W.Frag) (tp : Addr) : It :=
  ⟨fun i H => ∃ (xs : List V) (x : V), SqT K H tp xs ∧ xs[i]? = some x, fun i H v H' => ∃ pr x, v = .ref pr ∧ H pr = none ∧ H' = upd H pr (.tup [.int (i : Nat), x]) ∧ ∀ xs, SqT K H tp xs → xs[i]? = some x, fun i H => ∃ xs : List V, SqT K H tp xs ∧ xs.length ≤ i⟩
/-- how the two objects stand ahead of turn i -/
def StandsT (tp cn wk : Addr) (i : Nat) (hp : Heap) : Prop := (∃ old, IsEnum hp cn wk ((i : Nat) : Int) old) ∧ hp.IsTupleIter wk tp i ∧ cn ≠ wk ∧ tp ≠ cn ∧ tp ≠ wk
theorem two {b x y : Addr} {P : Addr → Prop} (hb : b ∈ [x, y]) (px : P x) (py : P y) : P b := by
  rcases List.mem_cons.mp hb with same | same
  · exact same ▸ px
  · exact (List.mem_singleton.mp same) ▸ py
theorem turn_enumT {P : Program} {w : World} {K : PySem.W.Frag} {elts : List Expr} {kk : Nat} {tpos : Pos} (tp cn wk : Addr) : Turn P w K (.Tuple elts kk tpos) (IteT K tp) [cn, wk] cn (StandsT tp cn wk) where
  mem := List.mem_cons_self ..
  obj := by
    intro i hp st b hb
    obtain ⟨⟨_, isE⟩, ⟨o, at_, _, dat⟩, _⟩ := st
    exact two (P := fun b => ∃ o, hp.get? b = some o ∧ ∀ v, o.data ≠ .cell v) hb ⟨_, isE, fun _ q => nomatch q⟩ ⟨o, at_, fun v q => by rw [dat] at q; cases q⟩
  keep := by
    intro i hp hp' st same
    obtain ⟨⟨old, isE⟩, isI, far⟩ := st
    exact ⟨⟨old, same cn (List.mem_cons_self ..) _ isE⟩, isI.at fun o q => same wk (List.mem_cons_of_mem _ (List.mem_singleton.mpr rfl)) o q, far⟩
  item := by
    intro X eP ew eK calm i pins s σ H E I free st here
    subst eP ew eK
    obtain ⟨⟨old, isE⟩, isI, ne1, ne2, ne3⟩ := st
    obtain ⟨xs, x, isT, atx⟩ := here
    obtain ⟨cells, rel, isTup, _⟩ := I.tuple isT
    obtain ⟨u, atu, ru⟩ := rel.get atx
    have low : i < cells.toArray.size := by
      rw [List.size_toArray]
      exact (List.getElem?_eq_some_iff.mp atu).1
    have inCn : cn < s.heap.objs.size := Heap.lt_size isE
    have inWk : wk < s.heap.objs.size := let ⟨_, q, _⟩ := isI; Heap.lt_size q
    have far : cn ∉ [wk, tp] := fun z => by
      rcases List.mem_cons.mp z with one | one
      · exact ne1 one
      · exact ne2 (List.mem_singleton.mp one).symm
    have quiet : X.A.in1.handled = none := I.ok.hd calm
    refine wpAny_pyNext_enum_itemD (Draws.tuple (prog := X.prog) (w := X.w) quiet wk tp ne3 cells.toArray) isE ⟨isI, isTup⟩ low ne1 far fun v hp1 tk isv out st1 pair _ same => ?_
    have ev : v = u := by
      have q : cells.toArray[i]? = some v := isv
      rw [List.getElem?_toArray, atu] at q
      cases q
      rfl
    subst ev
    refine ⟨_, rfl, wpAny_letOwnedTupleGo_enum (s := { s with heap := hp1, toks := tk + 1 }) out fun hp2 isE2 but => ?_⟩
    have pair2 : hp2.get? s.heap.objs.size = some { cls := .type "tuple", data := .seq #[.int i tk, v] } := (but.2 _ (Nat.ne_of_gt inCn)).trans pair
    have fine : ObjOk X.prog X.w (upd H s.heap.objs.size (.tup [.int (i : Nat), x])) hp2 s.heap.objs.size (.tup [.int (i : Nat), x]) :=
      And.intro (show 2 ≤ sizeLine by decide) ⟨[.int i tk, v], .cons ⟨_, rfl⟩ (.cons ru .nil), _, pair2, rfl, _, rfl⟩
    have still : ∀ b ob, b ∉ [cn, wk] → s.heap.get? b = some ob → hp2.get? b = some ob := fun b ob nb q => by
      have n1 : b ≠ cn := fun z => nb (z ▸ List.mem_cons_self ..)
      have n2 : b ≠ wk := fun z => nb (z ▸ List.mem_cons_of_mem _ (List.mem_singleton.mpr rfl))
      rw [but.2 b n1]
      exact same b ob n1 n2 q
    have J := I.turnedNew (ch := [cn, wk]) (t' := tk + 1) still free (Nat.le_refl s.heap.objs.size) fine
    have up : (i : Int) + 1 = ((i + 1 : Nat) : Int) := (Int.natCast_succ i).symm
    rw [up] at isE2
    refine ⟨.ref s.heap.objs.size, _, J, rfl, ⟨_, x, rfl, I.hok.fresh (Nat.le_refl _), rfl, fun ys isY => ?_⟩, ⟨⟨v, isE2⟩, st1.1.at fun o q => (but.2 wk ne1.symm).trans q, ne1, ne2, ne3⟩, fun b hb => ?_⟩
    · rw [I.tuple_inj isY isT]
      exact atx
    · have inB : b < s.heap.objs.size := two (P := fun b => b < s.heap.objs.size) hb inCn inWk
      rw [upd_ne (Nat.ne_of_lt inB)]
      exact (free b hb).1
  done := by
    intro X eP ew eK calm i pins s σ H E I free st over
    subst eP ew eK
    obtain ⟨⟨old, isE⟩, isI, ne1, ne2, ne3⟩ := st
    obtain ⟨xs, isT, short⟩ := over
    obtain ⟨cells, rel, isTup, _⟩ := I.tuple isT
    obtain ⟨g0, g1, g2, g3, g4, g5⟩ := free wk (List.mem_cons_of_mem _ (List.mem_singleton.mpr rfl))
    have many : cells.toArray.size ≤ i := by
      rw [List.size_toArray, ← rel.length]
      exact short
    have quiet : X.A.in1.handled = none := I.ok.hd calm
    have D : Draws X.prog X.w X.A.in1 wk [wk, tp] i (fun _ _ => False) (fun j hp => j = i ∧ hp.IsTupleIter wk tp i ∧ hp.IsTuple tp cells.toArray) :=
      { live := fun _ _ q => let ⟨o, z, _⟩ := q.2.1; ⟨o, z⟩
        frame := fun _ _ _ q same => ⟨q.1, q.2.1.at fun o z => same wk (List.mem_cons_self ..) o z, q.2.2.at fun o z => same tp (List.mem_cons_of_mem _ (List.mem_singleton.mpr rfl)) o z⟩
        item := fun _ _ _ _ less q _ => absurd q.1 (Nat.ne_of_lt less)
        done := fun _ _ _ q ends => wpAny_nextOf_tuple_end quiet q.2.1 q.2.2 (Array.getElem?_eq_none many) ends }
    exact wpAny_pyNext_enum_endD D isE ⟨rfl, isI, isTup⟩ fun hp1 ext => ⟨rfl, I.turned (t' := s.toks) (fun b o nb q => ext b o nb q) g0 g1 g3 g4 g5⟩
  self := by
    intro A i s Q E st q
    obtain ⟨⟨_, isE⟩, _⟩ := st
    exact wpAny_pyIter_enum isE q
def iEnumT (K : PySem.W.Frag) (ta : TA) : TI := fun σ H R => ta σ H fun vs H1 => ∃ tp xs, vs = [.ref tp] ∧ SqT K H1 tp xs ∧ R (IteT K tp) H1
theorem pi_enumT {X : Cx} {e : Expr} {ta : TA} {p pos tpos : Pos} {elts : List Expr} {kk : Nat} (glob : Gl X "enumerate") (none_ : X.mg "enumerate" = none) (arg : PA X [e] ta) (star : starEach [e] X.env = [(false, eval e X.env)] := by rfl) :
    PI X (.Tuple elts kk tpos) (.Call (.Name "enumerate" p) [e] [] pos) (iEnumT X.K ta) := by
  constructor
  intro pins s σ H R I q0
  have given := arg.run pos pins s σ H _ I q0
  refine Call_ (ld_blt I glob none_ boot_enumerate (callWith_type1 (thn given fun us s1 got => ?_) star rfl))
  obtain ⟨vs, H1, J, rel, tp, xs, isOne, isT, q1⟩ := got
  subst isOne
  obtain ⟨u, isU, ru⟩ := vals1 rel
  subst isU
  cases (show u = Value.ref tp from ru)
  obtain ⟨cells, _, isTup, _⟩ := J.tuple isT
  have inTp : tp < s1.heap.objs.size := let ⟨_, at_, _⟩ := (show s1.heap.IsTuple tp cells.toArray from isTup); Heap.lt_size at_
  refine call_enumT isTup fun new made => wpAny_pyIter_enum made.cnt ?_
  have J2 : Inv X pins σ H1 { s1 with heap := new } := J.kept (t' := s1.toks) made.kept
  have stands : StandsT tp (s1.heap.objs.size + 1) s1.heap.objs.size 0 new := ⟨⟨.none, made.cnt⟩, made.wlk, Nat.succ_ne_self _, Nat.ne_of_lt (Nat.lt_succ_of_lt inTp), Nat.ne_of_lt inTp⟩
  refine ⟨s1.heap.objs.size + 1, [s1.heap.objs.size + 1, s1.heap.objs.size], _, _, H1, rfl, J2, turn_enumT tp _ _, stands, fun b hb => ?_, q1⟩
  have late : s1.heap.objs.size ≤ b := two (P := fun b => s1.heap.objs.size ≤ b) hb (Nat.le_succ _) (Nat.le_refl _)
  exact J.fpOk late (J.hok.fresh late)
end Dw
end
section
namespace Dw
open PySem PySem.Spec PyProof.Rows L2
/-! ### repr of data, where nothing is being shown around -/
/-! ### ** of a base that op_pow does not take -/
theorem op_powG {b e : Int} (h0 : 0 < e) (h1 : 1 < b) (hz : Builtin.Int.intTooBig (((Builtin.Int.intBits b : Nat) : Int) * e) = false) {X : Cx} :
    OpR X (binaryOp .Pow) (fun x y H Q => x = .int b ∧ y = .int e ∧ Q (.int (b ^ e.toNat)) H) := by
  intro pins s σ H x y v u Q I rx ry h
  obtain ⟨rfl, rfl, q⟩ := h
  obtain ⟨t1, rfl⟩ := (show ∃ t, v = Value.int b t from rx)
  obtain ⟨t2, rfl⟩ := (show ∃ t, u = Value.int e t from ry)
  refine AutoIntOps.pow_4 (by omega) (by simp; omega) (by simp; omega) (by simp; omega) (by rw [hz]; decide) ?_
  exact ⟨.int (b ^ e.toNat), H, I.tok _, ⟨_, rfl⟩, q⟩
end Dw
end
section
/-! the law's own def, entered from the caller's place itself (so that it is known there that nothing is being shown) -/
namespace Dw
open PySem PySem.Spec PyProof.Rows L2
/-- a def of one parameter, entered at a told place A -/
theorem enter1 {P : Program} {w : World} {K : PySem.W.Frag} {mg : Str → Option Value} {base : Heap} {k : Nat} {x qual : Str} {st : Stmt} {f : Addr} {fd : FuncData} {N : List Str} {A : Around} {outer : List Env} {s : Shared} {H : Hp} {v : V} {u : Value} {Q : VK}
    (F : Fun K qual qual st f fd) (S : FnScope N [x] (defScope st)) (bd : BindsTo s fd ⟨[u], []⟩ [(x, u)]) (room : Room (k + 1) A) (e0 : Env0 P w K mg base A outer s H) (rv : RelV v u)
    (body : ∀ cdv : Value, ∃ t, PSs (cxOf CX0 P w K mg base N qual (defScope st) f cdv A outer s H E0).nox (defBody st) t ∧ t { nx := fun _ H' => Q .non H', rt := Q } (start N [v]) H) :
    codeAny (model P w) A (.call (.ref f) ⟨[u], []⟩) (CR CX0 outer P w H s Q E0) s := by
  obtain ⟨oc, od, kV, doc, pm, an, cdv, ct, osl, efd, look, code⟩ := F.ex
  subst efd
  obtain ⟨t, der, rd⟩ := body cdv
  have kept : ∀ b o, base.get? b = some o → s.heap.get? b = some o := fun b o e => (e0.bs b o e).1
  have inK : K.In s.heap := e0.mod.kin.keeps kept
  refine codeAny_call_function room.depth (inK f _ look) rfl S.co S.gen rfl (PySem.W.codeRec_of inK code) (bd _ _ _ _ ?_)
  have kinds : ∀ y ∈ [(x, u)], (defScope st).names.lookup y.1 = some .local ∨ ((defScope st).names.lookup y.1 = some .cell ∧ ((cellsFrom (s.heap.objs.size + 1) (defScope st).names []).lookup y.1).isSome = true) := by
    intro y hy
    rw [List.mem_singleton.mp hy]
    cases S.par x (List.mem_singleton.mpr rfl) with
    | inl one => exact Or.inl one
    | inr one => exact Or.inr ⟨one, PySem.W.cellsFrom_some _ _ _ (Or.inl one)⟩
  refine wpAny_newFunctionEnv_cells S.kind kinds (fun env isEnv s1 ic => ?_)
  subst isEnv
  have noLim : s.heap.NoLimit := e0.mod.nolimit.keeps kept
  refine ⟨noLim.keeps ic.toInCall.keep, codeAny_func ?_⟩
  have start0 : Inv (cxOf CX0 P w K mg base N qual (defScope st) f cdv A outer s H E0) [] (start N [v]) H s1 := inv_start S room.hd e0 rfl (.cons rv .nil) ic
  refine wpAny_mono (der.nox.run [] s1 (start N [v]) H _ start0 rd) (fun flow s2 done => ?_) (fun _ _ bad => bad)
  match flow, done with
  | .next, ⟨_, H2, inv, q⟩ => exact ⟨.non, H2, inv.os, inv.bare, inv.base, inv.hok, rfl, q⟩
  | .ret _, ⟨v2, _, H2, inv, rel, q⟩ => exact ⟨v2, H2, inv.os, inv.bare, inv.base, inv.hok, rel, q⟩
  | .brk, ⟨_, _, _, q⟩ => exact q.elim
  | .cont, ⟨_, _, _, q⟩ => exact q.elim
/-- how the script stands ahead of the law: tracked as locked, or one of the written part's own -/
def scriptHp (K : PySem.W.Frag) (a : Addr) (ob : Obj) (ns : List Int) : Hp := fun b => if b = a ∧ K.lookup a = none then some (.frz ob (.lst (ns.map V.int))) else none
section
variable {K : PySem.W.Frag} {a : Addr} {ob : Obj} {ns : List Int}
theorem scriptHp_some {b : Addr} {u : HO} (h : scriptHp K a ob ns b = some u) : b = a ∧ K.lookup a = none ∧ u = .frz ob (.lst (ns.map V.int)) := by
  unfold scriptHp at h
  split at h
  · rename_i c
    exact ⟨c.1, c.2, (Option.some.inj h).symm⟩
  · cases h
theorem scriptHp_at (h : K.lookup a = none) : scriptHp K a ob ns a = some (.frz ob (.lst (ns.map V.int))) := if_pos ⟨rfl, h⟩
theorem scriptHp_no {b : Addr} (h : b ≠ a) : scriptHp K a ob ns b = none := if_neg fun c => h c.1
end
/-- the end of a law row whose def is walked from the caller's place -/
theorem walkG {l : PySem.W.OpenLaw} {n k : Nat} {q : Program} {loose : List Str} {XP : (Str → Option Value) → Heap → Prop} {YP : World → Heap → Prop} {d : DefRec} {K : Params → PySem.W.Frag} {x : Str}
    (hn : l.most = some n) (hn2 : n ≤ sizeLine) (hdf : d.params.defaults = []) (room : Room (k + 1) callerA) (hY : ∀ (w : World) (h : Heap), YP w h → (K w.params).In h)
    (F : ∀ (w : World) (mg : Str → Option Value) (fa : Addr) (h : Heap),
      (K w.params).In h → h.Ns mainGlobals mg → mg d.name = some (.ref fa) →
      ∃ (fd : FuncData) (st : Stmt) (N : List Str), Fun (K w.params) d.name d.name st fa fd ∧ FnScope N [x] (defScope st) ∧ (∀ (s : Shared) (u : Value), BindsTo s fd ⟨[u], []⟩ [(x, u)]) ∧
        ∀ (base : Heap) (s : Shared) (H : Hp) (cdv : Value) (a : Addr) (ns : List Int), (K w.params).In base → base.Ns mainGlobals mg → ns.length ≤ n → SqL (K w.params) H a (ns.map V.int) →
          ∃ t, PSs (cxOf CX0 l.prog w (K w.params) mg base N d.name (defScope st) fa cdv callerA [] s H E0).nox (defBody st) t ∧ t { nx := fun _ _ => False, rt := fun v _ => v = .bl true } (start N [.ref a]) H) :
    PySem.W.WalkO q loose XP YP l.row.toRowW d [] (fun g us => PySem.call g us) := by
  refine Att.attach_call hn hdf (fun w _ s mg mb fa _ _ _ _ a vs ns G Y _ _ _ gl isL nums len gens => ?_)
  have inK := hY w s.heap Y
  obtain ⟨fd, st, N, Fn, S, bd, body⟩ := F w mg fa s.heap inK G.T.g gl
  let H : Hp := scriptHp (K w.params) a { cls := .type "list", data := .seq vs.toArray } ns
  have rel : Vals (ns.map V.int) vs := vals_ints nums
  have small : vs.length ≤ sizeLine := by rw [nums.length]; exact Nat.le_trans len hn2
  have okH : HOk l.prog w H s.heap := by
    intro b u e
    obtain ⟨rfl, _, rfl⟩ := scriptHp_some e
    exact ⟨isL, by rw [List.length_map]; exact Nat.le_trans len hn2, vs, _, rel, isL⟩
  have seq : SqL (K w.params) H a (ns.map V.int) := by
    cases lk : (K w.params).lookup a with
    | none => exact Or.inl (Or.inr ⟨_, scriptHp_at lk⟩)
    | some o =>
      have same : o = { cls := .type "list", data := .seq vs.toArray } := Option.some.inj ((inK a o lk).symm.trans isL)
      exact Or.inr ⟨o, vs.toArray, _, lk, by rw [same], by rw [same], by rw [same], by rw [List.size_toArray]; exact small, by simpa using rel⟩
  have freeK : ∀ b o, (K w.params).lookup b = some o → H b = none := by
    intro b o e
    by_cases hb : b = a
    · subst hb
      exact if_neg fun c => by rw [c.2] at e; cases e
    · exact scriptHp_no hb
  have freeD : ∀ b o es ep, s.heap.get? b = some o → o.data = .dict es ep → H b = none := by
    intro b o es ep e dat
    by_cases hb : b = a
    · subst hb
      rw [isL] at e
      cases e
      cases dat
    · exact scriptHp_no hb
  have names : ∀ b m, s.heap.Ns b m → (hidT s.heap H).Ns b m := fun b m ⟨o, es, ep, e, dat, r⟩ => ⟨o, es, ep, hidT_get e (freeD b o es ep e dat), dat, r⟩
  have inB : (K w.params).In (hidT s.heap H) := fun b o e => hidT_get (inK b o e) (freeK b o e)
  have noL : (hidT s.heap H).NoLimit := by
    obtain ⟨mc, c1, c2⟩ := G.T.nolimit
    exact ⟨mc, names _ _ c1, c2⟩
  have e0 : Env0 l.prog w (K w.params) mg (hidT s.heap H) callerA [] s H :=
    { frames := rfl, mod := ⟨inB, names _ _ G.T.g, ⟨mb, names _ _ G.T.b, G.T.builtins⟩, noL⟩, bs := fun b o e => of_hidT e, bsz := Nat.le_of_eq (hidT_size _ _), funs := trivial, frf := fun b hb => absurd (show b ∈ ([] : List Addr) from hb) (by simp), hok := okH, bare := .of_eq gens }
  have run := enter1 (P := l.prog) (v := .ref a) (Q := fun v _ => v = .bl true) Fn S (bd s (.ref a)) room e0 rfl (fun cdv => by
    obtain ⟨t, t1, t2⟩ := body (hidT s.heap H) s H cdv a ns inB (names _ _ G.T.g) len seq
    refine ⟨t, t1, ?_⟩
    have no : (fun (_ : L2.St) (_ : Hp) => (V.non = V.bl true)) = fun _ _ => False := by
      funext _ _
      exact propext ⟨fun z => V.noConfusion z, False.elim⟩
    show t { nx := fun (_ : L2.St) (_ : Hp) => V.non = V.bl true, rt := fun v _ => v = .bl true } (start N [.ref a]) H
    rw [no]
    exact t2)
  refine codeAny_mono run (fun r s2 done => ?_)
  match r, done with
  | .error _, bad => exact bad.elim
  | .ok .next, bad => exact bad.elim
  | .ok .brk, bad => exact bad.elim
  | .ok .cont, bad => exact bad.elim
  | .ok (.ret _), ⟨_, H2, os, bare, un, ok2, rr, isT⟩ =>
    subst isT
    cases (show _ = Value.bool true from rr)
    refine ⟨rfl, OldK.of_keep (fun b o e => ?_), os, bare⟩
    cases tr : H b with
    | none => exact un.keep b o e tr (fun z => absurd (show b ∈ ([] : List Addr) from z) (by simp)) (by simp)
    | some u =>
      obtain ⟨hb, _, hu⟩ := scriptHp_some tr
      subst hb hu
      have still := un.frzs _ _ _ tr
      rw [isL] at e
      cases e
      exact (ok2 _ _ still).1
end Dw
end
section
/-! what a reading evaluates to: more words over Evl; tuples of natural numbers; defs by their names -/
namespace Dw
open PySem PySem.Spec PyProof.Rows L2 Evl
/-! ### defs by their names -/
/-- a def of the text behind the top, all of its parameters without defaults -/
structure Df (K : PySem.W.Frag) (mg : Str → Option Value) (x : Str) (st : Stmt) (ps : List Str) : Prop where
  ex : ∃ (f : Addr) (fd : FuncData), Fun K x x st f fd ∧ mg x = some (.ref f) ∧ Binds K fd ps []
/-- a def that keeps a promise -/
structure Cl (P : Program) (w : World) (K : PySem.W.Frag) (mg : Str → Option Value) (base : Heap) (k : Nat) (x : Str) (sp : Sp) : Prop where
  ex : ∃ (f : Addr) (fd : FuncData) (ps : List Str), FnOk P w K mg base CX0 k f fd ps sp ∧ mg x = some (.ref f) ∧ PySem.W.keepIn K (.ref f) = true ∧ Binds K fd ps []
theorem cl_of {P : Program} {w : World} {K : PySem.W.Frag} {mg : Str → Option Value} {base : Heap} {x : Str} {st : Stmt} {N ps : List Str} {k : Nat} {sp : Sp} (D : Df K mg x st ps) (S : FnScope N ps (defScope st)) (len : ∀ vs H Q E, sp vs H Q E → vs.length = ps.length)
    (body : ∀ (f : Addr) (cdv : Value) (A : Around) (outer : List Env) (s : Shared) (H : Hp) (vs : List V) (Q : VK) (E : XK), Room k (A.deeper (envOfC x (defScope st) s.heap.objs.size f cdv)) → sp vs H Q E →
      ∃ t, PSs (cxOf CX0 P w K mg base N x (defScope st) f cdv A outer s H E).nox (defBody st) t ∧ t { nx := fun _ H' => Q .non H', rt := Q } (start N vs) H) : Cl P w K mg base (k + 1) x sp := by
  obtain ⟨f, fd, F, m, b⟩ := D.ex
  exact ⟨f, fd, ps, F.ok S len (fun cdv A outer s H vs Q E hr h => body f cdv A outer s H vs Q E hr h), m, F.kp, b⟩
theorem pe_cl {X : Cx} {k j : Nat} {x : Str} {sp : Sp} {p pos : Pos} {e : Expr} {es : List Expr} {t : TA} (c : Cl X.prog X.w X.K X.mg X.base k x sp) (hr : Room j X.A) (hk : k ≤ j) (hg : Gl X x) (ha : PA X (e :: es) t)
    (dbg : (x == ("__debug__" : Str)) = false := by decide) (str : starEach (e :: es) X.env = (false, eval e X.env) :: starEach es X.env := by rfl) (bck : (backTo pos (starEach es X.env)).any (·.1) = false := by rfl) :
    PE X (.Call (.Name x p) (e :: es) [] pos) (tCall sp [] E0 t) := by
  obtain ⟨f, fd, ps, F, m, kp, b⟩ := c.ex
  exact pe_call F (hr.mono hk) hg m kp b .nil pass0 ha dbg str bck
/-- a pure promise: of some a what must hold, and what comes back, all that stood left as it was -/
def spX {α : Type} (pre : α → List V → Hp → Prop) (post : α → V → Hp → Prop) : Sp := fun vs H Q _ => ∃ a, pre a vs H ∧ ∀ v H', Ex H H' → post a v H' → Q v H'
/-! ### values of any kind, by what holds of them -/
def EvP (te : TE) (σ : L2.St) (H : Hp) (P : V → Hp → Prop) : Prop := ∀ H1, Ex H H1 → ∀ Q : VK, (∀ v H2, Ex H1 H2 → P v H2 → Q v H2) → te σ H1 Q
section
variable {K : PySem.W.Frag} {σ : L2.St} {H H' : Hp} {ta tb te : TE} {x y z v : V} {P : V → Hp → Prop}
theorem EvP.mono (e : Ex H H') (h : EvP te σ H P) : EvP te σ H' P := fun H1 a Q q => h H1 (e.trans a) Q q
theorem EvP.imp {P' : V → Hp → Prop} (h : EvP te σ H P) (i : ∀ v H', Ex H H' → P v H' → P' v H') : EvP te σ H P' := fun H1 e Q q => h H1 e Q fun v H2 e2 p => q v H2 e2 (i v H2 (e.trans e2) p)
theorem ep_ev (h : Ev te σ H v) (p : ∀ H', Ex H H' → P v H') : EvP te σ H P := fun H1 e Q q => h H1 e Q fun H2 e2 => q v H2 e2 (p H2 (e.trans e2))
theorem ev_ep (h : EvP te σ H fun u _ => u = v) : Ev te σ H v := fun H1 e Q q => h H1 e Q fun u H2 e2 p => by subst p; exact q H2 e2
/-- a call by a pure promise -/
theorem ep_call {α : Type} {pre : α → List V → Hp → Prop} {post : α → V → Hp → Prop} (a : α) {vs : List V} {E : XK} {ta : TA} (h : EvA ta σ H vs) (hp : ∀ H1, Ex H H1 → pre a vs H1) : EvP (tCall (spX pre post) [] E ta) σ H (post a) := fun H1 e Q q =>
  h H1 e _ fun H2 e2 => by
    rw [List.append_nil]
    exact ⟨a, hp H2 (e.trans e2), fun v H3 e3 p => q v H3 (e2.trans e3) p⟩
theorem ev_callV {α : Type} {pre : α → List V → Hp → Prop} {post : α → V → Hp → Prop} (a : α) {vs : List V} {E : XK} {ta : TA} (h : EvA ta σ H vs) (hp : ∀ H1, Ex H H1 → pre a vs H1) (hv : ∀ u H', post a u H' → u = v) : Ev (tCall (spX pre post) [] E ta) σ H v :=
  ev_ep ((ep_call a h hp).imp fun u H' _ p => hv u H' p)
/-! isinstance -/
theorem ev_isi {c : V} {t u : Value} {b : Bool} (ha : Ev ta σ H x) (hc : Ev tb σ H c) (k : ClsV c u) (ty : ∀ H1, Ex H H1 → TyX K H1 x t) (e : PySem.W.kitOne K t u = some b) : Ev (tCB (rIsi K) (tCons ta (tCons tb tNil))) σ H (.bl b) := fun H1 e1 Q q =>
  ha H1 e1 _ fun H2 e2 => hc H2 (e1.trans e2) _ fun H3 e3 => ⟨x, c, t, u, b, rfl, k, ty H3 ((e1.trans e2).trans e3), e, q H3 (e2.trans e3)⟩
theorem tyx_int (i : Int) : TyX K H (.int i) (.type "int") := .base (.int i)
theorem tyx_str (s : Str) : TyX K H (.str s) (.type "str") := .base (.str s)
theorem tyx_bl (b : Bool) : TyX K H (.bl b) (.type "bool") := .base (.bl b)
theorem tyx_non : TyX K H .non (.type "NoneType") := .base .non
theorem tyx_tup {a : Addr} {xs : List V} (h : SqT K H a xs) : TyX K H (.ref a) (.type "tuple") := by
  rcases h with (h | ⟨o, h⟩) | ⟨o, its, n, lk, c, _⟩
  · exact .base (.tup h)
  · exact .fTuple h
  · exact .kTuple lk c
theorem kit_tt : PySem.W.kitOne K (.type "tuple") (.type "tuple") = some true := kit_ty (by decide +kernel)
theorem kit_ii : PySem.W.kitOne K (.type "int") (.type "int") = some true := kit_ty (by decide +kernel)
theorem kit_ib : PySem.W.kitOne K (.type "int") (.type "bool") = some false := kit_ty (by decide +kernel)
theorem kit_ss : PySem.W.kitOne K (.type "str") (.type "str") = some true := kit_ty (by decide +kernel)
/-! len -/
theorem ev_lenT {p : Addr} {xs : List V} (ha : Ev ta σ H (.ref p)) (h : SqT K H p xs) : Ev (tCB (rLenS K) (tCons ta tNil)) σ H (.int (xs.length : Int)) := fun H1 e Q q =>
  ha H1 e _ fun H2 e2 => ⟨p, xs, rfl, Or.inr (ex_t (e.trans e2) h), q H2 e2⟩
def rLenTx : List V → Hp → VK → Prop := fun xs H Q => ∃ z, xs = [.str z] ∧ z.length ≤ sizeLine ∧ Q (.int z.length) H
theorem ev_lenS {z : Str} (ha : Ev ta σ H (.str z)) (h : z.length ≤ 100000) : Ev (tCB rLenTx (tCons ta tNil)) σ H (.int (z.length : Int)) := fun H1 e Q q =>
  ha H1 e _ fun H2 e2 => ⟨z, rfl, sz_of h, q H2 e2⟩
/-- a < b < c and the like -/
theorem ev_chain {r r' : R2} {tc : TE} {x y z : V} {a b : Bool} (ha : Ev ta σ H x) (hb : Ev tb σ H y) (hc : a = true → Ev tc σ H z) (h1 : RV r x y H (.bl a)) (h2 : a = true → RV r' y z H (.bl b)) : Ev (tChain r r' ta tb tc) σ H (.bl (a && b)) := fun H1 e Q q =>
  ha H1 e _ fun H2 e2 => hb H2 (e.trans e2) _ fun H3 e3 => h1 H3 ((e.trans e2).trans e3) _ fun H4 e4 => ⟨a, rfl, by
    have e14 := (e2.trans e3).trans e4
    cases a with
    | true =>
      show tc σ H4 _
      refine hc rfl H4 (e.trans e14) _ fun H5 e5 => ?_
      exact h2 rfl H5 ((e.trans e14).trans e5) Q fun H6 e6 => q H6 ((e14.trans e5).trans e6)
    | false =>
      show Q (.bl false) H4
      exact q H4 e14⟩
theorem et_val {b : Bool} (h : Ev te σ H (.bl b)) : EvT (tB te) σ H b := et_B h
theorem et_isN {x : V} (h : Ev ta σ H x) : EvT (tTest (tOp (fun x y H Q => y = .non ∧ Q (.bl (!decide (x = .non))) H) ta (tC .non))) σ H (!decide (x = .non)) := fun H1 e Q q =>
  h H1 e _ fun H2 e2 => ⟨rfl, _, rfl, q H2 e2⟩
end
/-! ### tuples of natural numbers -/
abbrev vi (k : Nat) : V := .int (k : Int)
theorem atI_vi {xs : List V} {k : Nat} {v : V} (h : xs[k]? = some v) : atI xs (k : Int) = some v := atI_nat h
/-- all tuples that stood stand (lists may have changed) -/
def ET (K : PySem.W.Frag) (H H' : Hp) : Prop := ∀ a xs, SqT K H a xs → SqT K H' a xs
theorem ET.refl {K : PySem.W.Frag} {H : Hp} : ET K H H := fun _ _ h => h
theorem ET.trans {K : PySem.W.Frag} {H H1 H2 : Hp} (a : ET K H H1) (b : ET K H1 H2) : ET K H H2 := fun p xs h => b p xs (a p xs h)
theorem Ex.et {K : PySem.W.Frag} {H H' : Hp} (e : Evl.Ex H H') : ET K H H' := fun _ _ h => ex_t e h
theorem ET.upd {K : PySem.W.Frag} {H H' : Hp} {l : Addr} {xs ys : List V} (e : ET K H H') (h : H' l = some (.lst xs)) : ET K H (upd H' l (.lst ys)) := fun a zs q => by
  rcases e a zs q with (q | ⟨o, q⟩) | q
  · have ne : a ≠ l := fun z => by rw [z, h] at q; cases q
    exact .inl (.inl (by rw [upd_ne ne]; exact q))
  · have ne : a ≠ l := fun z => by rw [z, h] at q; cases q
    exact .inl (.inr ⟨o, by rw [upd_ne ne]; exact q⟩)
  · exact .inr q
def Nats (K : PySem.W.Frag) (H : Hp) (v : V) (ns : List Nat) : Prop := ∃ a, v = .ref a ∧ SqT K H a (ns.map vi)
theorem Nats.et {K : PySem.W.Frag} {H H' : Hp} {v : V} {ns : List Nat} (e : ET K H H') (h : Nats K H v ns) : Nats K H' v ns := let ⟨a, q, s⟩ := h; ⟨a, q, e _ _ s⟩
theorem Nats.ex {K : PySem.W.Frag} {H H' : Hp} {v : V} {ns : List Nat} (e : Evl.Ex H H') (h : Nats K H v ns) : Nats K H' v ns := h.et (Dw.Ex.et e)
theorem paired_imp {α β : Type} {R S : α → β → Prop} (h : ∀ a b, R a b → S a b) : ∀ {xs : List α} {ys : List β}, Paired R xs ys → Paired S xs ys
  | _, _, .nil => .nil
  | _, _, .cons a b => .cons (h _ _ a) (paired_imp h b)
theorem paired_get {α β : Type} {R : α → β → Prop} : ∀ {xs : List α} {ys : List β} {i : Nat} {y : β}, Paired R xs ys → ys[i]? = some y → ∃ x, xs[i]? = some x ∧ R x y
  | _, _, _, _, .nil, h => by simp at h
  | _, _, 0, _, .cons a _, h => by
    have e := Option.some.inj h
    subst e
    exact ⟨_, rfl, a⟩
  | _, _, i + 1, y, .cons _ b, h => by
    obtain ⟨x, e, r⟩ := paired_get (i := i) b h
    exact ⟨x, e, r⟩
theorem paired_len {α β : Type} {R : α → β → Prop} : ∀ {xs : List α} {ys : List β}, Paired R xs ys → xs.length = ys.length
  | _, _, .nil => rfl
  | _, _, .cons _ b => congrArg (· + 1) (paired_len b)
theorem paired_snoc {α β : Type} {R : α → β → Prop} {x : α} {y : β} (r : R x y) : ∀ {xs : List α} {ys : List β}, Paired R xs ys → Paired R (xs ++ [x]) (ys ++ [y])
  | _, _, .nil => .cons r .nil
  | _, _, .cons a b => .cons a (paired_snoc r b)
/-- a tuple of tuples of natural numbers -/
def Tabs (K : PySem.W.Frag) (H : Hp) (v : V) (ts : List (List Nat)) : Prop := ∃ a vs, v = .ref a ∧ SqT K H a vs ∧ Paired (Nats K H) vs ts
theorem Tabs.et {K : PySem.W.Frag} {H H' : Hp} {v : V} {ts : List (List Nat)} (e : ET K H H') (h : Tabs K H v ts) : Tabs K H' v ts := let ⟨a, vs, q, s, p⟩ := h; ⟨a, vs, q, e _ _ s, paired_imp (fun _ _ n => n.et e) p⟩
theorem Tabs.ex {K : PySem.W.Frag} {H H' : Hp} {v : V} {ts : List (List Nat)} (e : Evl.Ex H H') (h : Tabs K H v ts) : Tabs K H' v ts := h.et (Dw.Ex.et e)
/-- a deed; a signature -/
def Deed (K : PySem.W.Frag) (H : Hp) (v : V) (p : Str × Nat) : Prop := ∃ b, v = .ref b ∧ SqT K H b [.str p.1, vi p.2]
theorem Deed.et {K : PySem.W.Frag} {H H' : Hp} {v : V} {p : Str × Nat} (e : ET K H H') (h : Deed K H v p) : Deed K H' v p := let ⟨b, q, s⟩ := h; ⟨b, q, e _ _ s⟩
def Sig (K : PySem.W.Frag) (H : Hp) (v : V) (sg : List (Str × Nat)) : Prop := ∃ a vs, v = .ref a ∧ SqT K H a vs ∧ Paired (Deed K H) vs sg
theorem Sig.et {K : PySem.W.Frag} {H H' : Hp} {v : V} {sg : List (Str × Nat)} (e : ET K H H') (h : Sig K H v sg) : Sig K H' v sg := let ⟨a, vs, q, s, p⟩ := h; ⟨a, vs, q, e _ _ s, paired_imp (fun _ _ n => n.et e) p⟩
theorem Sig.ex {K : PySem.W.Frag} {H H' : Hp} {v : V} {sg : List (Str × Nat)} (e : Evl.Ex H H') (h : Sig K H v sg) : Sig K H' v sg := h.et (Dw.Ex.et e)
/-- a model: its size and its tables -/
def Mdl (K : PySem.W.Frag) (H : Hp) (v : V) (n : Nat) (ts : List (List Nat)) : Prop := ∃ a u, v = .ref a ∧ SqT K H a [vi n, u] ∧ Tabs K H u ts
theorem Mdl.et {K : PySem.W.Frag} {H H' : Hp} {v : V} {n : Nat} {ts : List (List Nat)} (e : ET K H H') (h : Mdl K H v n ts) : Mdl K H' v n ts := let ⟨a, u, q, s, p⟩ := h; ⟨a, u, q, e _ _ s, p.et e⟩
theorem Mdl.ex {K : PySem.W.Frag} {H H' : Hp} {v : V} {n : Nat} {ts : List (List Nat)} (e : Evl.Ex H H') (h : Mdl K H v n ts) : Mdl K H' v n ts := h.et (Dw.Ex.et e)
end Dw
end
section
/-! a def that the module holds under another name too -/
namespace Dw
open PySem PySem.Spec PyProof.Rows L2 Evl
structure DfQ (K : PySem.W.Frag) (mg : Str → Option Value) (x y : Str) (st : Stmt) (ps : List Str) : Prop where
  ex : ∃ (f : Addr) (fd : FuncData), Fun K y y st f fd ∧ mg x = some (.ref f) ∧ Binds K fd ps []
theorem cl_ofQ {P : Program} {w : World} {K : PySem.W.Frag} {mg : Str → Option Value} {base : Heap} {x y : Str} {st : Stmt} {N ps : List Str} {k : Nat} {sp : Sp} (D : DfQ K mg x y st ps) (S : FnScope N ps (defScope st)) (len : ∀ vs H Q E, sp vs H Q E → vs.length = ps.length)
    (body : ∀ (f : Addr) (cdv : Value) (A : Around) (outer : List Env) (s : Shared) (H : Hp) (vs : List V) (Q : VK) (E : XK), Room k (A.deeper (envOfC y (defScope st) s.heap.objs.size f cdv)) → sp vs H Q E →
      ∃ t, PSs (cxOf CX0 P w K mg base N y (defScope st) f cdv A outer s H E).nox (defBody st) t ∧ t { nx := fun _ H' => Q .non H', rt := Q } (start N vs) H) : Cl P w K mg base (k + 1) x sp := by
  obtain ⟨f, fd, F, m, b⟩ := D.ex
  exact ⟨f, fd, ps, F.ok S len (fun cdv A outer s H vs Q E hr h => body f cdv A outer s H vs Q E hr h), m, F.kp, b⟩
end Dw
end
section
/-! the mathematics of renaming, over plain lists of natural numbers -/
namespace M20
/-- the k-th, 0 where there is none -/
abbrev g (l : List Nat) (k : Nat) : Nat := l.getD k 0
theorem g_eq {l : List Nat} {k : Nat} (h : k < l.length) : l[k]? = some (g l k) := by
  show l[k]? = some (l.getD k 0)
  rw [List.getD_eq_getElem?_getD, List.getElem?_eq_getElem h]
  rfl
theorem ext {l m : List Nat} (h : l.length = m.length) (e : ∀ k, k < l.length → g l k = g m k) : l = m := by
  apply List.ext_getElem? 
  intro k
  by_cases hk : k < l.length
  · rw [g_eq hk, g_eq (h ▸ hk), e k hk]
  · rw [List.getElem?_eq_none_iff.mpr (by omega), List.getElem?_eq_none_iff.mpr (by omega)]
/-- an order of the size n -/
structure Ord (n : Nat) (o : List Nat) : Prop where
  len : o.length = n
  low : ∀ k, k < n → g o k < n
  inj : ∀ j k, j < n → k < n → g o j = g o k → j = k
/-- what is called k -/
def bk (o : List Nat) : List Nat := (List.range o.length).map fun k => o.idxOf k
theorem len_le : ∀ (l m : List Nat), l.Nodup → (∀ x ∈ l, x ∈ m) → l.length ≤ m.length
  | [], _, _, _ => Nat.zero_le _
  | x :: l, m, nd, sub => by
    have hx : x ∈ m := sub x List.mem_cons_self
    have h1 := List.nodup_cons.mp nd
    have h2 := len_le l (m.erase x) h1.2 (fun y hy => (List.mem_erase_of_ne (show y ≠ x from fun e => h1.1 (by rw [← e]; exact hy))).mpr (sub y (List.mem_cons_of_mem _ hy)))
    rw [List.length_erase_of_mem hx] at h2
    have : 0 < m.length := List.length_pos_of_mem hx
    rw [List.length_cons]
    omega
/-- by the one and then by the other -/
def cmp (a b : List Nat) : List Nat := a.map fun k => g b k
/-! a table of a deed of p places over n numbers -/
structure Tab (n p : Nat) (t : List Nat) : Prop where
  len : t.length = n ^ p
  low : ∀ k, k < n ^ p → g t k < n
/-- the place from which the renamed table has its s-th number -/
def src (n p : Nat) (b : List Nat) (s : Nat) : Nat := if p = 0 then 0 else if p = 1 then g b s else g b (s / n) * n + g b (s % n)
def ren (n p : Nat) (o t : List Nat) : List Nat := (List.range (n ^ p)).map fun s => g o (g t (src n p (bk o) s))
/-! the law's own way: each number of the table put at its place -/
def spot (n p : Nat) (o : List Nat) (k : Nat) : Nat := g o (k % n) * (if 0 < p then 1 else 0) + g o (k / n % n) * n * (if p = 2 then 1 else 0)
/-- the first k numbers put -/
def led (n p : Nat) (o t : List Nat) : Nat → List Nat
  | 0 => t
  | k + 1 => (led n p o t k).set (spot n p o k) (g o (g t k))
end M20
end
section
/-! loops and comprehensions over anything that is walked; statements by what holds of a value -/
namespace Dw
open PySem PySem.Spec PyProof.Rows L2 Evl
section
variable {K : PySem.W.Frag} {σ : L2.St} {H H' : Hp} {ta tb te : TE} {t : TT} {x y z v : V} {P : V → Hp → Prop} {D : Ends} {tu tz : TS} {g : TG}
/-! ### statements -/
theorem s_asgP {i : Nat} (h : EvP te σ H P) (k : ∀ v H1, Ex H H1 → P v H1 → D.nx (σ.set i (some v)) H1) : tAsg te (gName i) D σ H := h H (Ex.refl H) _ fun v H1 e p => k v H1 e p
theorem q_asgP {i : Nat} (h : EvP te σ H P) (k : ∀ v H1, Ex H H1 → P v H1 → tz D (σ.set i (some v)) H1) : tSeq (tAsg te (gName i)) tz D σ H := s_asgP (D := { D with nx := tz D }) h k
theorem s_retP (h : EvP te σ H P) (k : ∀ v H1, Ex H H1 → P v H1 → D.rt v H1) : tRet te D σ H := h H (Ex.refl H) _ fun v H1 e p => k v H1 e p
/-- xs.append(e), e by what holds of it -/
theorem s_appP {l : Addr} {xs : List V} (hl : H l = some (.lst xs)) (ha : Ev ta σ H (.ref l)) (h : EvP te σ H P) (hz : xs.length < 100000) (k : ∀ v H1, Ex H H1 → P v H1 → D.nx σ (upd H1 l (.lst (xs ++ [v])))) :
    tDrop (tBM K "list" rAppend ta (tCons te tNil)) D σ H := by
  refine ha H (Ex.refl H) _ fun H1 e1 => ?_
  exact
  ⟨Or.inl ⟨rfl, xs, sq_of (e1 l _ hl)⟩, h H1 e1 _ fun v H2 e2 p => ⟨l, xs, v, rfl, rfl, e2 l _ (e1 l _ hl), sz_lt hz, k v H2 (e1.trans e2) p⟩⟩
/-! ### all -/
theorem ev_all {bs : List Bool} (h : EvL te σ H (bs.map V.bl)) : Ev (tCB (rAll K) (tCons te tNil)) σ H (.bl (bs.all id)) := fun H1 e Q q =>
  h H1 e _ fun p H2 _ e2 hp => ⟨p, bs, rfl, sq_of hp, q H2 e2⟩
/-! ### comprehensions -/
theorem et_yes : EvT tYes σ H true := fun H1 _ _ q => q H1 (Ex.refl H1)
/-- one for over anything whose turns leave the heap as it was -/
theorem el_lcIt {J : It} {n : Nat} {G : Hp → Prop} {Y : Nat → Hp → V → Hp → Prop} {wi : TI} {Px : Nat → V → Prop} {j : Nat} {vs : List Nat} (w : Walk J n G Y)
    (hw0 : ∀ H0, Ex H H0 → ∀ R : It → Hp → Prop, (∀ H1, Ex H0 H1 → R J H1) → wi σ H0 R) (hG : ∀ H1, Ex H H1 → G H1) (hY : ∀ i H x H', Y i H x H' → H' = H ∧ Px i x)
    (f : Nat → Bool) (u : Nat → V) (hn : n ≤ 40000) (hwp : ∀ x, wipe ((wipe σ vs).set j (some x)) vs = wipe σ vs)
    (ht : ∀ i x H1, Ex H H1 → i < n → Px i x → EvT t ((wipe σ vs).set j (some x)) H1 (f i)) (he : ∀ i x H1, Ex H H1 → i < n → Px i x → f i = true → Ev te ((wipe σ vs).set j (some x)) H1 (u i)) :
    EvL (tLc wi (gName j) t te vs) σ H (given n f u) := fun H0 e Q q => hw0 H0 e _ fun H1 e1 Dl hD =>
  lc_it w (Cw H1 f u Dl) ⟨hD, Ex.new hD, upd_same⟩ (fun i H2 _ p => hG H2 ((e.trans e1).trans p.2.1)) (fun i x H2 H3 hi p y => by
    obtain ⟨rfl, px⟩ := hY i H2 x H3 y
    exact ⟨hwp x, cw_turn p (by omega) (ht i x H1 (e.trans e1) hi px) (fun hf => he i x H1 (e.trans e1) hi px hf)⟩)
    (fun H2 p => q Dl H2 (fresh_back e1 p.1) (e1.trans p.2.1) p.2.2)
theorem given_all (n : Nat) (u : Nat → V) : given n (fun _ => true) u = (List.range n).map u := by
  unfold given
  rw [List.filter_eq_self.mpr (fun _ _ => rfl)]
/-- .. without a test -/
theorem el_lcAll {J : It} {n : Nat} {G : Hp → Prop} {Y : Nat → Hp → V → Hp → Prop} {wi : TI} {Px : Nat → V → Prop} {j : Nat} {vs : List Nat} (w : Walk J n G Y)
    (hw0 : ∀ H0, Ex H H0 → ∀ R : It → Hp → Prop, (∀ H1, Ex H0 H1 → R J H1) → wi σ H0 R) (hG : ∀ H1, Ex H H1 → G H1) (hY : ∀ i H x H', Y i H x H' → H' = H ∧ Px i x)
    (u : Nat → V) (hn : n ≤ 40000) (hwp : ∀ x, wipe ((wipe σ vs).set j (some x)) vs = wipe σ vs) (he : ∀ i x H1, Ex H H1 → i < n → Px i x → Ev te ((wipe σ vs).set j (some x)) H1 (u i)) :
    EvL (tLc wi (gName j) tYes te vs) σ H ((List.range n).map u) := by
  have h := el_lcIt w hw0 hG hY (fun _ => true) u hn hwp (fun _ _ _ _ _ _ => et_yes) (fun i x H1 e hi px _ => he i x H1 e hi px)
  rw [given_all] at h
  exact h
theorem w_str {z : Str} (h : Ev te σ H (.str z)) : ∀ H0, Ex H H0 → ∀ R : It → Hp → Prop, (∀ H1, Ex H0 H1 → R (Its z) H1) → iStr te σ H0 R := fun H0 e R r => h H0 e _ fun H1 e1 => ⟨z, rfl, r H1 e1⟩
theorem w_tup {a : Addr} {xs : List V} (h : Ev te σ H (.ref a)) (hx : SqT K H a xs) : ∀ H0, Ex H H0 → ∀ R : It → Hp → Prop, (∀ H1, Ex H0 H1 → R (Itt K a) H1) → iTup K te σ H0 R := fun H0 e R r => h H0 e _ fun H1 e1 => ⟨a, rfl, ⟨xs, ex_t (e.trans e1) hx⟩, r H1 e1⟩
theorem w_rng {ta : TA} {n : Nat} (h : EvA ta σ H [vi n]) (hn : n ≤ 40000) : ∀ H0, Ex H H0 → ∀ R : It → Hp → Prop, (∀ H1, Ex H0 H1 → R (Itr 0 n) H1) → iRng1 ta σ H0 R := fun H0 e R r => h H0 e _ fun H1 e1 => ⟨n, rfl, by omega, by omega, r H1 e1⟩
/-- over a tuple, a value for each item -/
theorem el_lcT {a : Addr} {xs : List V} {tl : TE} {j : Nat} {vs : List Nat} (h : Ev tl σ H (.ref a)) (hx : SqT K H a xs) (u : Nat → V) (hn : xs.length ≤ 40000) (hwp : ∀ x, wipe ((wipe σ vs).set j (some x)) vs = wipe σ vs)
    (he : ∀ i x H1, Ex H H1 → xs[i]? = some x → Ev te ((wipe σ vs).set j (some x)) H1 (u i)) : EvL (tLc (iTup K tl) (gName j) tYes te vs) σ H ((List.range xs.length).map u) :=
  el_lcAll walk_tup (w_tup h hx) (fun H1 e => ex_t e hx) (Px := fun i x => xs[i]? = some x) (fun i H x H' y => y) u hn hwp (fun i x H1 e _ px => he i x H1 e px)
theorem el_lcS {z : Str} {tl : TE} {j : Nat} {vs : List Nat} (h : Ev tl σ H (.str z)) (u : Nat → V) (hn : z.cps.size ≤ 40000) (hwp : ∀ x, wipe ((wipe σ vs).set j (some x)) vs = wipe σ vs)
    (he : ∀ i c H1, Ex H H1 → z.cps[i]? = some c → Ev te ((wipe σ vs).set j (some (.str ⟨#[c]⟩))) H1 (u i)) : EvL (tLc (iStr tl) (gName j) tYes te vs) σ H ((List.range z.cps.size).map u) :=
  el_lcAll walk_str (w_str h) (fun _ _ => trivial) (Px := fun i x => ∃ c, z.cps[i]? = some c ∧ x = .str ⟨#[c]⟩) (fun i H x H' y => y) u hn hwp (fun i x H1 e _ ⟨c, hc, hx⟩ => by subst hx; exact he i c H1 e hc)
/-! ### loops that give pairs -/
theorem walk_enumT {a : Addr} {xs : List V} : Walk (IteT K a) xs.length (fun H => SqT K H a xs) (YPair (fun i => some (vi i)) (fun i => xs[i]?)) := by
  refine ⟨fun i H hi q => ⟨xs, xs[i], q, List.getElem?_eq_getElem hi⟩, fun H q => ⟨xs, q, Nat.le_refl _⟩, fun i H v H' _ q y => ?_⟩
  obtain ⟨T, x, h1, h2, h3, h4⟩ := y
  exact ⟨T, vi i, x, h1, h2, h3, rfl, h4 xs q⟩
theorem q_enumT {a : Addr} {xs : List V} {ta : TA} {j1 j2 : Nat} (h : EvA ta σ H [.ref a]) (hx : SqT K H a xs) (Pv : Nat → L2.St → Hp → Prop) (h0 : ∀ H1, Ex H H1 → Pv 0 σ H1) (hl : ∀ i σ' H', i ≤ xs.length → Pv i σ' H' → SqT K H' a xs)
    (hs : ∀ i x σ' H' H'', xs[i]? = some x → Pv i σ' H' → Ex H' H'' → tu { D with nx := Pv (i + 1), ct := Pv (i + 1), bk := tz D } ((σ'.set j1 (some (vi i))).set j2 (some x)) H'') (hd : ∀ σ' H', Pv xs.length σ' H' → tz D σ' H') :
    tSeq (tFor (iEnumT K ta) (gTup K 2 (gCons (gName j1) (gCons (gName j2) gNil))) tu) tz D σ H :=
  h H (Ex.refl H) _ fun H1 e => ⟨a, xs, rfl, ex_t e hx, for_it (D := { D with nx := tz D }) walk_enumT Pv (h0 H1 e) hl (fun i v σ' H2 H3 hi p y => by
    obtain ⟨T, x1, x2, rfl, nT, rfl, e1, e2⟩ := y
    cases e1
    exact ⟨T, _, rfl, st_of upd_same, rfl, _, _, rfl, _, _, rfl, rfl, hs i x2 σ' H2 _ e2 p (Ex.new nT)⟩) hd⟩
theorem s_enumT {a : Addr} {xs : List V} {ta : TA} {j1 j2 : Nat} (h : EvA ta σ H [.ref a]) (hx : SqT K H a xs) (Pv : Nat → L2.St → Hp → Prop) (h0 : ∀ H1, Ex H H1 → Pv 0 σ H1) (hl : ∀ i σ' H', i ≤ xs.length → Pv i σ' H' → SqT K H' a xs)
    (hs : ∀ i x σ' H' H'', xs[i]? = some x → Pv i σ' H' → Ex H' H'' → tu { D with nx := Pv (i + 1), ct := Pv (i + 1), bk := D.nx } ((σ'.set j1 (some (vi i))).set j2 (some x)) H'') (hd : ∀ σ' H', Pv xs.length σ' H' → D.nx σ' H') :
    tFor (iEnumT K ta) (gTup K 2 (gCons (gName j1) (gCons (gName j2) gNil))) tu D σ H :=
  h H (Ex.refl H) _ fun H1 e => ⟨a, xs, rfl, ex_t e hx, for_it walk_enumT Pv (h0 H1 e) hl (fun i v σ' H2 H3 hi p y => by
    obtain ⟨T, x1, x2, rfl, nT, rfl, e1, e2⟩ := y
    cases e1
    exact ⟨T, _, rfl, st_of upd_same, rfl, _, _, rfl, _, _, rfl, rfl, hs i x2 σ' H2 _ e2 p (Ex.new nT)⟩) hd⟩
/-- enumerate of a list -/
theorem q_enumL {a : Addr} {xs : List V} {ta : TA} {j1 j2 : Nat} (h : EvA ta σ H [.ref a]) (hx : SqL K H a xs) (Pv : Nat → L2.St → Hp → Prop) (h0 : ∀ H1, Ex H H1 → Pv 0 σ H1) (hl : ∀ i σ' H', i ≤ xs.length → Pv i σ' H' → SqL K H' a xs)
    (hs : ∀ i x σ' H' H'', xs[i]? = some x → Pv i σ' H' → Ex H' H'' → tu { D with nx := Pv (i + 1), ct := Pv (i + 1), bk := tz D } ((σ'.set j1 (some (vi i))).set j2 (some x)) H'') (hd : ∀ σ' H', Pv xs.length σ' H' → tz D σ' H') :
    tSeq (tFor (iEnum K ta) (gTup K 2 (gCons (gName j1) (gCons (gName j2) gNil))) tu) tz D σ H :=
  h H (Ex.refl H) _ fun H1 e => ⟨a, xs, rfl, ex_l e hx, for_it (D := { D with nx := tz D }) walk_enum Pv (h0 H1 e) hl (fun i v σ' H2 H3 hi p y => by
    obtain ⟨T, x1, x2, rfl, nT, rfl, e1, e2⟩ := y
    cases e1
    exact ⟨T, _, rfl, st_of upd_same, rfl, _, _, rfl, _, _, rfl, rfl, hs i x2 σ' H2 _ e2 p (Ex.new nT)⟩) hd⟩
end
end Dw
end
section
/-! comprehensions of two fors; new tuples of lists; lists made and changed -/
namespace Dw
open PySem PySem.Spec PyProof.Rows L2 Evl
section
variable {K : PySem.W.Frag} {σ : L2.St} {H H' : Hp} {ta tb te : TE} {t : TT} {x y z v : V} {P : V → Hp → Prop} {D : Ends} {tu tz : TS} {g : TG}
/-- tuple(a new list) -/
def rTupOf (K : PySem.W.Frag) : List V → Hp → VK → Prop := fun xs H Q => ∃ p ys, xs = [.ref p] ∧ ((SqL K H p ys ∧ ∀ l, H l = none → Q (.ref l) (upd H l (.tup ys))) ∨ (SqT K H p ys ∧ Q (.ref p) H))
theorem eu_tupN {xs : List V} (h : EvL te σ H xs) : EvU (tCB (rTupOf K) (tCons te tNil)) σ H xs := fun H1 e Q q =>
  h H1 e _ fun p H2 _ e2 hp => ⟨p, xs, rfl, .inl ⟨sq_of hp, fun l nl => q l _ (fresh_back e2 nl) (e2.trans (Ex.new nl)) upd_same⟩⟩
/-- tuple(a list that stands) -/
theorem eu_tupL {xs : List V} {p : Addr} (h : Ev te σ H (.ref p)) (hp : SqL K H p xs) : EvU (tCB (rTupOf K) (tCons te tNil)) σ H xs := fun H1 e Q q =>
  h H1 e _ fun H2 e2 => ⟨p, xs, rfl, .inl ⟨ex_l (e.trans e2) hp, fun l nl => q l _ (fresh_back e2 nl) (e2.trans (Ex.new nl)) upd_same⟩⟩
end
end Dw
end
section
/-! zip of two tuples; tuples of values by what holds of them -/
namespace Dw
open PySem PySem.Spec PyProof.Rows L2 Evl RZ
section
variable {K : PySem.W.Frag} {σ : L2.St} {H H' : Hp} {ta tb te : TE} {t : TT} {x y z v : V} {P : V → Hp → Prop} {D : Ends} {tu tz : TS} {g : TG}
theorem walk_zipT {a b : Addr} {xs ys : List V} (hl : xs.length = ys.length) : Walk (ItzT K a b) xs.length (fun H => SqT K H a xs ∧ SqT K H b ys) (YPair (fun i => xs[i]?) (fun i => ys[i]?)) := by
  refine ⟨fun i H hi q => ⟨xs, ys, xs[i], ys[i]'(by rw [← hl]; exact hi), q.1, q.2, List.getElem?_eq_getElem hi, List.getElem?_eq_getElem (by rw [← hl]; exact hi)⟩, fun H q => ⟨xs, ys, q.1, q.2, .inl (Nat.le_refl _)⟩, fun i H v H' _ q y => ?_⟩
  obtain ⟨T, x1, x2, h1, h2, h3, h4, h5⟩ := y
  exact ⟨T, x1, x2, h1, h2, h3, h4 xs q.1, h5 ys q.2⟩
theorem q_zipT {a b : Addr} {xs ys : List V} {ta : TA} (h : EvA ta σ H [.ref a, .ref b]) (hx : SqT K H a xs) (hy : SqT K H b ys) (hl : xs.length = ys.length) (Pv : Nat → L2.St → Hp → Prop) (h0 : ∀ H1, Ex H H1 → Pv 0 σ H1) (hk : ∀ i σ' H', i ≤ xs.length → Pv i σ' H' → SqT K H' a xs ∧ SqT K H' b ys)
    (hs : ∀ i x y T σ' H', xs[i]? = some x → ys[i]? = some y → Pv i σ' H' → H' T = none → g (.ref T) σ' (upd H' T (.tup [x, y])) fun σ2 H2 => tu { D with nx := Pv (i + 1), ct := Pv (i + 1), bk := tz D } σ2 H2) (hd : ∀ σ' H', Pv xs.length σ' H' → tz D σ' H') :
    tSeq (tFor (iZipA K ta) g tu) tz D σ H :=
  h H (Ex.refl H) _ fun H1 e => ⟨a, b, xs, ys, rfl, .inr ⟨ex_t e hx, ex_t e hy, for_it (D := { D with nx := tz D }) (walk_zipT hl) Pv (h0 H1 e) hk (fun i v σ' H2 H3 hi p y => by
    obtain ⟨T, x1, x2, rfl, nT, rfl, e1, e2⟩ := y
    exact hs i x1 x2 T σ' H2 e1 e2 p nT) hd⟩⟩
end
end Dw
end
section
/-! a new tuple told with its own object (so that its methods may be called); tuple.index of ints -/
namespace Dw
open PySem PySem.Spec PyProof.Rows L2 Evl
/-! readings opened by one step -/
section
variable {σ : L2.St} {H : Hp} {ta tb te : TE} {D : Ends} {g : TG}
theorem do_cons {tr : TA} {Q : List V → Hp → Prop} (h : ta σ H fun x H1 => tr σ H1 fun xs H2 => Q (x :: xs) H2) : tCons ta tr σ H Q := h
theorem do_nil {Q : List V → Hp → Prop} (h : Q [] H) : tNil σ H Q := h
theorem do_op {r : R2} {Q : VK} (h : ta σ H fun x H1 => tb σ H1 fun y H2 => r x y H2 Q) : tOp r ta tb σ H Q := h
theorem do_tup {t : TA} {Q : VK} (h : t σ H fun xs H1 => xs.length ≤ sizeLine ∧ ∀ p, H1 p = none → Q (.ref p) (upd H1 p (.tup xs))) : tTup t σ H Q := h
theorem do_lst {t : TA} {Q : VK} (h : t σ H fun xs H1 => xs.length ≤ sizeLine ∧ ∀ p, H1 p = none → Q (.ref p) (upd H1 p (.lst xs))) : tLst t σ H Q := h
theorem do_cb {r : List V → Hp → VK → Prop} {t : TA} {Q : VK} (h : t σ H fun vs H1 => r vs H1 Q) : tCB r t σ H Q := h
theorem do_test {Q : Bool → Hp → Prop} (h : te σ H fun x H' => ∃ k, x = .bl k ∧ Q k H') : tTest te σ H Q := h
theorem do_ret (h : te σ H D.rt) : tRet te D σ H := h
theorem do_asg (h : te σ H fun x H1 => g x σ H1 D.nx) : tAsg te g D σ H := h
theorem do_if {c : TT} {t u : TS} (h : c σ H fun b H1 => if b = true then t D σ H1 else u D σ H1) : tIfS c t u D σ H := h
theorem do_ev {v : V} {Q : VK} (h : Ev te σ H v) (k : ∀ H1, Ex H H1 → Q v H1) : te σ H Q := h H (Ex.refl H) Q k
theorem do_evL {xs : List V} {Q : VK} (h : EvL te σ H xs) (k : ∀ p H1, H p = none → Ex H H1 → H1 p = some (.lst xs) → Q (.ref p) H1) : te σ H Q := h H (Ex.refl H) Q k
theorem do_evP {P : V → Hp → Prop} {Q : VK} (h : EvP te σ H P) (k : ∀ v H1, Ex H H1 → P v H1 → Q v H1) : te σ H Q := h H (Ex.refl H) Q k
end
section
variable {X : Cx}
theorem ints_of : ∀ {ns : List Int} {us : List Value}, Vals (ns.map V.int) us → IntsAre us ns
  | [], _, .nil => .nil
  | n :: ns, _, .cons (b := u) r t => by
    obtain ⟨tk, e⟩ := (show ∃ t, u = Value.int n t from r)
    subst e
    exact .cons n tk (ints_of t)
end
end Dw
end
section
/-! the mathematics of own orders, over plain lists of natural numbers -/
namespace M25
open M20
/-! begins of orders: the numbers called so far, in the order of their new names -/
/-- a begin of length L -/
structure Bg (n L : Nat) (b : List Nat) : Prop where
  len : b.length = L
  low : ∀ x ∈ b, x < n
  nd : b.Nodup
def free (n : Nat) (b : List Nat) : List Nat := (List.range n).filter fun k => !decide (k ∈ b)
theorem mem_free {n k : Nat} {b : List Nat} : k ∈ free n b ↔ k < n ∧ k ∉ b := by
  unfold free
  rw [List.mem_filter, List.mem_range]
  constructor
  · rintro ⟨a, c⟩
    exact ⟨a, fun z => by rw [decide_eq_true z] at c; cases c⟩
  · rintro ⟨a, c⟩
    exact ⟨a, by rw [decide_eq_false c]; rfl⟩
def ext1 (n : Nat) (bs : List (List Nat)) : List (List Nat) := bs.flatMap fun b => (free n b).map fun k => b ++ [k]
def allc (n : Nat) : Nat → List (List Nat) → List (List Nat)
  | 0, bs => bs
  | k + 1, bs => allc n k (ext1 n bs)
/-- rows of begins, all of one length -/
structure Bgs (n L : Nat) (bs : List (List Nat)) : Prop where
  each : ∀ b ∈ bs, Bg n L b
  nd : bs.Nodup
theorem Bg.snoc {n L k : Nat} {b : List Nat} (h : Bg n L b) (hk : k < n) (m : k ∉ b) : Bg n (L + 1) (b ++ [k]) := ⟨by rw [List.length_append, h.len]; rfl, fun x hx => by
  rcases List.mem_append.mp hx with z | z
  · exact h.low x z
  · rw [List.mem_singleton.mp z]; exact hk, by
  rw [List.nodup_append]
  refine ⟨h.nd, List.nodup_cons.mpr ⟨(by intro z; cases z), List.nodup_nil⟩, fun a ha c hc e => ?_⟩
  rw [List.mem_singleton.mp hc] at e
  exact m (e ▸ ha)⟩
theorem snoc_inj {b c : List Nat} {x y : Nat} (h : b ++ [x] = c ++ [y]) : b = c ∧ x = y := by
  have := List.append_inj' h rfl
  exact ⟨this.1, by simpa using this.2⟩
theorem free_nd (n : Nat) (b : List Nat) : (free n b).Nodup := List.Pairwise.filter _ List.nodup_range
theorem ext1_mem {n : Nat} {bs : List (List Nat)} {c : List Nat} : c ∈ ext1 n bs ↔ ∃ b ∈ bs, ∃ k, k < n ∧ k ∉ b ∧ c = b ++ [k] := by
  unfold ext1
  rw [List.mem_flatMap]
  constructor
  · rintro ⟨b, hb, hc⟩
    obtain ⟨k, hk, rfl⟩ := List.mem_map.mp hc
    obtain ⟨a, d⟩ := mem_free.mp hk
    exact ⟨b, hb, k, a, d, rfl⟩
  · rintro ⟨b, hb, k, a, d, rfl⟩
    exact ⟨b, hb, List.mem_map.mpr ⟨k, mem_free.mpr ⟨a, d⟩, rfl⟩⟩
theorem ext1_nd {n : Nat} : ∀ {bs : List (List Nat)}, bs.Nodup → (ext1 n bs).Nodup
  | [], _ => List.nodup_nil
  | b :: bs, h => by
    rw [List.nodup_cons] at h
    show ((free n b).map (fun k => b ++ [k]) ++ ext1 n bs).Nodup
    rw [List.nodup_append]
    refine ⟨?_, ext1_nd h.2, fun x hx y hy e => ?_⟩
    · rw [List.nodup_iff_pairwise_ne, List.pairwise_map]
      exact (List.nodup_iff_pairwise_ne.mp (free_nd n b)).imp fun z e => z (snoc_inj e).2
    · obtain ⟨k, _, rfl⟩ := List.mem_map.mp hx
      obtain ⟨c, hc, j, _, _, rfl⟩ := ext1_mem.mp hy
      exact h.1 ((snoc_inj e).1 ▸ hc)
theorem Bgs.ext1 {n L : Nat} {bs : List (List Nat)} (h : Bgs n L bs) : Bgs n (L + 1) (ext1 n bs) := ⟨fun c hc => by
  obtain ⟨b, hb, k, a, d, rfl⟩ := ext1_mem.mp hc
  exact (h.each b hb).snoc a d, ext1_nd h.nd⟩
theorem Bgs.allc {n : Nat} : ∀ {k L : Nat} {bs : List (List Nat)}, Bgs n L bs → Bgs n (L + k) (allc n k bs)
  | 0, _, _, h => h
  | k + 1, L, bs, h => by
    have := Bgs.allc (k := k) h.ext1
    rw [Nat.add_assoc, Nat.add_comm 1 k] at this
    exact this
/-! orders told by what is called 0, 1, .. -/
theorem bg_ord {n : Nat} {q : List Nat} : Bg n n q ↔ Ord n q := by
  constructor
  · intro h
    refine ⟨h.len, fun k hk => h.low _ (List.mem_iff_getElem?.mpr ⟨k, g_eq (by rw [h.len]; exact hk)⟩), fun j k hj hk e => ?_⟩
    have a := g_eq (l := q) (k := j) (by rw [h.len]; exact hj)
    have b := g_eq (l := q) (k := k) (by rw [h.len]; exact hk)
    rw [e, ← b] at a
    have hj' : j < q.length := by rw [h.len]; exact hj
    have hk' : k < q.length := by rw [h.len]; exact hk
    rw [List.getElem?_eq_getElem hj', List.getElem?_eq_getElem hk'] at a
    have p := List.pairwise_iff_getElem.mp (List.nodup_iff_pairwise_ne.mp h.nd)
    rcases Nat.lt_trichotomy j k with z | z | z
    · exact absurd (Option.some.inj a) (p j k hj' hk' z)
    · exact z
    · exact absurd (Option.some.inj a).symm (p k j hk' hj' z)
  · intro h
    refine ⟨h.len, fun x hx => ?_, ?_⟩
    · obtain ⟨i, hi, e⟩ := List.mem_iff_getElem.mp hx
      have a := g_eq hi
      rw [List.getElem?_eq_getElem hi, e] at a
      rw [Option.some.inj a]
      exact h.low i (by rw [← h.len]; exact hi)
    · rw [List.nodup_iff_pairwise_ne, List.pairwise_iff_getElem]
      intro i j hi hj hij e
      have a := g_eq hi
      have b := g_eq hj
      rw [List.getElem?_eq_getElem hi, e] at a
      rw [List.getElem?_eq_getElem hj] at b
      have := h.inj i j (by rw [← h.len]; exact hi) (by rw [← h.len]; exact hj) ((Option.some.inj a).symm.trans (Option.some.inj b))
      omega
/-- an order goes on from one of the begins -/
def On (bs : List (List Nat)) (q : List Nat) : Prop := ∃ b ∈ bs, b <+: q
theorem on_ext1 {n L : Nat} {bs : List (List Nat)} {q : List Nat} (h : Bgs n L bs) (lt : L < n) (hq : Bg n n q) : On (ext1 n bs) q ↔ On bs q := by
  constructor
  · rintro ⟨c, hc, p⟩
    obtain ⟨b, hb, k, _, _, rfl⟩ := ext1_mem.mp hc
    exact ⟨b, hb, (List.prefix_append b [k]).trans p⟩
  · rintro ⟨b, hb, r, e⟩
    cases r with
    | nil =>
      rw [List.append_nil] at e
      have a := (h.each b hb).len
      have c := hq.len
      rw [← e] at c
      omega
    | cons k r =>
      have nd := hq.nd
      rw [← e] at nd
      have m : k ∉ b := fun z => (List.nodup_append.mp nd).2.2 k z k (List.mem_cons_self ..) rfl
      have lo : k < n := hq.low k (by rw [← e]; exact List.mem_append_right _ (List.mem_cons_self ..))
      exact ⟨b ++ [k], ext1_mem.mpr ⟨b, hb, k, lo, m, rfl⟩, r, by rw [List.append_assoc]; exact e⟩
theorem on_allc {n : Nat} {q : List Nat} (hq : Bg n n q) : ∀ {k L : Nat} {bs : List (List Nat)}, Bgs n L bs → L + k ≤ n → (On (allc n k bs) q ↔ On bs q)
  | 0, _, _, _, _ => Iff.rfl
  | k + 1, L, bs, h, le => (on_allc hq h.ext1 (by omega)).trans (on_ext1 h (by omega) hq)
theorem prefix_full {n : Nat} {b q : List Nat} (h : Bg n n b) (hq : Bg n n q) (p : b <+: q) : b = q := by
  obtain ⟨r, e⟩ := p
  have a := h.len
  have c := hq.len
  rw [← e, List.length_append] at c
  cases r with
  | nil =>
    rw [List.append_nil] at e
    exact e
  | cons k r =>
    rw [List.length_cons] at c
    omega
theorem on_full {n : Nat} {bs : List (List Nat)} {q : List Nat} (h : Bgs n n bs) (hq : Bg n n q) : On bs q ↔ q ∈ bs := ⟨fun ⟨b, hb, p⟩ => prefix_full (h.each b hb) hq p ▸ hb, fun m => ⟨q, m, List.prefix_rfl⟩⟩
/-! the worth of a cell -/
/-- the place of old numbers -/
def at_ (n : Nat) (b args : List Nat) : Nat := args.foldl (fun a k => a * n + g b k) 0
def old (n : Nat) (t args b : List Nat) : Nat := g t (at_ n b args)
def told (n : Nat) (t args b : List Nat) : Nat := if old n t args b ∈ b then b.idxOf (old n t args b) else b.length
def kept (n : Nat) (t args b : List Nat) : List Nat := if old n t args b ∈ b then b else b ++ [old n t args b]
/-- the least that is told, the first ahead -/
def best (n : Nat) (t args : List Nat) : List (List Nat) → Nat → Nat
  | [], m => m
  | b :: bs, m => best n t args bs (min m (told n t args b))
def lst (n : Nat) (t args : List Nat) (bs : List (List Nat)) : List (List Nat) := (bs.filter fun b => decide (told n t args b = best n t args bs n)).map (kept n t args)
end M25
end
section
/-! the mathematics of own orders: what is the same for all, tables of cells, the orders that lead to the least -/
namespace M25
open M20
/-! ### what two orders leave, all leave -/
def sw (n i : Nat) : List Nat := (List.range n).map fun k => if k = i then i + 1 else if k = i + 1 then i else k
def rot (n : Nat) : List Nat := (List.range n).map fun k => if k + 1 = n then 0 else k + 1
def same (n p : Nat) (t : List Nat) : Bool := decide (n = 1) || (decide (ren n p (sw n 0) t = t) && decide (ren n p (rot n) t = t))
/-! ### rows of numbers -/
def rows (n : Nat) : Nat → List (List Nat)
  | 0 => [[]]
  | p + 1 => (rows n p).flatMap fun r => (List.range n).map fun k => r ++ [k]
theorem rows_of {n : Nat} : ∀ {p : Nat} {r : List Nat}, r ∈ rows n p → r.length = p ∧ ∀ k ∈ r, k < n
  | 0, r, h => by
    rw [List.mem_singleton.mp h]
    exact ⟨rfl, fun k z => by cases z⟩
  | p + 1, r, h => by
    obtain ⟨s, hs, h2⟩ := List.mem_flatMap.mp h
    obtain ⟨k, hk, rfl⟩ := List.mem_map.mp h2
    obtain ⟨a, b⟩ := rows_of hs
    refine ⟨by rw [List.length_append, a]; rfl, fun j hj => ?_⟩
    rcases List.mem_append.mp hj with z | z
    · exact b j z
    · rw [List.mem_singleton.mp z]
      exact List.mem_range.mp hk
theorem flatr {α : Type} (m : Nat) (hm : 0 < m) (f : Nat → Nat → α) : ∀ n, ((List.range n).flatMap fun i => (List.range m).map (f i)) = (List.range (n * m)).map fun s => f (s / m) (s % m)
  | 0 => by rw [Nat.zero_mul]; rfl
  | n + 1 => by
    rw [List.range_succ, List.flatMap_append, flatr m hm f n, List.flatMap_singleton, Nat.add_mul, Nat.one_mul, List.range_add, List.map_append, List.map_map]
    congr 1
    apply List.map_congr_left
    intro k hk
    have hk' := List.mem_range.mp hk
    show f n k = f ((n * m + k) / m) ((n * m + k) % m)
    rw [Nat.add_comm (n * m) k, Nat.add_mul_div_right _ _ hm, Nat.div_eq_of_lt hk', Nat.zero_add, Nat.add_mul_mod_self_right, Nat.mod_eq_of_lt hk']
theorem rows_1 (n : Nat) : rows n 1 = (List.range n).map fun k => [k] := by
  show ([[]] : List (List Nat)).flatMap _ = _
  rw [List.flatMap_singleton]
  rfl
theorem rows_2 {n : Nat} (h : 0 < n) : rows n 2 = (List.range (n * n)).map fun s => [s / n, s % n] := by
  show (rows n 1).flatMap _ = _
  rw [rows_1, List.flatMap_map]
  exact flatr n h (fun i j => [i, j]) n
/-! ### the steps -/
def need (args : List Nat) : Nat := args.foldr (fun k m => max (k + 1) m) 0
theorem need_lt : ∀ {args : List Nat}, ∀ k ∈ args, k < need args
  | [], _, h => nomatch h
  | j :: r, k, h => by
    show k < max (j + 1) (need r)
    rcases List.mem_cons.mp h with rfl | h
    · omega
    · have := need_lt k h
      omega
theorem need_le {m : Nat} : ∀ {args : List Nat}, (∀ k ∈ args, k < m) → need args ≤ m
  | [], _ => Nat.zero_le _
  | j :: r, h => by
    show max (j + 1) (need r) ≤ m
    have := need_le (args := r) fun k hk => h k (List.mem_cons_of_mem _ hk)
    have := h j (List.mem_cons_self ..)
    omega
def ln (bs : List (List Nat)) : Nat := (bs.headD []).length
def grow (n many : Nat) (bs : List (List Nat)) : List (List Nat) := allc n (many - ln bs) bs
def stepV (n : Nat) (t : List Nat) (bs : List (List Nat)) (args : List Nat) : Nat := best n t args (grow n (need args) bs) n
def stepB (n : Nat) (t : List Nat) (bs : List (List Nat)) (args : List Nat) : List (List Nat) := lst n t args (grow n (need args) bs)
/-- begins as they go on -/
def Good (n : Nat) (bs : List (List Nat)) : Prop := ∃ L, L ≤ n ∧ Bgs n L bs ∧ bs ≠ []
theorem ln_is {n L : Nat} {bs : List (List Nat)} (h : Bgs n L bs) (ne : bs ≠ []) : ln bs = L := by
  cases bs with
  | nil => exact absurd rfl ne
  | cons b r => exact (h.each b (List.mem_cons_self ..)).len
theorem Good.bgs {n : Nat} {bs : List (List Nat)} (h : Good n bs) : Bgs n (ln bs) bs := by
  obtain ⟨L, a, b, c⟩ := h
  rw [ln_is b c]
  exact b
theorem Good.ln_le {n : Nat} {bs : List (List Nat)} (h : Good n bs) : ln bs ≤ n := by
  obtain ⟨L, a, b, c⟩ := h
  rw [ln_is b c]
  exact a
theorem Good.ne {n : Nat} {bs : List (List Nat)} (h : Good n bs) : bs ≠ [] := let ⟨_, _, _, c⟩ := h; c
def rowV (n : Nat) (t : List Nat) : List (List Nat) → List (List Nat) → List Nat
  | _, [] => []
  | bs, a :: as => stepV n t bs a :: rowV n t (stepB n t bs a) as
def rowB (n : Nat) (t : List Nat) : List (List Nat) → List (List Nat) → List (List Nat)
  | bs, [] => bs
  | bs, a :: as => rowB n t (stepB n t bs a) as
/-! ### tables, one behind the other -/
abbrev PT := Nat × List Nat
def tabB (n : Nat) : List PT → List (List Nat) → List (List Nat)
  | [], bs => bs
  | x :: r, bs => if same n x.1 x.2 = true then tabB n r bs else tabB n r (rowB n x.2 bs (rows n x.1))
def tabV (n : Nat) : List PT → List (List Nat) → List (List Nat)
  | [], _ => []
  | x :: r, bs => if same n x.1 x.2 = true then x.2 :: tabV n r bs else rowV n x.2 bs (rows n x.1) :: tabV n r (rowB n x.2 bs (rows n x.1))
theorem start_good (n : Nat) : Good n [[]] := ⟨0, Nat.zero_le _, ⟨fun b hb => by
  rw [List.mem_singleton.mp hb]
  exact ⟨rfl, fun x z => (by cases z), List.nodup_nil⟩, List.nodup_cons.mpr ⟨(by intro z; cases z), List.nodup_nil⟩⟩, fun z => by cases z⟩
theorem start_on (q : List Nat) : On [[]] q := ⟨[], List.mem_singleton.mpr rfl, q, rfl⟩
/-- the orders that lead to the least, told by what is called 0, 1, .. -/
def fin (n : Nat) (l : List PT) : List (List Nat) := grow n n (tabB n l [[]])
def least (n : Nat) (l : List PT) : List (List Nat) := tabV n l [[]]
end M25
end
section
/-! own orders: a group, its number, its lots -/
namespace M25
open M20
def orders (n : Nat) (l : List PT) : List (List Nat) := (fin n l).map bk
def first (os : List (List Nat)) : List Nat := os.headD []
def own (n : Nat) (l : List PT) : List (List Nat) := (orders n l).map fun a => cmp a (bk (first (orders n l)))
/-! ### their number -/
def fact : Nat → Nat
  | 0 => 1
  | k + 1 => fact k * (k + 1)
theorem free_len {n L : Nat} {b : List Nat} (h : Bg n L b) : (free n b).length = n - L := by
  have nd : (free n b ++ b).Nodup := List.nodup_append.mpr ⟨free_nd n b, h.nd, fun x hx y hy e => (mem_free.mp hx).2 (e ▸ hy)⟩
  have a := len_le (free n b ++ b) (List.range n) nd fun x hx => List.mem_range.mpr (by
    rcases List.mem_append.mp hx with z | z
    · exact (mem_free.mp z).1
    · exact h.low x z)
  have c := len_le (List.range n) (free n b ++ b) List.nodup_range fun x hx => by
    by_cases z : x ∈ b
    · exact List.mem_append_right _ z
    · exact List.mem_append_left _ (mem_free.mpr ⟨List.mem_range.mp hx, z⟩)
  rw [List.length_append, List.length_range, h.len] at a c
  omega
theorem ext1_len {n L : Nat} : ∀ {bs : List (List Nat)}, (∀ b ∈ bs, Bg n L b) → (ext1 n bs).length = bs.length * (n - L)
  | [], _ => by simp [ext1]
  | b :: bs, h => by
    show ((free n b).map (fun k => b ++ [k]) ++ ext1 n bs).length = _
    rw [List.length_append, List.length_map, free_len (h b (List.mem_cons_self ..)), ext1_len fun c hc => h c (List.mem_cons_of_mem _ hc), List.length_cons, Nat.add_mul, Nat.one_mul, Nat.add_comm]
theorem allc_len {n : Nat} : ∀ {k L : Nat} {bs : List (List Nat)}, Bgs n L bs → L + k = n → (allc n k bs).length = bs.length * fact k
  | 0, _, bs, _, _ => (Nat.mul_one _).symm
  | k + 1, L, bs, h, e => by
    show (allc n k (ext1 n bs)).length = _
    rw [allc_len h.ext1 (by omega), ext1_len h.each, show n - L = k + 1 by omega, fact, Nat.mul_assoc, Nat.mul_comm (k + 1)]
def all_ (n : Nat) : List (List Nat) := allc n n [[]]
theorem all_bgs (n : Nat) : Bgs n n (all_ n) := by
  have := (start_good n).bgs.allc (k := n)
  rw [show ln [[]] = 0 from rfl, Nat.zero_add] at this
  exact this
theorem all_len (n : Nat) : (all_ n).length = fact n := by
  have := allc_len (k := n) (start_good n).bgs (by rw [show ln [[]] = 0 from rfl, Nat.zero_add])
  rw [show ([[]] : List (List Nat)).length = 1 from rfl, Nat.one_mul] at this
  exact this
theorem all_mem {n : Nat} {a : List Nat} : a ∈ all_ n ↔ Ord n a := by
  constructor
  · exact fun h => bg_ord.mp ((all_bgs n).each a h)
  · intro h
    have hq := bg_ord.mpr h
    exact (on_full (all_bgs n) hq).mp ((on_allc hq (k := n) (start_good n).bgs (by rw [show ln [[]] = 0 from rfl]; omega)).mpr (start_on a))
/-! ### led over by an order -/
/-! ### lots -/
def orb (n : Nat) (os : List (List Nat)) (k : Nat) : List Nat := (List.range n).filter fun j => os.any fun a => decide (g a k = j)
def lots (n : Nat) (os : List (List Nat)) : List (List Nat) := ((List.range n).filter fun k => decide ((orb n os k).headD 0 = k)).map (orb n os)
end M25
end
section
/-! how many begins there are; names told by a begin -/
namespace M25
open M20
theorem fact_pos : ∀ n, 1 ≤ fact n
  | 0 => Nat.le_refl _
  | n + 1 => by
    show 1 ≤ fact n * (n + 1)
    have := fact_pos n
    exact Nat.le_trans this (Nat.le_mul_of_pos_right _ (Nat.succ_pos n))
theorem fact6 {n : Nat} (h : n ≤ 6) : fact n ≤ 720 := by
  match n, h with
  | 0, _ => decide
  | 1, _ => decide
  | 2, _ => decide
  | 3, _ => decide
  | 4, _ => decide
  | 5, _ => decide
  | 6, _ => decide
theorem sub_len {l m : List (List Nat)} (h1 : l.Nodup) (h : ∀ x ∈ l, x ∈ m) : l.length ≤ m.length := by
  induction l generalizing m with
  | nil => exact Nat.zero_le _
  | cons x l ih =>
    have hx := h x (List.mem_cons_self ..)
    rw [List.nodup_cons] at h1
    have := ih (m := m.erase x) h1.2 fun y hy => (List.mem_erase_of_ne (show y ≠ x from fun e => h1.1 (by rw [← e]; exact hy))).mpr (h y (List.mem_cons_of_mem _ hy))
    rw [List.length_erase_of_mem hx] at this
    have := List.length_pos_of_mem hx
    rw [List.length_cons]
    omega
theorem bgs_few {n L : Nat} {bs : List (List Nat)} (h : Bgs n L bs) (le : L ≤ n) : bs.length ≤ fact n := by
  have a := allc_len h (k := n - L) (by omega)
  have b : Bgs n (L + (n - L)) (allc n (n - L) bs) := h.allc
  rw [show L + (n - L) = n by omega] at b
  have c := sub_len b.nd fun x hx => all_mem.mpr (bg_ord.mp (b.each x hx))
  rw [all_len, a] at c
  exact Nat.le_trans (Nat.le_mul_of_pos_right _ (fact_pos _)) c
theorem Good.few {n : Nat} {bs : List (List Nat)} (h : Good n bs) (n6 : n ≤ 6) : bs.length ≤ 720 := Nat.le_trans (bgs_few h.bgs h.ln_le) (fact6 n6)
end M25
end
section
/-! data of tracked things: what repr and == want of it -/
namespace Dw
open PySem PySem.Spec PyProof.Rows L2 Evl
/-- small data: depth at most k, weight at most W -/
structure Gd (k W : Nat) (d : PyData) : Prop where
  lay : d.canLay0 = true
  dep : d.depth ≤ k
  wgt : d.weight ≤ W
  its : d.intsShort 13 = true
  sho : d.showable = true
theorem Gd.mono {k W k' W' : Nat} {d : PyData} (h : Gd k W d) (a : k ≤ k') (b : W ≤ W') : Gd k' W' d := ⟨h.lay, Nat.le_trans h.dep a, Nat.le_trans h.wgt b, h.its, h.sho⟩
theorem log_low {n : Nat} (h : n ≤ 1000) : n.log2 ≤ 9 := by
  by_cases z : n = 0
  · subst z
    decide
  · exact Nat.le_of_lt_succ ((Nat.log2_lt z).mpr (by have e : 2 ^ 10 = 1024 := by decide
                                                     omega))
theorem gd_int {n : Nat} (h : n ≤ 1000) : Gd 0 10 (.int (n : Int)) := by
  have l := log_low h
  refine ⟨by rw [PyData.canLay0], by rw [PyData.depth]; exact Nat.le_refl _, ?_, ?_, ?_⟩
  · rw [PyData.weight, Int.natAbs_natCast]
    split <;> omega
  · rw [PyData.intsShort]
    exact decide_eq_true (PyData.shown_int_le2 (by omega) (by omega))
  · rw [PyData.showable, Int.natAbs_natCast]
    exact decide_eq_true (by omega)
theorem gd_str {z : Str} (h : ∀ c ∈ z.cps.toList, c < 0x110000) (l : z.cps.size ≤ 100) : Gd 0 100 (.str z) := by
  refine ⟨?_, by rw [PyData.depth]; exact Nat.le_refl _, by rw [PyData.weight]; exact l, by rw [PyData.intsShort], by rw [PyData.showable]⟩
  rw [PyData.canLay0]
  show z.cps.all (· < 0x110000) = true
  rw [Array.all_eq_true]
  intro i hi
  exact decide_eq_true (h _ (by rw [Array.mem_toList_iff]; exact Array.getElem_mem hi))
theorem gd_all {k W : Nat} : ∀ {ds : List PyData}, (∀ d ∈ ds, Gd k W d) → PyData.canLayAll0 ds = true ∧ PyData.depthAll ds ≤ k ∧ PyData.weightAll ds ≤ ds.length * (W + 1) ∧ PyData.intsShortAll 13 ds = true ∧ PyData.showableAll ds = true
  | [], _ => ⟨by rw [PyData.canLayAll0], by rw [PyData.depthAll]; exact Nat.zero_le _, by rw [PyData.weightAll]; exact Nat.zero_le _, by rw [PyData.intsShortAll], by rw [PyData.showableAll]⟩
  | d :: ds, h => by
    obtain ⟨a, b, c, e, f⟩ := gd_all (ds := ds) fun x hx => h x (List.mem_cons_of_mem _ hx)
    have g := h d (List.mem_cons_self ..)
    refine ⟨by rw [PyData.canLayAll0, g.lay, a]; rfl, by rw [PyData.depthAll]; exact Nat.max_le.mpr ⟨g.dep, b⟩, ?_, by rw [PyData.intsShortAll, g.its, e]; rfl, by rw [PyData.showableAll, g.sho, f]; rfl⟩
    have w := g.wgt
    rw [PyData.weightAll, List.length_cons, Nat.succ_mul]
    omega
theorem gd_tup {k W L : Nat} {ds : List PyData} (h : ∀ d ∈ ds, Gd k W d) (l : ds.length ≤ L) : Gd (k + 1) (L * (W + 1)) (.tuple ds) := by
  obtain ⟨a, b, c, e, f⟩ := gd_all h
  exact ⟨by rw [PyData.canLay0]; exact a, by rw [PyData.depth]; omega, by rw [PyData.weight]; exact Nat.le_trans c (Nat.mul_le_mul_right _ l), by rw [PyData.intsShort]; exact e, by rw [PyData.showable]; exact f⟩
theorem gd_lst {k W L : Nat} {ds : List PyData} (h : ∀ d ∈ ds, Gd k W d) (l : ds.length ≤ L) : Gd (k + 1) (L * (W + 1)) (.list ds) := by
  obtain ⟨a, b, c, e, f⟩ := gd_all h
  exact ⟨by rw [PyData.canLay0]; exact a, by rw [PyData.depth]; omega, by rw [PyData.weight]; exact Nat.le_trans c (Nat.mul_le_mul_right _ l), by rw [PyData.intsShort]; exact e, by rw [PyData.showable]; exact f⟩
theorem Gd.len {k W : Nat} {d : PyData} (h : Gd k W d) (a : k ≤ 60) (b : W ≤ 1000000) : d.shown.length ≤ sizeLine := by
  have w := h.wgt
  have dp := h.dep
  have l0 : d.layable0 = true := by
    show (d.canLay0 && decide (d.depth ≤ 64) && decide (d.weight ≤ 2 ^ 20)) = true
    have e : (2 : Nat) ^ 20 = 1048576 := by decide
    rw [h.lay, decide_eq_true (show d.depth ≤ 64 by omega), decide_eq_true (show d.weight ≤ 2 ^ 20 by omega)]
    rfl
  have z := shown_le13 l0 h.its
  rw [sizeLine_eq]
  omega
theorem Gd.shaped {k W : Nat} {d : PyData} (h : Gd k W d) (a : k ≤ 60) : SeqAt.shaped d = true := by
  have dp := h.dep
  show (d.canLay0 && decide (d.depth ≤ 64)) = true
  rw [h.lay, decide_eq_true (show d.depth ≤ 64 by omega)]
  rfl
/-! things of the hand layer as data -/
section
variable {K : PySem.W.Frag} {H : Hp}
def dN (ns : List Nat) : PyData := .tuple (ns.map fun n => .int ((n : Nat) : Int))
theorem dps_nats : ∀ ns : List Nat, DpAll K H (ns.map vi) (ns.map fun n => .int ((n : Nat) : Int))
  | [] => .nil
  | n :: ns => .cons (.int _) (dps_nats ns)
theorem Nats.dp {v : V} {ns : List Nat} (h : Nats K H v ns) : Dp K H v (dN ns) := by
  obtain ⟨a, e, s⟩ := h
  subst e
  exact .tup s (dps_nats ns)
theorem dps_paired {β : Type} {R : V → β → Prop} {f : β → PyData} (h : ∀ v b, R v b → Dp K H v (f b)) : ∀ {vs : List V} {bs : List β}, Paired R vs bs → DpAll K H vs (bs.map f)
  | [], [], .nil => .nil
  | _ :: _, _ :: _, .cons r p => .cons (h _ _ r) (dps_paired h p)
def dM (n : Nat) (ts : List (List Nat)) : PyData := .tuple [.int (n : Int), .tuple (ts.map dN)]
theorem Mdl.dp {v : V} {n : Nat} {ts : List (List Nat)} (h : Mdl K H v n ts) : Dp K H v (dM n ts) := by
  obtain ⟨a, u, e, s, b, vs, e2, s2, p⟩ := h
  subst e e2
  exact .tup s (.cons (.int _) (.cons (.tup s2 (dps_paired (fun _ _ z => Nats.dp z) p)) .nil))
def dS (sg : List (Str × Nat)) : PyData := .tuple (sg.map fun p => .tuple [.str p.1, .int ((p.2 : Nat) : Int)])
theorem Sig.dp {v : V} {sg : List (Str × Nat)} (h : Sig K H v sg) : Dp K H v (dS sg) := by
  obtain ⟨a, vs, e, s, p⟩ := h
  subst e
  refine .tup s (dps_paired (fun v q z => ?_) p)
  obtain ⟨b, e, s⟩ := z
  subst e
  exact .tup s (.cons (.str _) (.cons (.int _) .nil))
theorem gd_nats {ns : List Nat} (h : ∀ n ∈ ns, n ≤ 1000) (l : ns.length ≤ 36) : Gd 1 396 (dN ns) := by
  refine gd_tup (k := 0) (W := 10) (L := 36) (fun d hd => ?_) (by rw [List.length_map]; exact l)
  obtain ⟨n, hn, e⟩ := List.mem_map.mp hd
  subst e
  exact gd_int (h n hn)
/-- x != y of the same data -/
theorem rv_neD {x y : V} {d : PyData} {k W : Nat} (hx : ∀ H1, Ex H H1 → Dp K H1 x d) (hy : ∀ H1, Ex H H1 → Dp K H1 y d) (h : Gd k W d) (a : k ≤ 60) : RV (rNeD K) x y H (.bl false) := fun H1 e Q q =>
  ⟨d, d, hx H1 e, hy H1 e, h.shaped a, h.shaped a, by rw [SeqAt.eqv_refl d h.lay]; exact q H1 (Ex.refl H1)⟩
end
end Dw
end
section
/-! dict(a tuple of pairs), the tuple told with its own object -/
namespace Dw
open PySem PySem.Spec PyProof.Rows L2 Evl
section
variable {X : Cx}
end
end Dw
end
section
/-! sets of texts, their table known well enough that they can be walked: add, set(a list), sorted -/
namespace Dw
open PySem PySem.Spec PyProof.Rows L2
/-- the text of an entry -/
def txtOf (e : Int × Value) : Str := match e.2 with | .str x _ => x | _ => Str.empty
def IsTxt (w : World) (e : Int × Value) : Prop := ∃ x tk, e.2 = Value.str x tk ∧ e.1 = hashStr w x
/-- a set at a whose members are the texts ks, each once, in the order in which they came -/
structure TxtSet (w : World) (h : Heap) (a : Addr) (ks : List Str) : Prop where
  ex : ∃ o es ep t, h.get? a = some o ∧ o.ExactSet ∧ o.data = .set es ep t ∧ (∀ e ∈ es.toList, IsTxt w e) ∧ (es.toList.map txtOf).Perm ks ∧ t.fits es.size = true ∧ Ris t.place.toList ∧ (w.params.followText "set-order" = true ∨ t.led = true)
  nd : ks.Nodup
  few : ks.length < scanBound
section
variable {P : Program} {w : World} {A : Around} {E : Value → Shared → Prop} {s : Shared} {a : Addr} {ks : List Str}
theorem TxtSet.at {h h' : Heap} (T : TxtSet w h a ks) (same : ∀ o, h.get? a = some o → h'.get? a = some o) : TxtSet w h' a ks := by
  obtain ⟨o, es, ep, t, at_, rest⟩ := T.ex
  exact ⟨⟨o, es, ep, t, same o at_, rest⟩, T.nd, T.few⟩
end
end Dw
end
section
namespace Dw
open PySem PySem.Spec PyProof.Rows L2
section
variable {P : Program} {w : World} {A : Around} {E : Value → Shared → Prop} {s : Shared}
end
end Dw
end
section
/-! rules over sets of texts: set(a list), sorted(the set) -/
namespace Dw
open PySem PySem.Spec PyProof.Rows L2
section
variable {P : Program} {w : World} {A : Around} {E : Value → Shared → Prop} {s : Shared} {a : Addr} {ks : List Str}
end
section
variable {X : Cx}
end
end Dw
end
section
/-! comprehensions whose items are told by what holds of them (new things at each turn) -/
namespace Dw
open PySem PySem.Spec PyProof.Rows L2 Evl
theorem ifT {a b : Prop} (h : a) : if true = true then a else b := h
theorem ifF {a b : Prop} (h : b) : if false = true then a else b := h
/-- a new list, by what holds of its items -/
def EvLP (te : TE) (σ : L2.St) (H : Hp) (R : List V → Hp → Prop) : Prop := ∀ H1, Ex H H1 → ∀ Q : VK, (∀ p ws H2, H1 p = none → Ex H1 H2 → H2 p = some (.lst ws) → R ws H2 → Q (.ref p) H2) → te σ H1 Q
/-- all that is no list stays -/
def EN (H H' : Hp) : Prop := ∀ a u, (∀ xs, u ≠ .lst xs) → H a = some u → H' a = some u
theorem EN.refl {H : Hp} : EN H H := fun _ _ _ h => h
theorem EN.trans {H H1 H2 : Hp} (a : EN H H1) (b : EN H1 H2) : EN H H2 := fun x u n h => b x u n (a x u n h)
theorem EN.of {H H' : Hp} (e : Evl.Ex H H') : EN H H' := fun a u _ h => e a u h
theorem EN.upd {H H' : Hp} {l : Addr} {xs ys : List V} (e : EN H H') (h : H' l = some (.lst xs)) : EN H (upd H' l (.lst ys)) := fun a u n q => by
  have q2 := e a u n q
  have ne : a ≠ l := fun z => by
    rw [z, h] at q2
    exact n xs (Option.some.inj q2).symm
  rw [upd_ne ne]
  exact q2
theorem EN.et {K : PySem.W.Frag} {H H' : Hp} (e : EN H H') : ET K H H' := fun a xs q => by
  rcases q with (q | ⟨o, q⟩) | q
  · exact .inl (.inl (e _ _ (fun _ z => by cases z) q))
  · exact .inl (.inr ⟨o, e _ _ (fun _ z => by cases z) q⟩)
  · exact .inr q
/-- what holds of a thing is told by what is no list -/
def StbB {β : Type} (B : V → β → Hp → Prop) : Prop := ∀ v b H H', EN H H' → B v b H → B v b H'
section
variable {K : PySem.W.Frag} {σ : L2.St} {H H' : Hp} {ta tb te : TE} {t : TT} {x y z v : V} {P : V → Hp → Prop} {D : Ends} {tu tz : TS} {g : TG} {R : List V → Hp → Prop}
theorem EvLP.mono (e : Ex H H') (h : EvLP te σ H R) : EvLP te σ H' R := fun H1 a Q q => h H1 (e.trans a) Q q
theorem EvLP.imp {R' : List V → Hp → Prop} (h : EvLP te σ H R) (i : ∀ ws H', Ex H H' → R ws H' → R' ws H') : EvLP te σ H R' := fun H1 e Q q => h H1 e Q fun p ws H2 np e2 hp r => q p ws H2 np e2 hp (i ws H2 (e.trans e2) r)
theorem do_elp {Q : VK} (h : EvLP te σ H R) (k : ∀ p ws H1, H p = none → Ex H H1 → H1 p = some (.lst ws) → R ws H1 → Q (.ref p) H1) : te σ H Q := h H (Ex.refl H) Q k
theorem s_asgLP {i : Nat} (h : EvLP te σ H R) (k : ∀ p ws H1, H p = none → Ex H H1 → H1 p = some (.lst ws) → R ws H1 → D.nx (σ.set i (some (.ref p))) H1) : tAsg te (gName i) D σ H := h H (Ex.refl H) _ k
theorem paired_snoc' {α β : Type} {R : α → β → Prop} {x : α} {y : β} (r : R x y) {xs : List α} {ys : List β} (h : Paired R xs ys) : Paired R (xs ++ [x]) (ys ++ [y]) := Dw.paired_snoc (R := R) r h
theorem paired_at {α β : Type} {R : α → β → Prop} : ∀ {xs : List α} {ys : List β} {i : Nat} {x : α}, Paired R xs ys → xs[i]? = some x → ∃ y, ys[i]? = some y ∧ R x y
  | _, _, _, _, .nil, h => by simp at h
  | _, _, 0, _, .cons a _, h => by
    have e := Option.some.inj h
    subst e
    exact ⟨_, rfl, a⟩
  | _, _, i + 1, _, .cons _ b, h => by
    obtain ⟨y, e, r⟩ := paired_at (i := i) b h
    exact ⟨y, e, r⟩
theorem paired_app {α β : Type} {R : α → β → Prop} {xs xs2 : List α} {ys ys2 : List β} (h : Paired R xs ys) (h2 : Paired R xs2 ys2) : Paired R (xs ++ xs2) (ys ++ ys2) := by
  induction h with
  | nil => exact h2
  | cons a r ih => exact .cons a ih
theorem paired_map {α β γ : Type} {R : α → β → Prop} {S : α → γ → Prop} {f : β → γ} (h : ∀ a b, R a b → S a (f b)) : ∀ {xs : List α} {ys : List β}, Paired R xs ys → Paired S xs (ys.map f)
  | _, _, .nil => .nil
  | _, _, .cons a b => .cons (h _ _ a) (paired_map h b)
theorem filt_step {n : Nat} {f : Nat → Bool} : (List.range (n + 1)).filter f = (List.range n).filter f ++ if f n = true then [n] else [] := by
  rw [List.range_succ, List.filter_append]
  congr 1
  cases h : f n
  · rw [List.filter_cons_of_neg (by rw [h]; decide), List.filter_nil]; rfl
  · rw [List.filter_cons_of_pos h, List.filter_nil]; rfl
theorem filt_len (n : Nat) (f : Nat → Bool) : ((List.range n).filter f).length ≤ n := by
  have := List.length_filter_le f (List.range n)
  rw [List.length_range] at this
  exact this
/-- a comprehension by what its items keep -/
theorem elp_lc {J : It} {n : Nat} {G : Hp → Prop} {Y : Nat → Hp → V → Hp → Prop} {wi : TI} {tt : TT} {vs : List Nat} (w : Walk J n G Y) (hw0 : ∀ H0, Ex H H0 → ∀ R : It → Hp → Prop, (∀ H1, Ex H0 H1 → R J H1) → wi σ H0 R) (hG : ∀ H1, Ex H H1 → G H1) (hn : n ≤ 40000)
    (f : Nat → Bool) (B : V → Nat → Hp → Prop) (hB : StbB B)
    (hs : ∀ i x H1 H2, i < n → Ex H H1 → Y i H1 x H2 → Ex H1 H2 ∧ ∀ Φ : L2.St → Hp → Prop, (∀ σ2, wipe σ2 vs = wipe σ vs → EvT tt σ2 H2 (f i) → (f i = true → EvP te σ2 H2 (fun v H' => B v i H')) → Φ σ2 H2) → g x (wipe σ vs) H2 Φ) :
    EvLP (tLc wi g tt te vs) σ H (fun ws H' => Paired (fun v i => B v i H') ws ((List.range n).filter f)) := by
  intro H0 e0 Q q
  refine hw0 H0 e0 _ fun H1 e1 Dl nD => lc_it w (fun i H' => Ex H1 H' ∧ ∃ ws, H' Dl = some (.lst ws) ∧ Paired (fun v i => B v i H') ws ((List.range i).filter f)) ⟨Ex.new nD, [], upd_same, .nil⟩ (fun i H' _ ⟨e, _⟩ => hG H' ((e0.trans e1).trans e)) (fun i x H2 H3 hi ⟨e2, ws, hD, pw⟩ y => ?_) (fun H2 ⟨e2, ws, hD, pw⟩ => q Dl ws H2 (fresh_back e1 nD) (e1.trans e2) hD pw)
  have e02 := (e0.trans e1).trans e2
  obtain ⟨e3, go⟩ := hs i x H2 H3 hi e02 y
  refine go _ fun σ2 hw ht he => ⟨hw, ht H3 (Ex.refl _) _ fun H4 e4 => ?_⟩
  have e24 := e3.trans e4
  cases hf : f i with
  | true =>
    refine ifT (he hf H4 e4 _ fun v H5 e5 bv => ?_)
    have hD5 := (e24.trans e5) _ _ hD
    have lw : ws.length ≤ i := by rw [paired_len pw]; exact filt_len i f
    refine ⟨ws, hD5, sz_lt (by omega), (e2.trans (e24.trans e5)).mut nD, ws ++ [v], upd_same, ?_⟩
    rw [filt_step, hf, if_pos rfl]
    have et : EN H5 (upd H5 Dl (.lst (ws ++ [v]))) := EN.refl.upd hD5
    have pw2 : Paired (fun z i => B z i (upd H5 Dl (.lst (ws ++ [v])))) ws ((List.range i).filter f) := paired_imp (fun a b r => hB a b _ _ (EN.trans (EN.of (e24.trans e5)) et) r) pw
    exact paired_snoc' (xs := ws) (x := v) (y := i) (hB _ _ _ _ et bv) pw2
  | false =>
    refine ifF ⟨e2.trans e24, ws, e24 _ _ hD, ?_⟩
    rw [filt_step, hf]
    show Paired _ ws ((List.range i).filter f ++ [])
    rw [List.append_nil]
    exact paired_imp (fun a b r => hB a b _ _ (EN.of e24) r) pw
theorem range_all (n : Nat) : (List.range n).filter (fun _ => true) = List.range n := List.filter_eq_self.mpr fun _ _ => rfl
/-- over a list, one name -/
theorem elp_lcL {a : Addr} {xs : List V} {tl : TE} {tt : TT} {j : Nat} {vs : List Nat} (h : Ev tl σ H (.ref a)) (hx : SqL K H a xs) (hn : xs.length ≤ 40000) (f : Nat → Bool) (B : V → Nat → Hp → Prop) (hB : StbB B) (hwp : ∀ x, wipe ((wipe σ vs).set j (some x)) vs = wipe σ vs)
    (hs : ∀ i x H1, Ex H H1 → xs[i]? = some x → EvT tt ((wipe σ vs).set j (some x)) H1 (f i) ∧ (f i = true → EvP te ((wipe σ vs).set j (some x)) H1 (fun v H' => B v i H'))) :
    EvLP (tLc (iList K tl) (gName j) tt te vs) σ H (fun ws H' => Paired (fun v i => B v i H') ws ((List.range xs.length).filter f)) :=
  elp_lc (walk_list (K := K) (a := a) (xs := xs)) (fun H0 e0 R r => h H0 e0 _ fun H1 e1 => ⟨a, rfl, ⟨xs, ex_l (e0.trans e1) hx⟩, r H1 e1⟩) (fun H1 e1 => ex_l e1 hx) hn f B hB fun i x H1 H2 hi e y => by
    obtain ⟨rfl, hxi⟩ := y
    exact ⟨Ex.refl _, fun Φ k => k _ (hwp x) (hs i x _ e hxi).1 (hs i x _ e hxi).2⟩
theorem elp_lcR {ta : TA} {n : Nat} {tt : TT} {j : Nat} {vs : List Nat} (h : EvA ta σ H [vi n]) (hn : n ≤ 40000) (f : Nat → Bool) (B : V → Nat → Hp → Prop) (hB : StbB B) (hwp : ∀ x, wipe ((wipe σ vs).set j (some x)) vs = wipe σ vs)
    (hs : ∀ i H1, i < n → Ex H H1 → EvT tt ((wipe σ vs).set j (some (vi i))) H1 (f i) ∧ (f i = true → EvP te ((wipe σ vs).set j (some (vi i))) H1 (fun v H' => B v i H'))) :
    EvLP (tLc (iRng1 ta) (gName j) tt te vs) σ H (fun ws H' => Paired (fun v i => B v i H') ws ((List.range n).filter f)) :=
  elp_lc (walk_range (n := n)) (fun H0 e0 R r => w_rng h hn H0 e0 R r) (fun _ _ => trivial) hn f B hB fun i x H1 H2 hi e y => by
    obtain ⟨rfl, hxi⟩ := y
    have e0 : x = vi i := hxi.trans (by show V.int _ = V.int _; rw [Int.zero_add])
    subst e0
    exact ⟨Ex.refl _, fun Φ k => k _ (hwp _) (hs i _ hi e).1 (hs i _ hi e).2⟩
/-- of two fors: a list, then a range (or what is walked in the like way) -/
theorem elp_lc2 {a : Addr} {xs : List V} {tl : TE} {ta : TA} {m j j1 : Nat} {vs vs1 : List Nat} (h : Ev tl σ H (.ref a)) (hx : SqL K H a xs) (h1 : ∀ x H1, Ex H H1 → EvA ta ((wipe σ vs).set j (some x)) H1 [vi m]) (hn : xs.length ≤ 10000) (hm : m ≤ 9)
    (B : V → Nat × Nat → Hp → Prop) (hB : StbB B) (hw : ∀ x, wipe ((wipe σ vs).set j (some x)) vs = wipe σ vs) (hw1 : ∀ x y, wipe ((wipe ((wipe σ vs).set j (some x)) vs1).set j1 (some y)) vs1 = wipe ((wipe σ vs).set j (some x)) vs1)
    (he : ∀ i x k H1, Ex H H1 → xs[i]? = some x → k < m → EvP te ((wipe ((wipe σ vs).set j (some x)) vs1).set j1 (some (vi k))) H1 (fun v H' => B v (i, k) H')) :
    EvLP (tLc2 (iList K tl) (gName j) tYes (iRng1 ta) (gName j1) tYes te vs vs1) σ H (fun ws H' => Paired (fun v p => B v p H') ws ((List.range xs.length).flatMap fun i => (List.range m).map fun k => (i, k))) := by
  intro H0 e Q q
  refine h H0 e _ fun H1 e1 => ⟨a, rfl, ⟨xs, ex_l (e.trans e1) hx⟩, fun Dl nD => ?_⟩
  have e01 : Ex H H1 := e.trans e1
  let outer : Nat → List (Nat × Nat) := fun i => (List.range i).flatMap fun i => (List.range m).map fun k => (i, k)
  have lenO : ∀ i, (outer i).length = i * m := by
    intro i
    induction i with
    | zero => show (0 : Nat) = 0 * m; rw [Nat.zero_mul]
    | succ i ih =>
      show ((List.range (i + 1)).flatMap _).length = _
      rw [List.range_succ, List.flatMap_append, List.length_append]
      have e3 : ((List.range i).flatMap fun i => (List.range m).map fun k => (i, k)).length = i * m := ih
      rw [e3, List.flatMap_singleton, List.length_map, List.length_range, Nat.add_mul, Nat.one_mul]
  refine ⟨fun i r H' => r = xs.length - i ∧ i ≤ xs.length ∧ Ex H1 H' ∧ ∃ ws, H' Dl = some (.lst ws) ∧ Paired (fun v p => B v p H') ws (outer i), ⟨_, rfl, Nat.zero_le _, Ex.new nD, [], upd_same, .nil⟩, ?_⟩
  rintro i r H2 ⟨rfl, hi, e2, ws, hD, pw⟩
  by_cases hlt : i < xs.length
  · refine .inr ⟨⟨xs, xs[i], ex_l (e01.trans e2) hx, List.getElem?_eq_getElem hlt⟩, fun H' => Ex H1 H' ∧ ∃ ws, H' Dl = some (.lst ws) ∧ Paired (fun v p => B v p H') ws (outer (i + 1)), fun H' ⟨p1, p2⟩ => ⟨_, by omega, rfl, hlt, p1, p2⟩, fun x H3 yl => ?_⟩
    obtain ⟨rfl, hxi⟩ := yl
    have hxi' := hxi xs (ex_l (e01.trans e2) hx)
    refine ⟨hw x, et_yes H3 (Ex.refl _) _ fun H4 e4 => ?_⟩
    refine ifT ?_
    have e14 : Ex H1 H4 := e2.trans e4
    refine w_rng (h1 x H4 (e01.trans e14)) (by omega) H4 (Ex.refl _) _ fun H5 e5 => ?_
    have e15 : Ex H1 H5 := e14.trans e5
    have e35 := e4.trans e5
    refine ⟨fun k r H' => r = m - k ∧ k ≤ m ∧ Ex H1 H' ∧ ∃ ws, H' Dl = some (.lst ws) ∧ Paired (fun v p => B v p H') ws (outer i ++ (List.range k).map fun k => (i, k)), ⟨_, rfl, Nat.zero_le _, e15, ws, e35 _ _ hD, by
      show Paired _ ws (outer i ++ [])
      rw [List.append_nil]
      exact paired_imp (fun a b r => hB a b _ _ (EN.of e35) r) pw⟩, ?_⟩
    rintro k r H6 ⟨rfl, hk, e6, us, hD6, pu⟩
    by_cases klt : k < m
    · refine .inr ⟨(walk_range (n := m)).goes k H6 klt trivial, fun H' => Ex H1 H' ∧ ∃ ws, H' Dl = some (.lst ws) ∧ Paired (fun v p => B v p H') ws (outer i ++ (List.range (k + 1)).map fun k => (i, k)), fun H' ⟨p1, p2⟩ => ⟨_, by omega, rfl, klt, p1, p2⟩, fun y H7 yl => ?_⟩
      obtain ⟨rfl, hy⟩ := (walk_range (n := m)).yields k H6 y H7 klt trivial yl
      have ey : y = vi k := hy.trans (by show V.int _ = V.int _; rw [Int.zero_add])
      subst ey
      refine ⟨hw1 x _, et_yes H7 (Ex.refl _) _ fun H8 e8 => ?_⟩
      refine ifT ?_
      have e18 : Ex H1 H8 := e6.trans e8
      refine he i x k H8 (e01.trans e18) hxi' klt H8 (Ex.refl _) _ fun v H9 e9 bv => ?_
      have hD9 := (e8.trans e9) _ _ hD6
      refine ⟨us, hD9, ?_, (e18.trans e9).mut nD, us ++ [v], upd_same, ?_⟩
      · rw [paired_len pu, List.length_append, lenO, List.length_map, List.length_range]
        have b1 : i * m ≤ 10000 * 9 := Nat.mul_le_mul (by omega) hm
        exact sz_lt (by omega)
      · rw [List.range_succ, List.map_append, ← List.append_assoc]
        have et : EN H9 (upd H9 Dl (.lst (us ++ [v]))) := EN.refl.upd hD9
        have pu2 : Paired (fun z p => B z p (upd H9 Dl (.lst (us ++ [v])))) us (outer i ++ (List.range k).map fun k => (i, k)) := paired_imp (fun a b r => hB a b _ _ (EN.trans (EN.of (e8.trans e9)) et) r) pu
        exact paired_snoc' (xs := us) (x := v) (y := (i, k)) (hB _ _ _ _ et bv) pu2
    · have ek : k = m := by omega
      subst ek
      refine .inl ⟨(walk_range (n := k)).stops H6 trivial, e6, us, hD6, ?_⟩
      have : outer (i + 1) = outer i ++ (List.range k).map fun k => (i, k) := by
        show (List.range (i + 1)).flatMap _ = _
        rw [List.range_succ, List.flatMap_append, List.flatMap_singleton]
      rw [this]
      exact pu
  · have ei : i = xs.length := by omega
    subst ei
    exact .inl ⟨⟨xs, ex_l (e01.trans e2) hx, Nat.le_refl _⟩, q Dl ws H2 (fresh_back e1 nD) (e1.trans e2) hD pw⟩
end
end Dw
end
section
/-! tuples by what they hold: written, joined, cut; equal lists of numbers -/
namespace Dw
open PySem PySem.Spec PyProof.Rows L2 Evl
theorem op_catAK {X : Cx} (K : PySem.W.Frag) (h : X.K = K := by rfl) : OpR X (binaryOp .Add) (rCatA K) := by
  subst h
  exact op_catA
def TV (K : PySem.W.Frag) (H : Hp) (v : V) (xs : List V) : Prop := ∃ a, v = .ref a ∧ SqT K H a xs
section
variable {K : PySem.W.Frag} {σ : L2.St} {H H' : Hp} {ta tb te : TE} {t : TT} {x y z v : V} {P : V → Hp → Prop} {D : Ends} {tu tz : TS} {g : TG}
theorem TV.ex {xs : List V} (e : Ex H H') (h : TV K H v xs) : TV K H' v xs := let ⟨a, q, s⟩ := h; ⟨a, q, ex_t e s⟩
theorem TV.et {xs : List V} (e : ET K H H') (h : TV K H v xs) : TV K H' v xs := let ⟨a, q, s⟩ := h; ⟨a, q, e _ _ s⟩
theorem tv_ev {xs : List V} {a : Addr} (h : Ev te σ H (.ref a)) (s : SqT K H a xs) : EvP te σ H (fun v H' => TV K H' v xs) := ep_ev h fun _ e => ⟨a, rfl, ex_t e s⟩
theorem tv_cat {xs ys : List V} (ha : EvP ta σ H (fun v H' => TV K H' v xs)) (hb : EvP tb σ H (fun v H' => TV K H' v ys)) (hl : xs.length + ys.length ≤ 100000) : EvP (tOp (rCatA K) ta tb) σ H (fun v H' => TV K H' v (xs ++ ys)) := fun H1 e1 Q q =>
  ha H1 e1 _ fun v H2 e2 hv => hb H2 (e1.trans e2) _ fun u H3 e3 hu => by
    obtain ⟨a, rfl, sa⟩ := hv.ex e3
    obtain ⟨b, rfl, sb⟩ := hu
    refine ⟨a, b, xs, ys, rfl, rfl, sa, sb, sz_of hl, fun z => ?_, fun _ z => ?_, fun _ _ p np => ?_⟩
    · subst z
      exact q _ H3 (e2.trans e3) ⟨b, rfl, sb⟩
    · subst z
      rw [List.append_nil] at q
      exact q _ H3 (e2.trans e3) ⟨a, rfl, sa⟩
    · exact q _ _ ((e2.trans e3).trans (Ex.new np)) ⟨p, rfl, st_of upd_same⟩
theorem tv_tup {ta : TA} {xs : List V} (h : EvA ta σ H xs) (l : xs.length ≤ 100000) : EvP (tTup ta) σ H (fun v H' => TV K H' v xs) := fun H1 e1 Q q => eu_tup h l H1 e1 _ fun p H2 np e2 hp => q _ H2 e2 ⟨p, rfl, st_of hp⟩
theorem tv_sl {tl th : TO} {xs : List V} {lo hi : Option Int} (h : EvP te σ H (fun v H' => TV K H' v xs)) (h1 : EvO tl σ H lo) (h2 : EvO th σ H hi) : EvP (tSl (rSlA K) te tl th) σ H (fun v H' => TV K H' v (cutV xs lo hi)) := fun H1 e Q q =>
  h H1 e _ fun v H2 e2 hv => h1 H2 (e.trans e2) _ fun H3 e3 => h2 H3 ((e.trans e2).trans e3) _ fun H4 e4 => by
    obtain ⟨a, rfl, sa⟩ := hv
    have s4 := ex_t (e3.trans e4) sa
    refine ⟨a, xs, rfl, s4, fun ⟨z1, z2⟩ => ?_, fun _ p np => ?_⟩
    · refine q _ H4 ((e2.trans e3).trans e4) ⟨a, rfl, ?_⟩
      unfold cutV
      rw [z1, z2, List.drop_zero, Nat.sub_zero, List.take_length]
      exact s4
    · exact q _ _ (((e2.trans e3).trans e4).trans (Ex.new np)) ⟨p, rfl, st_of upd_same⟩
theorem cut_from' {xs : List V} {k : Nat} : cutV xs (some (k : Int)) none = xs.drop k := by
  unfold cutV
  rw [HT.sIx_none, HT.sIx_nat]
  by_cases h : k ≤ xs.length
  · rw [Nat.min_eq_left h, List.take_of_length_le (by rw [List.length_drop]; exact Nat.le_refl _)]
  · rw [Nat.min_eq_right (by omega), List.drop_length, List.take_nil, List.drop_of_length_le (by omega)]
theorem cut_to' {xs : List V} {k : Nat} : cutV xs none (some (k : Int)) = xs.take k := by
  unfold cutV
  rw [HT.sIx_none, HT.sIx_nat, List.drop_zero, Nat.sub_zero]
  by_cases h : k ≤ xs.length
  · rw [Nat.min_eq_left h]
  · rw [Nat.min_eq_right (by omega), List.take_length, List.take_of_length_le (by omega)]
theorem tv_is {xs ys : List V} (h : EvP te σ H (fun v H' => TV K H' v xs)) (e : xs = ys) : EvP te σ H (fun v H' => TV K H' v ys) := e ▸ h
theorem tv_nats {ns : List Nat} (h : EvP te σ H (fun v H' => TV K H' v (ns.map vi))) : EvP te σ H (fun v H' => Nats K H' v ns) := h
/-! equality of lists of numbers as data -/
end
end Dw
namespace Dw
open PySem PySem.Spec PyProof.Rows L2 Evl
section
variable {K : PySem.W.Frag} {σ : L2.St} {H H' : Hp} {ta tb te : TE} {t : TT} {x y z v : V} {P R2 : V → Hp → Prop} {D : Ends} {tu tz : TS} {g : TG} {R : List V → Hp → Prop}
end
section
variable {K : PySem.W.Frag} {σ : L2.St} {H : Hp} {te tl : TE} {D : Ends} {tu tz : TS} {g : TG}
end
end Dw
end
section
/-! max of a tuple of numbers -/
namespace Dw
open PySem PySem.Spec PyProof.Rows L2 Evl PySem.W
theorem maxOf_ge : ∀ (xs : List Int) (x : Int), (∀ y ∈ x :: xs, y ≤ maxOf x xs) ∧ maxOf x xs ∈ x :: xs
  | [], x => ⟨fun y hy => by rw [List.mem_singleton.mp hy]; exact Int.le_refl _, List.mem_cons_self ..⟩
  | z :: xs, x => by
    have e : maxOf x (z :: xs) = maxOf (if x < z then z else x) xs := by
      unfold maxOf
      rw [List.foldl_cons]
      congr 1
      show (if decide (x < z) = true then z else x) = _
      by_cases h : x < z
      · rw [decide_eq_true h, if_pos rfl, if_pos h]
      · rw [decide_eq_false h, if_neg Bool.false_ne_true, if_neg h]
    obtain ⟨a, b⟩ := maxOf_ge xs (if x < z then z else x)
    rw [e]
    have c := a _ (List.mem_cons_self ..)
    refine ⟨fun y hy => ?_, ?_⟩
    · rcases List.mem_cons.mp hy with rfl | hy
      · split at c
        · rename_i h; rw [if_pos h]; omega
        · rename_i h; rw [if_neg h]; exact c
      · rcases List.mem_cons.mp hy with rfl | hy
        · split at c
          · rename_i h; rw [if_pos h]; exact c
          · rename_i h; rw [if_neg h]; omega
        · exact a y (List.mem_cons_of_mem _ hy)
    · rcases List.mem_cons.mp b with b | b
      · rw [b]
        split
        · exact List.mem_cons_of_mem _ (List.mem_cons_self ..)
        · exact List.mem_cons_self ..
      · exact List.mem_cons_of_mem _ (List.mem_cons_of_mem _ b)
def rMaxT (K : PySem.W.Frag) : List V → Hp → VK → Prop := fun vs H Q => ∃ (a : Addr) (ns : List Int), vs = [V.ref a] ∧ SqT K H a (ns.map V.int) ∧ 0 < ns.length ∧ ∀ m, m ∈ ns → (∀ y, y ∈ ns → y ≤ m) → Q (.int m) H
theorem cr_maxT {X : Cx} {k : Nat} (hc : X.calm = true) (hr : Room k X.A) : CallR X (.builtin "max") (rMaxT X.K) := by
  intro pins s σ H vs us Q I r h
  obtain ⟨a, ns, rfl, hs, hne, q⟩ := h
  obtain ⟨its, rv, hl, _⟩ := I.tuple hs
  rw [Vals.ref1 r]
  cases ns with
  | nil => exact absurd hne (Nat.lt_irrefl 0)
  | cons x xs =>
    have hi : IntsAre its.toArray.toList (x :: xs) := by rw [List.toList_toArray]; exact ints_of rv
    have hu := hr.units
    have ho : HoldAll s.heap its.toArray.toList (x :: xs) := ⟨[], ints_readAll _ hi⟩
    refine max_tuple_datum (α := Int) (I.ok.hd hc) hl ho (by show X.A.units + 1 + 0 < _; omega) fun i v h' tk hv ho2 hk => ?_
    obtain ⟨a2, b2⟩ := maxOf_ge xs x
    obtain ⟨as, rd⟩ := ho2
    have rd' : Reads h' v (.int (maxOf x xs)) as := rd
    cases rd' with
    | int _ t => exact ⟨.int _, H, I.kept hk, ⟨t, rfl⟩, q _ b2 a2⟩
end Dw
end
section
/-! the least worth, begin by begin -/
namespace M25
open M20
theorem g_mem {l : List Nat} {k : Nat} (h : k < l.length) : g l k ∈ l := List.mem_iff_getElem?.mpr ⟨k, g_eq h⟩
end M25
end
section
/-! row by row, table by table, from behind -/
namespace M25
open M20
theorem need_max : ∀ {args : List Nat} {m : Nat}, m ∈ args → (∀ k ∈ args, k ≤ m) → need args = m + 1
  | [], _, h, _ => nomatch h
  | a :: r, m, h, le => by
    have u := need_le (args := a :: r) (m := m + 1) fun k hk => by have := le k hk; omega
    have l := need_lt m h
    omega
theorem rows_len' (n : Nat) : ∀ p, (rows n p).length = n ^ p
  | 0 => rfl
  | p + 1 => by
    show ((rows n p).flatMap _).length = _
    rw [List.length_flatMap, Nat.pow_succ]
    have : (rows n p).map (fun r => ((List.range n).map fun k => r ++ [k]).length) = List.replicate (rows n p).length n := by
      rw [List.eq_replicate_iff]
      refine ⟨by rw [List.length_map], fun b hb => ?_⟩
      obtain ⟨r, _, rfl⟩ := List.mem_map.mp hb
      simp
    rw [this, List.sum_replicate_nat, rows_len' n p]
end M25
end
section
/-! sorted lists: one for the same members -/
namespace M25
open M20
def ia (a : List Nat) : List Int := a.map fun k => ((k : Nat) : Int)
end M25
namespace M25
open M20
theorem allc_bgs (n k : Nat) : Bgs n k (allc n k [[]]) := by
  have := (start_good n).bgs.allc (k := k)
  rw [show ln [[]] = 0 from rfl, Nat.zero_add] at this
  exact this
theorem allc_few {n k : Nat} (h : k ≤ n) (n6 : n ≤ 6) : (allc n k [[]]).length ≤ 720 := Nat.le_trans (bgs_few (allc_bgs n k) h) (fact6 n6)
end M25
end
section
/-! sets of numbers: set(a list), known well enough that they can be sorted -/
namespace Dw
open PySem PySem.Spec PyProof.Rows L2
/-- a set at a of just the numbers in xs -/
def ISet (w : World) (h : Heap) (a : Addr) (xs : List Int) : Prop := ∃ n, n ≤ xs.length ∧ SetR w h a (fun k => decide (k ∈ xs)) n
theorem ISet.at {w : World} {h h' : Heap} {a : Addr} {xs : List Int} (T : ISet w h a xs) (k : ∀ o, h.get? a = some o → h'.get? a = some o) : ISet w h' a xs := let ⟨n, l, r⟩ := T; ⟨n, l, r.at k⟩
section
variable {P : Program} {w : World} {A : Around} {E : Value → Shared → Prop} {s : Shared}
end
section
variable {X : Cx}
end
end Dw
end
section
/-! sorted(a list of tuples of numbers), of any length: as mergeSort lays it by the order of lists -/
namespace Dw
open PySem PySem.Spec PyProof.Rows L2 Evl PySem.W
end Dw
end
section
/-! readings of sorted(..) and set(..) over new lists -/
namespace Dw
open PySem PySem.Spec PyProof.Rows L2 Evl M25
section
variable {K : PySem.W.Frag} {σ : L2.St} {H H' : Hp} {te : TE} {w : World}
/-- a list and a new list -/
theorem elp_cat {ta tb : TE} {R : List V → Hp → Prop} {a : Addr} {xs : List V} (ha : Ev ta σ H (.ref a)) (hx : H a = some (.lst xs)) (hb : EvLP tb σ H R) (hz : ∀ ws H', R ws H' → xs.length + ws.length ≤ 100000) (st : ∀ ws H H', Ex H H' → R ws H → R ws H') : EvLP (tOp rCat ta tb) σ H (fun us H' => ∃ ws, us = xs ++ ws ∧ R ws H') := fun H1 e Q q =>
  do_op (ha H1 e _ fun H2 e2 => hb H2 (e.trans e2) _ fun p ws H3 np e3 hp r => ⟨a, p, xs, ws, rfl, rfl, e3 _ _ (e2 _ _ (e _ _ hx)), hp, sz_of (hz ws H3 r), fun l nl => q l _ _ (fresh_back (e2.trans e3) nl) ((e2.trans e3).trans (Ex.new nl)) upd_same ⟨ws, rfl, st _ _ _ (Ex.new nl) r⟩⟩)
end
end Dw
namespace Dw
open PySem PySem.Spec PyProof.Rows L2 Evl M25
section
variable {K : PySem.W.Frag} {σ : L2.St} {H H' : Hp} {te ta tb : TE} {w : World}
def dL (ns : List Nat) : PyData := .list (ns.map fun n => .int ((n : Nat) : Int))
theorem gd_dL {ns : List Nat} (h : ∀ k ∈ ns, k ≤ 1000) (l : ns.length ≤ 36) : Gd 1 396 (dL ns) := gd_lst (k := 0) (W := 10) (L := 36) (fun d hd => by
  obtain ⟨n, hn, rfl⟩ := List.mem_map.mp hd
  exact gd_int (h n hn)) (by rw [List.length_map]; exact l)
end
end Dw
end
section
/-! sorted(a list of things that read as data), of any length -/
namespace Dw
open PySem PySem.Spec PyProof.Rows L2 Evl PySem.W M25
def leD (p q : V × PyData) : Bool := dataLe false (fun p : V × PyData => p.2) p q
def rSortD (K : PySem.W.Frag) : List V → Hp → VK → Prop := fun vs H Q => ∃ (a : Addr) (ps : List (V × PyData)), vs = [.ref a] ∧ SqL K H a (ps.map (·.1)) ∧ (∀ p ∈ ps, Dp K H p.1 p.2) ∧ AllAlike (ps.map (·.2)) ∧ Sortable (ps.map (·.2)) ∧ (∀ p ∈ ps, p.2.depth ≤ 40) ∧
  ∀ l, H l = none → Q (.ref l) (upd H l (.lst ((ps.mergeSort leD).map (·.1))))
theorem eachD_vals {X : Cx} {pins : List (Addr × Obj)} {σ : L2.St} {H : Hp} {s : Shared} (I : Inv X pins σ H s) : ∀ {ps : List (V × PyData)} {vs : List Value}, Vals (ps.map (·.1)) vs → (∀ p ∈ ps, Dp X.K H p.1 p.2) →
    EachIs (fun v (p : V × PyData) => RelV p.1 v) vs ps ∧ EachIs (fun v (p : V × PyData) => ∃ as, Reads s.heap v p.2 as) vs ps
  | [], _, .nil, _ => ⟨.nil, .nil⟩
  | p :: ps, _, .cons r rs, h => by
    obtain ⟨a, b⟩ := eachD_vals I (ps := ps) rs fun q hq => h q (List.mem_cons_of_mem _ hq)
    exact ⟨.cons r a, .cons (Dp.reads I _ _ _ (h p (List.mem_cons_self ..)) r) b⟩
theorem eachD_back : ∀ {ps : List (V × PyData)} {vs : List Value}, EachIs (fun v (p : V × PyData) => RelV p.1 v) vs ps → Vals (ps.map (·.1)) vs
  | [], _, .nil => .nil
  | p :: ps, _, .cons r rs => .cons r (eachD_back rs)
theorem cr_sortD {X : Cx} {k : Nat} (hr : Room k X.A) : CallR X (.builtin "sorted") (rSortD X.K) := by
  intro pins s σ H vs us Q I r h
  obtain ⟨a, ps, rfl, hs, hd, hal, hso, hdp, q⟩ := h
  obtain ⟨its, rv, hl, hz⟩ := I.list hs
  rw [Vals.ref1 r]
  obtain ⟨ea, eb⟩ := eachD_vals I rv hd
  have hu := hr.un
  refine sorted_data (enc := fun p : V × PyData => p.2) (bs := ps) hl.isList ea eb hal hso (by rw [List.length_map] at hz; exact hz) (fun b hb => ?_) fun out lo eo => ?_
  · have := hdp b hb
    show X.A.units + 2 + b.2.depth < cLine
    omega
  · obtain ⟨ep, he'⟩ := PyProof.Rows.sortedAll_at s.heap its (List.toArray out)
    have hlen : ((ps.mergeSort leD).map (·.1)).length ≤ sizeLine := by
      rw [List.length_map, List.length_mergeSort]
      rw [List.length_map] at hz
      exact hz
    exact ⟨.ref _, upd H (s.heap.objs.size + 1) (.lst ((ps.mergeSort leD).map (·.1))), I.laid (t' := s.toks) (fun _ _ => PyProof.Rows.sortedAll_old) (Nat.le_succ _) ⟨hlen, out, ep, eachD_back eo, he'⟩, rfl, q _ (I.hok.fresh (Nat.le_succ _))⟩
end Dw
end
section
/-! a tuple turned about, t[::-1]; a list made longer by a tuple -/
namespace Dw
open PySem PySem.Spec PyProof.Rows L2
section
variable {P : Program} {w : World} {A : Around} {E : Value → Shared → Prop} {s : Shared}
end
section
variable {X : Cx}
end
end Dw
end
section
/-! dict(zip(a, b)), a and b lists or tuples -/
namespace Dw
open PySem PySem.Spec PyProof.Rows L2 Evl
section
variable {prog : Program} {w : World} {A : Around} {E : Value → Shared → Prop} {s : Shared} {z TI TO T p q : Addr} {F G : List Addr} {n m i : Nat} {P R : Nat → Value → Prop} {U V : Nat → Heap → Prop} {f : Bool} {oT : Obj}
end
/-- a list or a tuple, and its walker -/
def SqO (t : Bool) (h : Heap) (l : Addr) (xs : Array Value) : Prop := if t = true then h.IsTuple l xs else h.IsList l xs
def SqI (t : Bool) (it l : Addr) (xs : Array Value) (i : Nat) (h : Heap) : Prop := if t = true then h.IsTupleIter it l i ∧ h.IsTuple l xs else h.IsListIter it l i ∧ h.IsList l xs
theorem SqI.keep {t : Bool} {it l : Addr} {xs : Array Value} {i : Nat} {h h' : Heap} (x : SqI t it l xs i h) (k : ∀ b, b = it ∨ b = l → ∀ o, h.get? b = some o → h'.get? b = some o) : SqI t it l xs i h' := by
  cases t
  · exact And.intro (x.1.at fun o e => k it (.inl rfl) o e) (x.2.at fun o e => k l (.inr rfl) o e)
  · exact And.intro (x.1.at fun o e => k it (.inl rfl) o e) (x.2.at fun o e => k l (.inr rfl) o e)
/-! the expression -/
theorem SqO.lt {t : Bool} {h : Heap} {l : Addr} {xs : Array Value} (x : SqO t h l xs) : l < h.objs.size := by
  cases t
  · obtain ⟨o, e, _⟩ := (show h.IsList l xs from x)
    exact Heap.lt_size e
  · obtain ⟨o, e, _⟩ := (show h.IsTuple l xs from x)
    exact Heap.lt_size e
abbrev itOf (t : Bool) (l : Addr) : Obj := { cls := .type (if t = true then "tuple_iterator" else "list_iterator"), data := .fields #[.ref l, .int 0 0] }
theorem SqI.start {t : Bool} {h h' : Heap} {it l : Addr} {xs : Array Value} (x : SqO t h l xs) (k : ∀ b o, h.get? b = some o → h'.get? b = some o) (e : h'.get? it = some (itOf t l)) : SqI t it l xs 0 h' := by
  cases t
  · exact And.intro ⟨_, e, rfl, rfl⟩ (Heap.IsList.at (show h.IsList l xs from x) fun o q => k l o q)
  · exact And.intro ⟨_, e, rfl, rfl⟩ (Heap.IsTuple.at (show h.IsTuple l xs from x) fun o q => k l o q)
end Dw
end
section
/-! promises of new lists; comprehensions over a zip; tuple.index of texts; wider sums -/
namespace Dw
open PySem PySem.Spec PyProof.Rows L2 Evl RZ
section
variable {K : PySem.W.Frag} {σ : L2.St} {H H' : Hp} {ta tb te : TE} {t : TT} {x y z v : V} {D : Ends} {tu tz : TS} {g : TG}
theorem ev_modM {a b : Nat} (ha : Ev ta σ H (vi a)) (hb : Ev tb σ H (vi b)) (b0 : 0 < b) : Ev (tOp (rI (fun _ j => 0 < j) fun i j => .int (i % j)) ta tb) σ H (vi (a % b)) := ev_is (ev_op ha hb (rv_I (by show (0 : Int) < (b : Int); omega))) (by show V.int ((a : Int) % (b : Int)) = V.int ((a % b : Nat) : Int); rw [Int.natCast_emod])
theorem ev_subM {a b : Nat} (ha : Ev ta σ H (vi a)) (hb : Ev tb σ H (vi b)) (l : b ≤ a) : Ev (tOp (rI0 fun i j => .int (i - j)) ta tb) σ H (vi (a - b)) := ev_is (ev_op ha hb rv_I0) (by show V.int ((a : Int) - (b : Int)) = V.int ((a - b : Nat) : Int); congr 1; omega)
theorem ev_mulM {a b : Nat} (ha : Ev ta σ H (vi a)) (hb : Ev tb σ H (vi b)) (la : a ≤ 100000) : Ev (tOp (rI CMul fun i j => .int (i * j)) ta tb) σ H (vi (a * b)) := ev_is (ev_op ha hb (rv_I (.inl ⟨by omega, by omega⟩))) (by show V.int ((a : Int) * (b : Int)) = V.int ((a * b : Nat) : Int); rw [Int.natCast_mul])
theorem ev_addM {a b : Nat} (ha : Ev ta σ H (vi a)) (hb : Ev tb σ H (vi b)) : Ev (tOp (rI0 fun i j => .int (i + j)) ta tb) σ H (vi (a + b)) := ev_is (ev_op ha hb rv_I0) (by show V.int ((a : Int) + (b : Int)) = V.int ((a + b : Nat) : Int); rw [Int.natCast_add])
end
section
variable {X : Cx}
/-- two rules for one subscript, two for one call -/
theorem ix_or {r r' : R2} (h : IxR X r) (h' : IxR X r') : IxR X (fun x y H Q => r x y H Q ∨ r' x y H Q) := fun e1 e2 pins s σ H x y v u Q I rx ry h0 e => by
  rcases h0 with h0 | h0
  · exact h e1 e2 pins s σ H x y v u Q I rx ry h0 e
  · exact h' e1 e2 pins s σ H x y v u Q I rx ry h0 e
theorem call_or {f : Value} {r r' : List V → Hp → VK → Prop} (h : CallR X f r) (h' : CallR X f r') : CallR X f (fun xs H Q => r xs H Q ∨ r' xs H Q) := fun pins s σ H xs us Q I rx h0 => by
  rcases h0 with h0 | h0
  · exact h pins s σ H xs us Q I rx h0
  · exact h' pins s σ H xs us Q I rx h0
end
end Dw
end
section
/-! for k, (a, b) in enumerate(zip(two lists)) -/
namespace Dw
open PySem PySem.Spec PyProof.Rows L2 Evl RZ
section
variable {prog : Program} {w : World} {A : Around} {E : Value → Shared → Prop} {s : Shared}
end
/-! a turn of a zip that may use its own tuple again -/
abbrev ZipF (h : Heap) (z TI TO : Addr) (f0 f1 : Value) : Prop := h.get? z = some { cls := .type "zip", dict := none, data := .fields #[f0, f1, .bool false, .ref TI, .ref TO], slots := #[] }
section
variable {prog : Program} {w : World} {A : Around} {E : Value → Shared → Prop} {s : Shared} {z TI TO T p q : Addr} {F G : List Addr} {n m i : Nat} {P R : Nat → Value → Prop} {U V : Nat → Heap → Prop} {f0 f1 a1 a2 : Value}
/-! next of a zip, whatever its own tuple is -/
/-- what stands of a zip between two turns -/
def ZTn (z TI TO p q a b : Addr) (i : Nat) (h : Heap) : Prop := IsTupOf2 h TI (.ref p) (.ref q) ∧ (∃ x y, IsTupOf2 h TO x y) ∧ (ZipF h z TI TO .none (.bool false) ∨ ∃ T f, IsZipHeld h z TI TO T f) ∧ h.IsListIter p a i ∧ h.IsListIter q b i
end
end Dw
end
section
/-! for k, (a, b) in enumerate(zip(two lists)): the walker -/
namespace Dw
open PySem PySem.Spec PyProof.Rows L2 Evl RZ
theorem ZTn.keep {z TI TO p q a b : Addr} {i : Nat} {h h' : Heap} (st : ZTn z TI TO p q a b i h) (k : ∀ c ∈ [z, TI, TO, p, q], ∀ o, h.get? c = some o → h'.get? c = some o) : ZTn z TI TO p q a b i h' := by
  obtain ⟨c1, ⟨x, y, c2⟩, c3, c4, c5⟩ := st
  refine ⟨k _ (by simp) _ c1, ⟨x, y, k _ (by simp) _ c2⟩, ?_, c4.at fun o e => k p (by simp) o e, c5.at fun o e => k q (by simp) o e⟩
  rcases c3 with c3 | ⟨T, f, c3⟩
  · exact .inl (k _ (by simp) _ c3)
  · exact .inr ⟨T, f, k _ (by simp) _ c3⟩
theorem FpOk.new {X : Cx} {pins : List (Addr × Obj)} {H : Hp} {b T : Addr} {o : HO} (h : FpOk X pins H b) (ne : b ≠ T) : FpOk X pins (upd H T o) b := ⟨by rw [upd_ne ne]; exact h.1, h.2⟩
end Dw
end
section
/-! enumerate(zip(two lists)): the expression -/
namespace Dw
open PySem PySem.Spec PyProof.Rows L2 Evl RZ
end Dw
end
section
/-! l.extend(any tuple that is read) -/
namespace Dw
open PySem PySem.Spec PyProof.Rows L2 Evl RZ
section
variable {X : Cx}
end
end Dw
end
section
/-! [.. for k, (a, b) in enumerate(zip(two lists)) if ..] -/
namespace Dw
open PySem PySem.Spec PyProof.Rows L2 Evl RZ
section
variable {K : PySem.W.Frag} {σ : L2.St} {H H' : Hp} {te : TE} {tt : TT}
end
end Dw
end
section
/-! t.index(x), x any small data -/
namespace Dw
open PySem PySem.Spec PyProof.Rows L2 Evl RZ
theorem dps_len {K : PySem.W.Frag} {H : Hp} : ∀ {ys : List V} {ds : List PyData}, DpAll K H ys ds → ys.length = ds.length
  | _, _, .nil => rfl
  | _, _, .cons _ t => by rw [List.length_cons, List.length_cons, dps_len t]
end Dw
end
section
namespace Dw
open PySem PySem.Spec PyProof.Rows L2
/-! list(a text): its signs -/
end Dw
end
section
/-! zip(a list, a tuple): as many pairs as the shorter has -/
namespace Dw
open PySem PySem.Spec PyProof.Rows L2 Evl RZ
/-- the list at a, the tuple at b: their items in new pairs -/
def ItzM (K : PySem.W.Frag) (a b : Addr) : It :=
  ⟨fun i H => ∃ (xs ys : List V) (x y : V), SqL K H a xs ∧ SqT K H b ys ∧ xs[i]? = some x ∧ ys[i]? = some y,
   fun i H v H' => ∃ T x y, v = .ref T ∧ H T = none ∧ H' = upd H T (.tup [x, y]) ∧ (∀ xs, SqL K H a xs → xs[i]? = some x) ∧ (∀ ys, SqT K H b ys → ys[i]? = some y),
   fun i H => ∃ xs ys : List V, SqL K H a xs ∧ SqT K H b ys ∧ i ≤ xs.length ∧ i ≤ ys.length ∧ (i = xs.length ∨ i = ys.length)⟩
def StandsM (z TI TO i1 i2 a b : Addr) (i : Nat) (hp : Heap) : Prop := IsZip hp z TI TO .none ∧ IsTupOf2 hp TI (.ref i1) (.ref i2) ∧ (∃ x y, IsTupOf2 hp TO x y) ∧ hp.IsListIter i1 a i ∧ hp.IsTupleIter i2 b i
theorem five {c z TI TO i1 i2 : Addr} {P : Addr → Prop} (h : c ∈ [z, TI, TO, i1, i2]) (p1 : P z) (p2 : P TI) (p3 : P TO) (p4 : P i1) (p5 : P i2) : P c := by
  simp only [List.mem_cons, List.not_mem_nil, or_false] at h
  rcases h with e | e | e | e | e <;> (rw [e]; assumption)
theorem StandsM.low {z TI TO i1 i2 a b : Addr} {i : Nat} {hp : Heap} (st : StandsM z TI TO i1 i2 a b i hp) {c : Addr} (h : c ∈ [z, TI, TO, i1, i2]) : c < hp.objs.size := by
  obtain ⟨hz, hI, ⟨x, y, hO⟩, ⟨o1, e1, _⟩, ⟨o2, e2, _⟩⟩ := st
  exact five (P := fun c => c < hp.objs.size) h (Heap.lt_size hz) (Heap.lt_size hI) (Heap.lt_size hO) (Heap.lt_size e1) (Heap.lt_size e2)
theorem turn_zipM {P : Program} {w : World} {K : PySem.W.Frag} {elts : List Expr} {kk : Nat} {tpos : Pos} {a b z TI TO i1 i2 : Addr} (S : ZipSep2 z TI TO i1 i2 [i1, a] [i2, b]) : Turn P w K (.Tuple elts kk tpos) (ItzM K a b) [z, TI, TO, i1, i2] z (StandsM z TI TO i1 i2 a b) where
  mem := List.mem_cons_self ..
  obj := by
    intro i hp st c hc
    obtain ⟨hz, hI, ⟨x, y, hO⟩, ⟨o1, e1, _, d1⟩, ⟨o2, e2, _, d2⟩⟩ := st
    exact five (P := fun c => ∃ o, hp.get? c = some o ∧ ∀ v, o.data ≠ .cell v) hc ⟨_, hz, fun _ q => nomatch q⟩ ⟨_, hI, fun _ q => nomatch q⟩ ⟨_, hO, fun _ q => nomatch q⟩ ⟨o1, e1, fun v q => by rw [d1] at q; cases q⟩ ⟨o2, e2, fun v q => by rw [d2] at q; cases q⟩
  keep := by
    intro i hp hp' st same
    obtain ⟨hz, hI, ⟨x, y, hO⟩, h1, h2⟩ := st
    have at_ : ∀ c, c ∈ [z, TI, TO, i1, i2] → ∀ o, hp.get? c = some o → hp'.get? c = some o := same
    exact ⟨at_ z (by simp) _ hz, at_ TI (by simp) _ hI, ⟨x, y, at_ TO (by simp) _ hO⟩, h1.at (at_ i1 (by simp)), h2.at (at_ i2 (by simp))⟩
  item := by
    intro X eP ew eK calm i pins s σ H E I free st here
    subst eP ew eK
    have low := fun {c : Addr} => st.low (c := c)
    obtain ⟨hz, hI, ⟨x0, y0, hO⟩, h1, h2⟩ := st
    obtain ⟨xs, ys, x, y, hx, hy, atx, aty⟩ := here
    obtain ⟨cs, rel, pl, _⟩ := I.list hx
    obtain ⟨ds, rel2, pt, _⟩ := I.tuple hy
    obtain ⟨u, hu, ru⟩ := rel.get atx
    obtain ⟨u2, hu2, ru2⟩ := rel2.get aty
    have quiet : X.A.in1.handled = none := I.ok.hd calm
    have ne1 : a ≠ i1 := fun e => by
      obtain ⟨o1, g1, c1, _⟩ := h1
      obtain ⟨o2, g2, c2, _⟩ := pl.isList
      rw [e, g1] at g2
      cases g2
      rw [c1] at c2
      injection c2 with z
      exact absurd z (by decide)
    have ne2 : b ≠ i2 := fun e => by
      obtain ⟨o1, g1, c1, _⟩ := h2
      obtain ⟨o2, g2, c2, _⟩ := (show s.heap.IsTuple b ds.toArray from pt)
      rw [e, g1] at g2
      cases g2
      rw [c1] at c2
      injection c2 with z
      exact absurd z (by decide)
    have zl := low (c := z) (by simp)
    refine wpAny_pyNext_zipD2_item S (Draws.list (prog := X.prog) (w := X.w) quiet i1 a ne1 cs.toArray) (Draws.tuple (prog := X.prog) (w := X.w) quiet i2 b ne2 ds.toArray) hz hI hO ⟨h1, pl.isList⟩ ⟨h2, pt⟩ (by rw [List.size_toArray]; exact (List.getElem?_eq_some_iff.mp hu).1) (by rw [List.size_toArray]; exact (List.getElem?_eq_some_iff.mp hu2).1) fun v v2 hp1 tk p1 p2 z' O' s1 s2 pair _ same => ?_
    have ev : v = u := by
      have q : cs.toArray[i]? = some v := p1
      rw [List.getElem?_toArray, hu] at q
      exact (Option.some.inj q).symm
    have ev2 : v2 = u2 := by
      have q : ds.toArray[i]? = some v2 := p2
      rw [List.getElem?_toArray, hu2] at q
      exact (Option.some.inj q).symm
    subst ev ev2
    refine ⟨_, rfl, wpAny_letOwnedTupleGo_zip (s := { s with heap := hp1, toks := tk }) z' fun hp2 z'' but => ?_⟩
    have pair2 : hp2.get? s.heap.objs.size = some { cls := .type "tuple", data := .seq #[v, v2] } := (but.2 _ (Nat.ne_of_gt zl)).trans pair
    have fine : ObjOk X.prog X.w (upd H s.heap.objs.size (.tup [x, y])) hp2 s.heap.objs.size (.tup [x, y]) := And.intro (show 2 ≤ sizeLine by decide) ⟨[v, v2], .cons ru (.cons ru2 .nil), _, pair2, rfl, _, rfl⟩
    have still : ∀ c o, c ∉ [z, TI, TO, i1, i2] → s.heap.get? c = some o → hp2.get? c = some o := fun c o nc q => by
      simp only [List.mem_cons, List.not_mem_nil, or_false, not_or] at nc
      rw [but.2 c nc.1]
      exact same c o nc.1 nc.2.2.1 nc.2.2.2.1 nc.2.2.2.2 q
    have J := I.turnedNew (ch := [z, TI, TO, i1, i2]) (t' := tk) still free (Nat.le_refl s.heap.objs.size) fine
    refine ⟨.ref s.heap.objs.size, _, J, rfl, ⟨_, x, y, rfl, I.hok.fresh (Nat.le_refl _), rfl, fun l hl => by rw [I.list_inj hl hx]; exact atx, fun l hl => by rw [I.tuple_inj hl hy]; exact aty⟩, ⟨z'', ?_, ⟨v, v2, ?_⟩, ?_, ?_⟩, fun c hc => ?_⟩
    · exact (but.2 _ S.TIz).trans (same _ _ S.TIz S.TITO S.TIi1 S.TIi2 hI)
    · exact (but.2 _ S.TOz).trans O'
    · exact s1.1.at fun o q => (but.2 _ (Ne.symm S.zi1)).trans q
    · exact s2.1.at fun o q => (but.2 _ (Ne.symm S.zi2)).trans q
    · rw [upd_ne (Nat.ne_of_lt (low hc))]
      exact (free c hc).1
  done := by
    intro X eP ew eK calm i pins s σ H E I free st over
    subst eP ew eK
    obtain ⟨hz, hI, ⟨x0, y0, hO⟩, h1, h2⟩ := st
    obtain ⟨xs, ys, hx, hy, l1, l2, ends⟩ := over
    obtain ⟨cs, rel, pl, _⟩ := I.list hx
    obtain ⟨ds, rel2, pt, _⟩ := I.tuple hy
    have quiet : X.A.in1.handled = none := I.ok.hd calm
    have n1 := rel.length
    have n2 := rel2.length
    have ne1 : a ≠ i1 := fun e => by
      obtain ⟨o1, g1, c1, _⟩ := h1
      obtain ⟨o2, g2, c2, _⟩ := pl.isList
      rw [e, g1] at g2
      cases g2
      rw [c1] at c2
      injection c2 with z
      exact absurd z (by decide)
    have ne2 : b ≠ i2 := fun e => by
      obtain ⟨o1, g1, c1, _⟩ := h2
      obtain ⟨o2, g2, c2, _⟩ := (show s.heap.IsTuple b ds.toArray from pt)
      rw [e, g1] at g2
      cases g2
      rw [c1] at c2
      injection c2 with z
      exact absurd z (by decide)
    exact wpAny_pyNext_zipD2_end S (Draws.list (prog := X.prog) (w := X.w) quiet i1 a ne1 cs.toArray) (Draws.tuple (prog := X.prog) (w := X.w) quiet i2 b ne2 ds.toArray) hz hI hO ⟨h1, pl.isList⟩ ⟨h2, pt⟩ (by rw [List.size_toArray]; omega) (by rw [List.size_toArray]; omega) (by rw [List.size_toArray, List.size_toArray]; omega) fun hp1 tk same =>
      ⟨rfl, I.turnedL (t' := tk) (ch := [z, TI, TO, i1, i2]) (fun c o nc q => by
        simp only [List.mem_cons, List.not_mem_nil, or_false, not_or] at nc
        exact same c o nc.1 nc.2.2.1 nc.2.2.2.1 nc.2.2.2.2 q) free⟩
  self := fun A i s Q E st h => wpAny_pyIter_zip st.1 h
theorem nq {x y : Nat} (h : x ≠ y) : ¬ @Eq Addr x y := h
theorem sepM (I l1 l2 : Nat) (h1 : l1 < I) (h2 : l2 < I) : ZipSep2 (I + 4) (I + 2) (I + 3) I (I + 1) [I, l1] [I + 1, l2] := by
  constructor <;> (simp only [List.mem_cons, List.not_mem_nil, or_false, not_or, ne_eq, true_or]; try first | exact nq (by omega) | exact ⟨nq (by omega), nq (by omega)⟩)
def iZipM (K : PySem.W.Frag) (ta : TA) : TI := fun σ H R => ta σ H fun vs H1 => ∃ a b xs ys, vs = [.ref a, .ref b] ∧ SqL K H1 a xs ∧ SqT K H1 b ys ∧ R (ItzM K a b) H1
theorem pi_zipM {X : Cx} {e e2 : Expr} {ta : TA} {p pos tpos : Pos} {elts : List Expr} {kk : Nat} (glob : Gl X "zip") (none_ : X.mg "zip" = none) (args : PA X [e, e2] ta)
    (star : starEach [e, e2] X.env = (false, eval e X.env) :: starEach [e2] X.env := by rfl) (plain : (backTo pos (starEach [e2] X.env)).any (·.1) = false := by rfl) : PI X (.Tuple elts kk tpos) (.Call (.Name "zip" p) [e, e2] [] pos) (iZipM X.K ta) := by
  constructor
  intro pins s σ H R I q0
  refine Call_ (ld_blt I glob none_ PyProof.Rows.boot_zip (PyProof.Rows.callWith_type1 (thn (args.run pos pins s σ H _ I q0) fun us s1 got => ?_) star plain))
  obtain ⟨vs, H1, J, rel, a, b, xs, ys, ev, hx, hy, q1⟩ := got
  subst ev
  cases rel with
  | cons r1 rel =>
    cases rel with
    | cons r2 rel =>
      cases rel
      cases r1
      cases r2
      obtain ⟨cs, _, pl, _⟩ := J.list hx
      obtain ⟨ds, _, pt, _⟩ := J.tuple hy
      have la : a < s1.heap.objs.size := pl.lt
      have lb : b < s1.heap.objs.size := by
        obtain ⟨o, ho, _⟩ := (show s1.heap.IsTuple b ds.toArray from pt)
        exact Heap.lt_size ho
      refine zip_begins2 (begins_list a cs.toArray) (begins_tuple b ds.toArray) pl.isList pt fun hp hz hI hO g1 g2 _ kept => wpAny_pyIter_zip hz ?_
      have J2 : Inv X pins σ H1 { s1 with heap := hp } := J.kept (t' := s1.toks) kept
      have sep := sepM s1.heap.objs.size a b la lb
      refine ⟨s1.heap.objs.size + 4, [s1.heap.objs.size + 4, s1.heap.objs.size + 2, s1.heap.objs.size + 3, s1.heap.objs.size, s1.heap.objs.size + 1], _, _, H1, rfl, J2, turn_zipM sep, ⟨hz, hI, ⟨_, _, hO⟩, ⟨_, g1, rfl, rfl⟩, ⟨_, g2, rfl, rfl⟩⟩, fun c hc => ?_, q1⟩
      have late : s1.heap.objs.size ≤ c := five (P := fun c => s1.heap.objs.size ≤ c) hc (Nat.le_add_right _ _) (Nat.le_add_right _ _) (Nat.le_add_right _ _) (Nat.le_refl _) (Nat.le_add_right _ _)
      exact J.fpOk late (J.hok.fresh late)
theorem walk_zipM {K : PySem.W.Frag} {a b : Addr} {xs ys : List V} {n : Nat} (hn : n = min xs.length ys.length) : Walk (ItzM K a b) n (fun H => SqL K H a xs ∧ SqT K H b ys) (YPair (fun i => xs[i]?) (fun i => ys[i]?)) := by
  refine ⟨fun i H hi q => ⟨xs, ys, xs[i]'(by omega), ys[i]'(by omega), q.1, q.2, List.getElem?_eq_getElem (by omega), List.getElem?_eq_getElem (by omega)⟩, fun H q => ⟨xs, ys, q.1, q.2, by omega, by omega, by omega⟩, fun i H v H' _ q y => ?_⟩
  obtain ⟨T, x1, x2, h1, h2, h3, h4, h5⟩ := y
  exact ⟨T, x1, x2, h1, h2, h3, h4 xs q.1, h5 ys q.2⟩
end Dw
end
section
/-! dicts told with the same keys and the same data -/
namespace Dw
open PySem PySem.Spec PyProof.Rows L2 Evl RZ
section
variable {X : Cx}
end
end Dw
end
section
/-! zip(a tuple, a list): as many pairs as the shorter has -/
namespace Dw
open PySem PySem.Spec PyProof.Rows L2 Evl RZ
def StandsN (z TI TO i1 i2 a b : Addr) (i : Nat) (hp : Heap) : Prop := IsZip hp z TI TO .none ∧ IsTupOf2 hp TI (.ref i1) (.ref i2) ∧ (∃ x y, IsTupOf2 hp TO x y) ∧ hp.IsTupleIter i1 a i ∧ hp.IsListIter i2 b i
theorem StandsN.low {z TI TO i1 i2 a b : Addr} {i : Nat} {hp : Heap} (st : StandsN z TI TO i1 i2 a b i hp) {c : Addr} (h : c ∈ [z, TI, TO, i1, i2]) : c < hp.objs.size := by
  obtain ⟨hz, hI, ⟨x, y, hO⟩, ⟨o1, e1, _⟩, ⟨o2, e2, _⟩⟩ := st
  exact five (P := fun c => c < hp.objs.size) h (Heap.lt_size hz) (Heap.lt_size hI) (Heap.lt_size hO) (Heap.lt_size e1) (Heap.lt_size e2)
end Dw
end
section
/-! list(zip(a, b)) -/
namespace Dw
open PySem PySem.Spec PyProof.Rows L2 Evl
/-- what a zip under way is, with S apart -/
structure ZG (z TI TO p q a b S : Addr) (t1 t2 : Bool) (xs ys : Array Value) (i : Nat) (h : Heap) : Prop where
  ti : IsTupOf2 h TI (.ref p) (.ref q)
  s1 : SqI t1 p a xs i h
  s2 : SqI t2 q b ys i h
  st : (IsZip h z TI TO .none ∧ ∃ x y, IsTupOf2 h TO x y) ∨ ∃ T f oT, IsZipHeld h z TI TO T f ∧ h.get? T = some oT ∧ T ≠ z ∧ T ≠ p ∧ T ≠ q ∧ T ≠ S
theorem ZG.keep {z TI TO p q a b S : Addr} {t1 t2 : Bool} {xs ys : Array Value} {i : Nat} {h h' : Heap} (g : ZG z TI TO p q a b S t1 t2 xs ys i h) (far : ∀ c ∈ [z, TI, TO, p, q, a, b], c < S) (k : ∀ c o, c ≠ S → h.get? c = some o → h'.get? c = some o) : ZG z TI TO p q a b S t1 t2 xs ys i h' := by
  have nz : ∀ c ∈ [z, TI, TO, p, q, a, b], c ≠ S := fun c hc => Nat.ne_of_lt (far c hc)
  obtain ⟨e1, e2, e3, e4⟩ := g
  refine ⟨k _ _ (nz TI (by simp)) e1, e2.keep fun c hc o e => ?_, e3.keep fun c hc o e => ?_, ?_⟩
  · rcases hc with x | x <;> subst x <;> exact k _ o (nz _ (by simp)) e
  · rcases hc with x | x <;> subst x <;> exact k _ o (nz _ (by simp)) e
  · rcases e4 with ⟨isZ, x, y, isO⟩ | ⟨T, f, oT, isZ, atT, r1, r2, r3, r4⟩
    · exact .inl ⟨k _ _ (nz z (by simp)) isZ, x, y, k _ _ (nz TO (by simp)) isO⟩
    · exact .inr ⟨T, f, oT, k _ _ (nz z (by simp)) isZ, k _ _ r4 atT, r1, r2, r3, r4⟩
section
variable {prog : Program} {w : World} {A : Around} {E : Value → Shared → Prop} {s : Shared} {z TI TO p q a b S : Addr} {t1 t2 : Bool} {xs ys : Array Value} {i : Nat}
end
section
variable {prog : Program} {w : World} {A : Around} {s : Shared} {R : Result → Shared → Prop} {z TI TO p q a b S : Addr} {t1 t2 : Bool} {xs ys : Array Value}
end
section
variable {prog : Program} {w : World} {A : Around} {E : Value → Shared → Prop} {s : Shared} {z TI TO p q a b : Addr} {t1 t2 : Bool} {xs ys : Array Value}
end
/-! laid down -/
end Dw
end
section
/-! a tuple times 0 or 1 -/
namespace Dw
open PySem PySem.Spec PyProof.Rows L2
end Dw
end
section
/-! a caught exception that is kept: it is told from the catch on, so that isinstance can be asked of it behind the try -/
namespace Dw
open PySem PySem.Spec PyProof.Rows L2
/-- an exception of the class cls, that is no longer in the air -/
def ExcAt (a : Addr) (cls : Value) (d : Option Addr) : HO := .ext fun h => ∃ ob fv, h.get? a = some ob ∧ Zc cls d ob ∧ ob.data = .fields fv
section
variable {X : Cx} {pins : List (Addr × Obj)} {σ : L2.St} {H : Hp} {s : Shared}
end
section
variable {X : Cx} {x n : Str} {c : Value} {i : Nat} {body suite : List Stmt} {b0 : Stmt} {np p1 p2 : Pos} {tb : WX → TS} {ts : TS}
end
end Dw
end
section
/-! isinstance of a kept exception; defs that raise, called in a try -/
namespace Dw
open PySem PySem.Spec PyProof.Rows L2 Evl
/-- a pure promise of a new thing -/
def spF {α : Type} (pre : α → List V → Hp → Prop) (post : α → V → Hp → Prop) : Sp := fun vs H Q _ => ∃ a, pre a vs H ∧ ∀ v H', Ex H H' → post a v H' → (∀ d, v = .ref d → H d = none) → Q v H'
end Dw
end
section
/-! repr of a written list with dicts of data among its items -/
namespace Dw
open PySem PySem.Spec PyProof.Rows L2 Evl
/-! data of texts, numbers and tuples alone: no place is told of it -/
mutual
def noL : PyData → Bool
  | .none | .bool _ | .int _ | .str _ => true
  | .tuple xs => noLs xs
  | .list _ | .dict _ => false
def noLs : List PyData → Bool
  | [] => true
  | x :: xs => noL x && noLs xs
end
section
variable {X : Cx} {pins : List (Addr × Obj)} {σ : L2.St} {H : Hp} {s : Shared}
end
/-! sizes -/
structure Gs (k W : Nat) (d : PyData) : Prop where
  dep : d.depth ≤ k
  wgt : d.weight ≤ W
  its : d.leavesShort 13 = true
  sho : d.showable = true
theorem Gs.mono {k W k' W' : Nat} {d : PyData} (h : Gs k W d) (a : k ≤ k') (b : W ≤ W') : Gs k' W' d := ⟨Nat.le_trans h.dep a, Nat.le_trans h.wgt b, h.its, h.sho⟩
theorem Gs.len {k W : Nat} {d : PyData} (h : Gs k W d) (b : W ≤ 1000000) : d.shown.length ≤ sizeLine := by
  have z := PyData.shown_le 13 (by decide) d h.its
  have y := h.wgt
  rw [sizeLine_eq]
  omega
end Dw
end
section
/-! == and != of deep data; isinstance of what was caught or of None, one class or a written tuple of them -/
namespace Dw
open PySem PySem.Spec PyProof.Rows L2 Evl
/-- None, or a kept exception: its type -/
def TyC (K : PySem.W.Frag) (H : Hp) (x : V) (t : Value) : Prop := (x = .non ∧ t = .type "NoneType") ∨ ∃ (a C : Addr), x = .ref a ∧ H a = some (ExcAt a (.ref C) none) ∧ ExcC K C ∧ t = .ref C
theorem TyC.ex {K : PySem.W.Frag} {H H' : Hp} {x : V} {t : Value} (e : Ex H H') (h : TyC K H x t) : TyC K H' x t := h.imp id fun ⟨a, C, h1, h2, h3, h4⟩ => ⟨a, C, h1, e _ _ h2, h3, h4⟩
end Dw
end
section
/-! defs that are only called where nothing is being shown, and repr in them -/
namespace Dw
open PySem PySem.Spec PyProof.Rows L2 Evl
end Dw
end
section
/-! in of a tuple of data; repr of deep data -/
namespace Dw
open PySem PySem.Spec PyProof.Rows L2 Evl
end Dw
end
section
/-! tuple * int, the int small, below 1 too -/
namespace Dw
open PySem PySem.Spec PyProof.Rows L2 Evl
end Dw
end
section
/-! repr of any data without dicts -/
namespace Dw
open PySem PySem.Spec PyProof.Rows L2 Evl
end Dw
end
section
/-! min and sum of a tuple of numbers -/
namespace Dw
open PySem PySem.Spec PyProof.Rows PyProof.V L2 Evl PySem.W
theorem minOf_le : ∀ (xs : List Int) (x : Int), (∀ y ∈ x :: xs, minOf x xs ≤ y) ∧ minOf x xs ∈ x :: xs
  | [], x => ⟨fun y hy => by rw [List.mem_singleton.mp hy]; exact Int.le_refl _, List.mem_cons_self ..⟩
  | z :: xs, x => by
    have e : minOf x (z :: xs) = minOf (if z < x then z else x) xs := by
      unfold minOf
      rw [List.foldl_cons]
      congr 1
      show (if decide (z < x) = true then z else x) = _
      by_cases h : z < x
      · rw [decide_eq_true h, if_pos rfl, if_pos h]
      · rw [decide_eq_false h, if_neg Bool.false_ne_true, if_neg h]
    obtain ⟨a, b⟩ := minOf_le xs (if z < x then z else x)
    rw [e]
    have c := a _ (List.mem_cons_self ..)
    refine ⟨fun y hy => ?_, ?_⟩
    · rcases List.mem_cons.mp hy with rfl | hy
      · split at c
        · rename_i h; rw [if_pos h]; omega
        · rename_i h; rw [if_neg h]; exact c
      · rcases List.mem_cons.mp hy with rfl | hy
        · split at c
          · rename_i h; rw [if_pos h]; exact c
          · rename_i h; rw [if_neg h]; omega
        · exact a y (List.mem_cons_of_mem _ hy)
    · rcases List.mem_cons.mp b with b | b
      · rw [b]
        split
        · exact List.mem_cons_of_mem _ (List.mem_cons_self ..)
        · exact List.mem_cons_self ..
      · exact List.mem_cons_of_mem _ (List.mem_cons_of_mem _ b)
def rMinT (K : PySem.W.Frag) : List V → Hp → VK → Prop := fun vs H Q => ∃ (a : Addr) (ns : List Int), vs = [V.ref a] ∧ SqT K H a (ns.map V.int) ∧ 0 < ns.length ∧ ∀ m, m ∈ ns → (∀ y, y ∈ ns → m ≤ y) → Q (.int m) H
theorem cr_minT {X : Cx} {k : Nat} (hc : X.calm = true) (hr : Room k X.A) : CallR X (.builtin "min") (rMinT X.K) := by
  intro pins s σ H vs us Q I r h
  obtain ⟨a, ns, rfl, hs, hne, q⟩ := h
  obtain ⟨its, rv, hl, _⟩ := I.tuple hs
  rw [Vals.ref1 r]
  cases ns with
  | nil => exact absurd hne (Nat.lt_irrefl 0)
  | cons x xs =>
    have hi : IntsAre its.toArray.toList (x :: xs) := by rw [List.toList_toArray]; exact ints_of rv
    have hu := hr.units
    have ho : HoldAll s.heap its.toArray.toList (x :: xs) := ⟨[], ints_readAll _ hi⟩
    refine min_tuple_datum (α := Int) (I.ok.hd hc) hl ho (by show X.A.units + 1 + 0 < _; omega) fun i v h' tk hv ho2 hk => ?_
    obtain ⟨a2, b2⟩ := minOf_le xs x
    obtain ⟨as, rd⟩ := ho2
    have rd' : Reads h' v (.int (minOf x xs)) as := rd
    cases rd' with
    | int _ t => exact ⟨.int _, H, I.kept hk, ⟨t, rfl⟩, q _ b2 a2⟩
def rSumT (K : PySem.W.Frag) : List V → Hp → VK → Prop := fun vs H Q => ∃ (a : Addr) (ns : List Int), vs = [V.ref a] ∧ SqT K H a (ns.map V.int) ∧ Q (.int ns.sum) H
theorem cr_sumT {X : Cx} (hc : X.calm = true) : CallR X (.builtin "sum") (rSumT X.K) := by
  intro pins s σ H vs us Q I r h
  obtain ⟨a, ns, rfl, hs, q⟩ := h
  obtain ⟨its, rv, hl, _⟩ := I.tuple hs
  rw [Vals.ref1 r]
  have hi : IntsAre its ns := ints_of rv
  obtain ⟨xs, hx⟩ := hi.allInts.items
  have hn : numsOf its.toArray.toList = ns := by rw [show its.toArray.toList = its from rfl, hi.numsOf]
  rw [hx] at hl hn
  rw [nums_intItems] at hn
  refine ktm_sumG (I.ok.hd hc) hl fun h' tk t' hk => ⟨.int ns.sum, H, I.kept hk, ⟨t', ?_⟩, q⟩
  rw [preSum_eq, List.take_of_length_le (by simp), hn]
theorem sum_ints : ∀ ns : List Nat, (ns.map fun k => ((k : Nat) : Int)).sum = ((ns.sum : Nat) : Int)
  | [] => rfl
  | x :: r => by rw [List.map_cons, List.sum_cons, List.sum_cons, sum_ints r, Int.natCast_add]
section
variable {K : PySem.W.Frag} {σ : L2.St} {H : Hp} {te : TE}
/-- sum(t) of numbers is a number -/
theorem ep_sumT {ns : List Nat} {P : V → Hp → Prop} (h : EvP te σ H P) (hp : ∀ v H1, P v H1 → Nats K H1 v ns) : Ev (tCB (rSumT K) (tCons te tNil)) σ H (vi ns.sum) := fun H1 e Q q =>
  h H1 e _ fun v H2 e2 hv => by
    obtain ⟨a, rfl, s⟩ := hp v H2 hv
    refine ⟨a, ns.map fun k => ((k : Nat) : Int), rfl, by rw [List.map_map]; exact s, ?_⟩
    rw [sum_ints ns]
    exact q H2 e2
theorem ep_maxT {ns : List Nat} (h : EvP te σ H (fun v H' => Nats K H' v ns)) (ne : ns ≠ []) : EvP (tCB (rMaxT K) (tCons te tNil)) σ H (fun v _ => ∃ k ∈ ns, v = vi k) := fun H1 e Q q =>
  h H1 e _ fun v H2 e2 ⟨a, hv, s⟩ => by
    subst hv
    refine ⟨a, ns.map fun k => ((k : Nat) : Int), rfl, by rw [List.map_map]; exact s, by rw [List.length_map]; exact List.length_pos_iff.mpr ne, fun m hm _ => ?_⟩
    obtain ⟨k, hk, rfl⟩ := List.mem_map.mp hm
    exact q _ H2 e2 ⟨k, hk, rfl⟩
theorem ep_minT {ns : List Nat} (h : EvP te σ H (fun v H' => Nats K H' v ns)) (ne : ns ≠ []) : EvP (tCB (rMinT K) (tCons te tNil)) σ H (fun v _ => ∃ k ∈ ns, v = vi k) := fun H1 e Q q =>
  h H1 e _ fun v H2 e2 ⟨a, hv, s⟩ => by
    subst hv
    refine ⟨a, ns.map fun k => ((k : Nat) : Int), rfl, by rw [List.map_map]; exact s, by rw [List.length_map]; exact List.length_pos_iff.mpr ne, fun m hm _ => ?_⟩
    obtain ⟨k, hk, rfl⟩ := List.mem_map.mp hm
    exact q _ H2 e2 ⟨k, hk, rfl⟩
end
end Dw
end
section
/-! closed lists of numbers: the mathematics -/
namespace CL
open M20 M25
/-- the place of a row -/
def plc (n : Nat) (ns : List Nat) : Nat := ns.foldl (fun acc k => acc * n + k) 0
theorem plc_low {n : Nat} : ∀ {ns : List Nat}, (∀ k ∈ ns, k < n) → ns.length ≤ 2 → plc n ns < n ^ ns.length
  | [], _, _ => by
    show 0 < n ^ 0
    rw [Nat.pow_zero]
    decide
  | [a], h, _ => by
    have := h a (List.mem_singleton.mpr rfl)
    show 0 * n + a < n ^ 1
    rw [Nat.pow_one, Nat.zero_mul, Nat.zero_add]
    exact this
  | [a, b], h, _ => by
    have ha := h a (List.mem_cons_self ..)
    have hb := h b (List.mem_cons_of_mem _ (List.mem_singleton.mpr rfl))
    show (0 * n + a) * n + b < n ^ 2
    rw [Nat.zero_mul, Nat.zero_add, Nat.pow_two]
    have : (a + 1) * n ≤ n * n := Nat.mul_le_mul_right n ha
    rw [Nat.add_mul, Nat.one_mul] at this
    omega
  | _ :: _ :: _ :: _, _, h => absurd h (by simp)
theorem plc_take {n : Nat} {ns : List Nat} {i k : Nat} (h : ns[i]? = some k) : plc n (ns.take (i + 1)) = plc n (ns.take i) * n + k := by
  unfold plc
  rw [List.take_add_one, h, List.foldl_append]
  rfl
theorem rows_plc {n p : Nat} (p2 : p ≤ 2) (n1 : 0 < n) {i : Nat} (h : i < n ^ p) : ∃ r, (rows n p)[i]? = some r ∧ plc n r = i := by
  match p, p2, h with
  | 0, _, h =>
    rw [Nat.pow_zero] at h
    have : i = 0 := by omega
    subst this
    exact ⟨[], rfl, rfl⟩
  | 1, _, h =>
    rw [Nat.pow_one] at h
    refine ⟨[i], ?_, by show 0 * n + i = i; omega⟩
    rw [rows_1, List.getElem?_map, List.getElem?_range h]
    rfl
  | 2, _, h =>
    rw [Nat.pow_two] at h
    refine ⟨[i / n, i % n], ?_, ?_⟩
    · rw [rows_2 n1, List.getElem?_map, List.getElem?_range h]
      rfl
    · show (0 * n + i / n) * n + i % n = i
      rw [Nat.zero_mul, Nat.zero_add, Nat.mul_comm]
      exact Nat.div_add_mod i n
theorem rows_plc' {n p : Nat} (p2 : p ≤ 2) (n1 : 0 < n) {i : Nat} {r : List Nat} (h : (rows n p)[i]? = some r) : plc n r = i ∧ i < n ^ p := by
  have hi := (List.getElem?_eq_some_iff.mp h).1
  rw [rows_len'] at hi
  obtain ⟨r', e, q⟩ := rows_plc p2 n1 hi
  rw [h] at e
  rw [Option.some.inj e]
  exact ⟨q, hi⟩
section
variable {α : Type}
/-- the cells of a model with their worths -/
def cws (n : Nat) (sg : List (α × Nat)) (ts : List (List Nat)) : List (α × List Nat × Nat) := (sg.zip ts).flatMap fun x => ((rows n x.1.2).zip x.2).map fun y => (x.1.1, y.1, y.2)
theorem cws_mem {n : Nat} {sg : List (α × Nat)} {ts : List (List Nat)} {c : α × List Nat × Nat} : c ∈ cws n sg ts ↔ ∃ (i : Nat) (d : α × Nat) (t : List Nat) (j : Nat) (r : List Nat), sg[i]? = some d ∧ ts[i]? = some t ∧ (rows n d.2)[j]? = some r ∧ t[j]? = some c.2.2 ∧ c.1 = d.1 ∧ c.2.1 = r := by
  unfold cws
  rw [List.mem_flatMap]
  constructor
  · rintro ⟨⟨d, t⟩, hx, hc⟩
    obtain ⟨i, hi⟩ := List.mem_iff_getElem?.mp hx
    obtain ⟨⟨r, w⟩, hy, e⟩ := List.mem_map.mp hc
    obtain ⟨j, hj⟩ := List.mem_iff_getElem?.mp hy
    rw [List.getElem?_zip_eq_some] at hi hj
    subst e
    exact ⟨i, d, t, j, r, hi.1, hi.2, hj.1, hj.2, rfl, rfl⟩
  · rintro ⟨i, d, t, j, r, h1, h2, h3, h4, h5, h6⟩
    refine ⟨(d, t), List.mem_iff_getElem?.mpr ⟨i, List.getElem?_zip_eq_some.mpr ⟨h1, h2⟩⟩, ?_⟩
    refine List.mem_map.mpr ⟨(r, c.2.2), List.mem_iff_getElem?.mpr ⟨j, List.getElem?_zip_eq_some.mpr ⟨h3, h4⟩⟩, ?_⟩
    obtain ⟨a, b, d'⟩ := c
    show (d.1, r, d') = (a, b, d')
    rw [← h5, ← h6]
/-- all arguments are among these -/
def among (r S : List Nat) : Bool := r.all fun a => decide (a ∈ S)
/-- a cell leads out of a list -/
def outs (S : List Nat) (c : α × List Nat × Nat) : Bool := !decide (c.2.2 ∈ S) && among c.2.1 S
def closed (cs : List (α × List Nat × Nat)) (S : List Nat) : Bool := cs.all fun c => !outs S c
end
/-! ### rising lists -/
def sub : Nat → List (List Nat)
  | 0 => [[]]
  | k + 1 => sub k ++ (sub k).map (· ++ [k])
/-! ### building -/
section
variable {α : Type}
/-- steps: numbers given, then worths of cells of what is there -/
inductive Built (cs : List (α × List Nat × Nat)) (ms : List Nat) : List (Nat × Option (α × List Nat)) → Prop where
  | base : Built cs ms (ms.map fun k => (k, none))
  | step {st : List (Nat × Option (α × List Nat))} {c : α × List Nat × Nat} : Built cs ms st → c ∈ cs → c.2.2 ∉ st.map (·.1) → (∀ a ∈ c.2.1, a ∈ st.map (·.1)) → Built cs ms (st ++ [(c.2.2, some (c.1, c.2.1))])
theorem Built.low {cs : List (α × List Nat × Nat)} {ms : List Nat} {st : List (Nat × Option (α × List Nat))} {n : Nat} (l1 : ∀ k ∈ ms, k < n) (l2 : ∀ c ∈ cs, c.2.2 < n) (h : Built cs ms st) : ∀ k ∈ st.map (·.1), k < n := by
  induction h with
  | base =>
    intro k hk
    obtain ⟨x, hx, rfl⟩ := List.mem_map.mp hk
    obtain ⟨y, hy, rfl⟩ := List.mem_map.mp hx
    exact l1 _ hy
  | step b hc hn ha ih =>
    intro k hk
    rw [List.map_append] at hk
    rcases List.mem_append.mp hk with z | z
    · exact ih k z
    · rw [List.mem_singleton.mp z]
      exact l2 _ hc
end
end CL
end
section
/-! lists of lists of numbers, each at its own new place -/
namespace Dw
open PySem PySem.Spec PyProof.Rows L2 Evl PySem.W M25
/-- a list of numbers at its place -/
def LN (H : Hp) (v : V) (ns : List Nat) : Prop := ∃ a, v = .ref a ∧ H a = some (.lst (ns.map vi))
theorem LN.ex {H H' : Hp} {v : V} {ns : List Nat} (e : Ex H H') (h : LN H v ns) : LN H' v ns := let ⟨a, q, s⟩ := h; ⟨a, q, e _ _ s⟩
theorem dp_ln {K : PySem.W.Frag} {H : Hp} {b : Addr} {ns : List Nat} (h : H b = some (.lst (ns.map vi))) : Dp K H (.ref b) (dL ns) := .lst (sq_of h) (dps_nats ns)
/-- a new list of new lists, all at places of their own, none there in H0 -/
structure LLs (H0 H : Hp) (a : Addr) (as : List Addr) (L : List (List Nat)) : Prop where
  at_ : H a = some (.lst (as.map V.ref))
  new : H0 a = none
  each : Paired (fun b ns => H b = some (.lst (ns.map vi)) ∧ H0 b = none) as L
  nd : as.Nodup
  ne : a ∉ as
theorem LLs.ex {H0 H H' : Hp} {a : Addr} {as : List Addr} {L : List (List Nat)} (e : Ex H H') (h : LLs H0 H a as L) : LLs H0 H' a as L := ⟨e _ _ h.at_, h.new, paired_imp (fun _ _ z => ⟨e _ _ z.1, z.2⟩) h.each, h.nd, h.ne⟩
theorem LLs.low {H0 H1 H : Hp} {a : Addr} {as : List Addr} {L : List (List Nat)} (e : Ex H0 H1) (h : LLs H1 H a as L) : LLs H0 H a as L := ⟨h.at_, fresh_back e h.new, paired_imp (fun _ _ z => ⟨z.1, fresh_back e z.2⟩) h.each, h.nd, h.ne⟩
theorem LLs.len {H0 H : Hp} {a : Addr} {as : List Addr} {L : List (List Nat)} (h : LLs H0 H a as L) : as.length = L.length := paired_len h.each
theorem LLs.some {H0 H : Hp} {a : Addr} {as : List Addr} {L : List (List Nat)} (h : LLs H0 H a as L) {b : Addr} (hb : b ∈ as) : ∃ ns, ns ∈ L ∧ H b = some (.lst (ns.map vi)) ∧ H0 b = none := by
  obtain ⟨i, hi⟩ := List.mem_iff_getElem?.mp hb
  obtain ⟨ns, e, q⟩ := paired_at h.each hi
  exact ⟨ns, List.mem_iff_getElem?.mpr ⟨i, e⟩, q⟩
theorem dps_lls {K : PySem.W.Frag} {H : Hp} : ∀ {as : List Addr} {L : List (List Nat)}, Paired (fun b ns => H b = some (.lst (ns.map vi))) as L → DpAll K H (as.map V.ref) (L.map dL)
  | _, _, .nil => .nil
  | _, _, .cons a b => .cons (dp_ln a) (dps_lls b)
theorem LLs.dp {K : PySem.W.Frag} {H0 H : Hp} {a : Addr} {as : List Addr} {L : List (List Nat)} (h : LLs H0 H a as L) : Dp K H (.ref a) (.list (L.map dL)) := .lst (sq_of h.at_) (dps_lls (paired_imp (fun _ _ z => z.1) h.each))
theorem gd_lls {L : List (List Nat)} (h : ∀ o ∈ L, (∀ k ∈ o, k ≤ 1000) ∧ o.length ≤ 36) (l : L.length ≤ 720) : Gd 2 (720 * 397) (.list (L.map dL)) := gd_lst (fun d hd => by
  obtain ⟨o, ho, rfl⟩ := List.mem_map.mp hd
  exact gd_dL (h o ho).1 (h o ho).2) (by rw [List.length_map]; exact l)
section
variable {K : PySem.W.Frag} {σ : L2.St} {H : Hp} {te tl : TE} {tt : TT} {g : TG} {vs : List Nat} {Q : VK}
/-- the source of a comprehension, read first -/
theorem lc_src (h : tl σ H fun x H1 => tLc (iList K (tC x)) g tt te vs σ H1 Q) : tLc (iList K tl) g tt te vs σ H Q := h
theorem cb1_src {r : List V → Hp → VK → Prop} (h : te σ H fun x H1 => r [x] H1 Q) : tCB r (tCons te tNil) σ H Q := h
/-- a comprehension over a list whose items are new lists of numbers -/
theorem do_lcNew {a : Addr} {xs : List V} {L : List (List Nat)} {j : Nat} (h : Ev tl σ H (.ref a)) (hx : SqL K H a xs) (hL : L.length = xs.length) (hn : xs.length ≤ 40000) (hwp : ∀ x, wipe ((wipe σ vs).set j (some x)) vs = wipe σ vs)
    (hs : ∀ (i : Nat) (x : V) (ns : List Nat) (H1 : Hp), Ex H H1 → xs[i]? = some x → L[i]? = some ns → EvL te ((wipe σ vs).set j (some x)) H1 (ns.map vi))
    (k : ∀ p as H1, Ex H H1 → LLs H H1 p as L → Q (.ref p) H1) : tLc (iList K tl) (gName j) tYes te vs σ H Q := by
  refine h H (Ex.refl _) _ fun H1 e1 => ⟨a, rfl, ⟨xs, ex_l e1 hx⟩, fun Dl nD => ?_⟩
  have nDH : H Dl = none := fresh_back e1 nD
  refine lc_it (walk_list (K := K) (a := a) (xs := xs)) (fun i H' => Ex H H' ∧ ∃ as, LLs H H' Dl as (L.take i)) ⟨e1.trans (Ex.new nD), [], upd_same, nDH, .nil, .nil, by simp⟩ (fun i H' _ ⟨e, _⟩ => ex_l e hx) (fun i x H2 H3 hi ⟨e2, as, ll⟩ y => ?_) (fun H2 ⟨e2, as, ll⟩ => ?_)
  · obtain ⟨rfl, hxi⟩ := y
    have hi2 : i < L.length := by omega
    refine ⟨hwp x, et_yes H3 (Ex.refl _) _ fun H4 e4 => ifT ?_⟩
    have e04 : Ex H H4 := e2.trans e4
    refine hs i x L[i] H4 e04 hxi (List.getElem?_eq_getElem hi2) H4 (Ex.refl _) _ fun b H5 nb e5 hb => ?_
    have ll5 := ll.ex (e4.trans e5)
    have la := ll.len
    rw [List.length_take] at la
    refine ⟨as.map V.ref, ll5.at_, by rw [List.length_map]; exact sz_lt (by omega), (e04.trans e5).mut nDH, as ++ [b], ?_⟩
    have nbH : H b = none := fresh_back e04 nb
    have bD : b ≠ Dl := fun z => by
      have := (ll.ex e4).at_
      rw [z, this] at nb
      cases nb
    have ba : b ∉ as := fun z => by
      obtain ⟨ns, _, q, _⟩ := (ll.ex e4).some z
      rw [q] at nb
      cases nb
    refine ⟨by rw [upd_same, List.map_append]; rfl, nDH, ?_, ?_, fun z => ?_⟩
    · rw [List.take_add_one, List.getElem?_eq_getElem hi2]
      refine paired_snoc' (R := fun c ns => (upd H5 Dl (.lst (as.map V.ref ++ [V.ref b]))) c = some (.lst (ns.map vi)) ∧ H c = none) (xs := as) (x := b) (y := L[i]) ⟨by rw [upd_ne bD]; exact hb, nbH⟩ ?_
      have : ∀ {as' : List Addr} {L' : List (List Nat)}, (∀ c ∈ as', c ≠ Dl) → Paired (fun b ns => H5 b = some (.lst (ns.map vi)) ∧ H b = none) as' L' → Paired (fun c ns => (upd H5 Dl (.lst (as.map V.ref ++ [V.ref b]))) c = some (.lst (ns.map vi)) ∧ H c = none) as' L' := fun {as'} {L'} hc p => by
        induction p with
        | nil => exact .nil
        | cons q r ih => exact .cons ⟨by rw [upd_ne (hc _ (List.mem_cons_self ..))]; exact q.1, q.2⟩ (ih fun c hcc => hc c (List.mem_cons_of_mem _ hcc))
      exact this (fun c hc z => ll.ne (z ▸ hc)) ll5.each
    · rw [List.nodup_append]
      exact ⟨ll.nd, List.pairwise_singleton _ _, fun x hx y hy e => ba (by rw [List.mem_singleton.mp hy] at e; rw [← e]; exact hx)⟩
    · rcases List.mem_append.mp z with z | z
      · exact ll.ne z
      · exact bD (List.mem_singleton.mp z).symm
  · refine k Dl as H2 e2 ?_
    rw [← hL, List.take_length] at ll
    exact ll
end
section
variable {K : PySem.W.Frag} {σ : L2.St} {H : Hp} {te tl : TE} {tt : TT} {g : TG} {vs : List Nat} {Q : VK}
/-- those of them that fit -/
theorem paired_filt {H0 H : Hp} {f : Nat → Bool} {f' : List Nat → Bool} : ∀ {as : List Addr} {L : List (List Nat)}, Paired (fun b ns => H b = some (.lst (ns.map vi)) ∧ H0 b = none) as L → (∀ i (h : i < L.length), f i = f' L[i]) →
    ∃ bs, given as.length f (fun i => .ref (as.getD i 0)) = bs.map V.ref ∧ bs.Sublist as ∧ Paired (fun b ns => H b = some (.lst (ns.map vi)) ∧ H0 b = none) bs (L.filter f') := by
  intro as
  have main : ∀ (m : Nat) (as : List Addr), as.length = m → ∀ {L : List (List Nat)}, Paired (fun b ns => H b = some (.lst (ns.map vi)) ∧ H0 b = none) as L → (∀ i (h : i < L.length), f i = f' L[i]) →
      ∃ bs, given as.length f (fun i => .ref (as.getD i 0)) = bs.map V.ref ∧ bs.Sublist as ∧ Paired (fun b ns => H b = some (.lst (ns.map vi)) ∧ H0 b = none) bs (L.filter f') := by
   intro m
   induction m with
   | zero =>
    intro as h0 L p _
    cases as with
    | nil => cases p; exact ⟨[], rfl, .slnil, .nil⟩
    | cons x r => cases h0
   | succ m ih0 =>
    intro as0 h0 L p hf
    have ne0 : as0 ≠ [] := fun z => by rw [z] at h0; cases h0
    obtain ⟨as, b, rfl⟩ : ∃ as b, as0 = as ++ [b] := ⟨_, _, (List.dropLast_concat_getLast ne0).symm⟩
    rw [List.length_append, List.length_singleton] at h0
    have ih := fun {L : List (List Nat)} => ih0 as (by omega) (L := L)
    clear ih0 ne0
    have ll := paired_len p
    rw [List.length_append, List.length_singleton] at ll
    obtain ⟨L', ns, rfl⟩ : ∃ L' ns, L = L' ++ [ns] := by
      have ne : L ≠ [] := fun z => by rw [z] at ll; cases ll
      exact ⟨_, _, (List.dropLast_concat_getLast ne).symm⟩
    rw [List.length_append, List.length_singleton] at ll
    have l2 : as.length = L'.length := by omega
    have p1 : Paired (fun b ns => H b = some (.lst (ns.map vi)) ∧ H0 b = none) as L' ∧ (H b = some (.lst (ns.map vi)) ∧ H0 b = none) := by
      clear ih hf ll h0
      induction as generalizing L' with
      | nil =>
        cases L' with
        | nil => cases p with | cons q r => exact ⟨.nil, q⟩
        | cons y r => cases l2
      | cons x as ih2 =>
        cases L' with
        | nil => cases l2
        | cons y r =>
          cases p with
          | cons q t =>
            obtain ⟨u, v⟩ := ih2 r t (by simpa using l2)
            exact ⟨.cons q u, v⟩
    obtain ⟨bs, e, sl, pb⟩ := ih p1.1 fun i h => by
      rw [hf i (by rw [List.length_append]; omega), List.getElem_append_left h]
    have e' : given as.length f (fun i => V.ref ((as ++ [b]).getD i 0)) = bs.map V.ref := by
      rw [← e]
      unfold Evl.given
      refine List.map_congr_left fun i hi => ?_
      have := List.mem_range.mp (List.mem_filter.mp hi).1
      rw [List.getD_eq_getElem?_getD, List.getD_eq_getElem?_getD, List.getElem?_append_left this]
    have fl : f as.length = f' ns := by
      rw [hf as.length (by rw [List.length_append, List.length_singleton]; omega)]
      congr 1
      simp [l2]
    rw [List.length_append, List.length_singleton, List.filter_append]
    cases hb : f' ns with
    | true =>
      rw [given_yes (by rw [fl, hb])]
      refine ⟨bs ++ [b], ?_, List.Sublist.append sl (List.Sublist.refl _), ?_⟩
      · rw [e', List.map_append]
        simp [List.getD_eq_getElem?_getD]
      · rw [List.filter_cons_of_pos hb, List.filter_nil]
        exact paired_snoc' (R := fun b ns => H b = some (.lst (ns.map vi)) ∧ H0 b = none) (x := b) (y := ns) p1.2 pb
    | false =>
      rw [given_no (by rw [fl, hb])]
      refine ⟨bs, e', sl.trans (List.sublist_append_left _ _), ?_⟩
      rw [List.filter_cons_of_neg (by rw [hb]; decide), List.filter_nil, List.append_nil]
      exact pb
  exact fun {L} => main as.length as rfl (L := L)
theorem do_lcFit {H0 : Hp} {a : Addr} {as : List Addr} {L : List (List Nat)} {f : List Nat → Bool} {j : Nat} (h : Ev tl σ H (.ref a)) (ll : LLs H0 H a as L) (h0 : Ex H0 H) (hn : L.length ≤ 40000) (hwp : ∀ x, wipe ((wipe σ vs).set j (some x)) vs = wipe σ vs)
    (hj : ∀ x, ((wipe σ vs).set j (some x))[j]? = some (some x))
    (hs : ∀ b ns H1, Ex H H1 → ns ∈ L → H1 b = some (.lst (ns.map vi)) → EvT tt ((wipe σ vs).set j (some (.ref b))) H1 (f ns))
    (k : ∀ p bs H1, Ex H H1 → bs.Sublist as → LLs H0 H1 p bs (L.filter f) → Q (.ref p) H1) : tLc (iList K tl) (gName j) tt (tVar j) vs σ H Q := by
  have la := ll.len
  refine el_lcL (K := K) (fun i => f (L.getD i [])) (fun i => .ref (as.getD i 0)) h (sq_of ll.at_) (by rw [List.length_map]; omega) hwp (fun i x H1 e1 hxi => ?_) (fun i x H1 e1 hxi _ => ?_) H (Ex.refl _) _ fun p H1 np e1 hp => ?_
  · rw [List.getElem?_map] at hxi
    cases hb : as[i]? with
    | none => rw [hb] at hxi; cases hxi
    | some b =>
      rw [hb] at hxi
      cases Option.some.inj hxi
      obtain ⟨ns, hns, q, _⟩ := paired_at ll.each hb
      have e1' : L.getD i [] = ns := by rw [List.getD_eq_getElem?_getD, hns]; rfl
      have e2' : as.getD i 0 = b := by rw [List.getD_eq_getElem?_getD, hb]; rfl
      show EvT tt _ H1 (f (L.getD i []))
      rw [e1']
      exact hs b ns H1 e1 (List.mem_iff_getElem?.mpr ⟨i, hns⟩) (e1 _ _ q)
  · rw [List.getElem?_map] at hxi
    cases hb : as[i]? with
    | none => rw [hb] at hxi; cases hxi
    | some b =>
      rw [hb] at hxi
      cases Option.some.inj hxi
      have e2' : as.getD i 0 = b := by rw [List.getD_eq_getElem?_getD, hb]; rfl
      show Ev _ _ H1 (.ref (as.getD i 0))
      rw [e2']
      exact ev_var (hj _)
  · obtain ⟨bs, e, sl, pb⟩ := paired_filt (f := fun i => f (L.getD i [])) (f' := f) ll.each fun i hi => by
      show f (L.getD i []) = f L[i]
      rw [List.getD_eq_getElem?_getD, List.getElem?_eq_getElem hi]
      rfl
    rw [List.length_map, e] at hp
    refine k p bs H1 e1 sl ⟨hp, fresh_back h0 np, paired_imp (fun _ _ z => ⟨e1 _ _ z.1, z.2⟩) pb, ll.nd.sublist sl, fun z => ?_⟩
    obtain ⟨ns, _, q, _⟩ := ll.some (sl.subset z)
    rw [q] at np
    cases np
end
section
variable {K : PySem.W.Frag} {σ : L2.St} {H : Hp} {D : Ends} {tu tz : TS} {g : TG}
/-- a loop over what is walked, as tFor has it behind its source -/
def Loops (J : It) (g : TG) (tu : TS) (D : Ends) (σ : L2.St) (H1 : Hp) : Prop := ∃ W : Nat → Nat → L2.St → Hp → Prop, (∃ m, W 0 m σ H1) ∧ ∀ i m σ H, W i m σ H →
  (J.stop i H ∧ D.nx σ H) ∨ (J.go i H ∧ ∃ N : L2.St → Hp → Prop, (∀ σ' H', N σ' H' → ∃ m', m' < m ∧ W (i + 1) m' σ' H') ∧ ∀ x H', J.yld i H x H' → g x σ H' fun σ2 H2 => tu { D with nx := N, ct := N, bk := D.nx } σ2 H2)
/-- for .. in zip(a list, a tuple) -/
theorem s_zipM {ta : TA} (h : ta σ H fun vs H1 => ∃ a b xs ys, vs = [.ref a, .ref b] ∧ SqL K H1 a xs ∧ SqT K H1 b ys ∧ Loops (ItzM K a b) g tu D σ H1) : tFor (iZipM K ta) g tu D σ H := h
theorem s_forLs {tl : TE} (h : tl σ H fun x H1 => ∃ a, x = .ref a ∧ (∃ xs, SqL K H1 a xs) ∧ Loops (Itl K a) g tu D σ H1) : tFor (iList K tl) g tu D σ H := h
theorem q_forLs {tl : TE} (h : tl σ H fun x H1 => ∃ a, x = .ref a ∧ (∃ xs, SqL K H1 a xs) ∧ Loops (Itl K a) g tu { D with nx := tz D } σ H1) : tSeq (tFor (iList K tl) g tu) tz D σ H := h
theorem loops_list {a : Addr} {xs : List V} (Pv : Nat → L2.St → Hp → Prop) (h0 : Pv 0 σ H) (hk : ∀ i σ' H', i ≤ xs.length → Pv i σ' H' → SqL K H' a xs)
    (hs : ∀ i x σ' H', xs[i]? = some x → Pv i σ' H' → g x σ' H' fun σ2 H2 => tu { D with nx := Pv (i + 1), ct := Pv (i + 1), bk := D.nx } σ2 H2) (hd : ∀ σ' H', Pv xs.length σ' H' → D.nx σ' H') : Loops (Itl K a) g tu D σ H :=
  for_it (walk_list (K := K) (a := a) (xs := xs)) Pv h0 hk (fun i v σ' H2 H3 hi p y => by
    obtain ⟨rfl, e1⟩ := y
    exact hs i v σ' _ e1 p) hd
theorem loops_zipM {a b : Addr} {xs ys : List V} (hl : xs.length = ys.length) (Pv : Nat → L2.St → Hp → Prop) (h0 : Pv 0 σ H) (hk : ∀ i σ' H', i ≤ xs.length → Pv i σ' H' → SqL K H' a xs ∧ SqT K H' b ys)
    (hs : ∀ i x y T σ' H', xs[i]? = some x → ys[i]? = some y → Pv i σ' H' → H' T = none → g (.ref T) σ' (upd H' T (.tup [x, y])) fun σ2 H2 => tu { D with nx := Pv (i + 1), ct := Pv (i + 1), bk := D.nx } σ2 H2) (hd : ∀ σ' H', Pv xs.length σ' H' → D.nx σ' H') : Loops (ItzM K a b) g tu D σ H :=
  for_it (walk_zipM (n := xs.length) (by omega)) Pv h0 hk (fun i v σ' H2 H3 hi p y => by
    obtain ⟨T, x1, x2, rfl, nT, rfl, e1, e2⟩ := y
    exact hs i x1 x2 T σ' H2 e1 e2 p nT) hd
end
section
variable {K : PySem.W.Frag} {σ : L2.St} {H : Hp} {D : Ends} {tu tz : TS} {g : TG}
theorem qloops_list {a : Addr} {xs : List V} (Pv : Nat → L2.St → Hp → Prop) (h0 : Pv 0 σ H) (hk : ∀ i σ' H', i ≤ xs.length → Pv i σ' H' → SqL K H' a xs)
    (hs : ∀ i x σ' H', xs[i]? = some x → Pv i σ' H' → g x σ' H' fun σ2 H2 => tu { D with nx := Pv (i + 1), ct := Pv (i + 1), bk := tz D } σ2 H2) (hd : ∀ σ' H', Pv xs.length σ' H' → tz D σ' H') : Loops (Itl K a) g tu { D with nx := tz D } σ H :=
  loops_list (D := { D with nx := tz D }) Pv h0 hk hs hd
end
section
variable {K : PySem.W.Frag} {σ : L2.St} {H : Hp} {D : Ends} {ta te : TE} {tt : TT} {tz : TS} {P : V → Hp → Prop}
/-- a comprehension over a list, any target -/
theorem elp_lcLg {g : TG} {a : Addr} {xs : List V} {tl : TE} {vs : List Nat} (h : Ev tl σ H (.ref a)) (hx : SqL K H a xs) (hn : xs.length ≤ 40000) (f : Nat → Bool) (B : V → Nat → Hp → Prop) (hB : StbB B)
    (hs : ∀ (i : Nat) (x : V) (H1 : Hp), Ex H H1 → xs[i]? = some x → ∀ Φ : L2.St → Hp → Prop, (∀ σ2, wipe σ2 vs = wipe σ vs → EvT tt σ2 H1 (f i) → (f i = true → EvP te σ2 H1 (fun v H' => B v i H')) → Φ σ2 H1) → g x (wipe σ vs) H1 Φ) :
    EvLP (tLc (iList K tl) g tt te vs) σ H (fun ws H' => Paired (fun v i => B v i H') ws ((List.range xs.length).filter f)) :=
  elp_lc (walk_list (K := K) (a := a) (xs := xs)) (fun H0 e0 R r => h H0 e0 _ fun H1 e1 => ⟨a, rfl, ⟨xs, ex_l (e0.trans e1) hx⟩, r H1 e1⟩) (fun H1 e1 => ex_l e1 hx) hn f B hB fun i x H1 H2 hi e y => by
    obtain ⟨rfl, hxi⟩ := y
    exact ⟨Ex.refl _, fun Φ k => hs i x _ e hxi Φ k⟩
theorem paired_eqs {u : Nat → V} : ∀ {ws : List V} {is : List Nat}, Paired (fun v i => v = u i) ws is → ws = is.map u
  | _, _, .nil => rfl
  | _, _, .cons a b => by rw [List.map_cons, paired_eqs b, a]
end
section
variable {σ : L2.St} {H : Hp}
theorem ep_callF {α : Type} {pre : α → List V → Hp → Prop} {post : α → V → Hp → Prop} (a : α) {vs : List V} {E : XK} {ta : TA} (h : EvA ta σ H vs) (hp : ∀ H1, Ex H H1 → pre a vs H1) : EvP (tCall (spF pre post) [] E ta) σ H (fun v H' => post a v H' ∧ ∀ d, v = .ref d → H d = none) := fun H1 e Q q =>
  h H1 e _ fun H2 e2 => by
    rw [List.append_nil]
    exact ⟨a, hp H2 (e.trans e2), fun v H3 e3 p n => q v H3 (e2.trans e3) ⟨p, fun d z => fresh_back (e.trans e2) (n d z)⟩⟩
end
section
variable {K : PySem.W.Frag} {σ : L2.St} {H : Hp} {te : TE} {w : World}
end
section
variable {K : PySem.W.Frag} {σ : L2.St} {H : Hp} {ta tb te : TE}
end
section
variable {K : PySem.W.Frag} {σ : L2.St} {H : Hp} {ta tb te : TE} {Q : VK}
theorem paired_zip {α β : Type} {R : α → β → Prop} : ∀ {xs : List α} {ys : List β}, Paired R xs ys → (xs.zip ys).map (·.1) = xs ∧ (xs.zip ys).map (·.2) = ys ∧ ∀ q ∈ xs.zip ys, R q.1 q.2
  | _, _, .nil => ⟨rfl, rfl, fun _ z => nomatch z⟩
  | _, _, .cons a b => by
    obtain ⟨e1, e2, h⟩ := paired_zip b
    refine ⟨by rw [List.zip_cons_cons, List.map_cons, e1], by rw [List.zip_cons_cons, List.map_cons, e2], fun q hq => ?_⟩
    rw [List.zip_cons_cons] at hq
    rcases List.mem_cons.mp hq with z | z
    · rw [z]; exact a
    · exact h q z
theorem zip_paired {α β : Type} {R : α → β → Prop} : ∀ {qs : List (α × β)}, (∀ q ∈ qs, R q.1 q.2) → Paired R (qs.map (·.1)) (qs.map (·.2))
  | [], _ => .nil
  | q :: qs, h => .cons (h q (List.mem_cons_self ..)) (zip_paired fun x hx => h x (List.mem_cons_of_mem _ hx))
/-- sorted(a list of things that read as data): some arrangement -/
theorem do_sortP {β : Type} {R : V → β → Hp → Prop} {f : β → PyData} {a : Addr} {vs : List V} {L : List β} (hl : H a = some (.lst vs)) (pv : Paired (fun v b => R v b H) vs L) (dp : ∀ v b, R v b H → Dp K H v (f b)) (al : AllAlike (L.map f)) (so : Sortable (L.map f)) (dep : ∀ b ∈ L, (f b).depth ≤ 40) (st : ∀ v b H1, Ex H H1 → R v b H → R v b H1)
    (k : ∀ p vs' L' H1, H p = none → Ex H H1 → H1 p = some (.lst vs') → L'.Perm L → Paired (fun v b => R v b H1) vs' L' → Q (.ref p) H1) : rSortD K [.ref a] H Q := by
  obtain ⟨e1, e2, hq⟩ := paired_zip pv
  let qs : List (V × β) := vs.zip L
  let ps : List (V × PyData) := qs.map fun q => (q.1, f q.2)
  have e3 : ps.map (·.1) = vs := by
    rw [← e1]
    simp only [ps, qs, List.map_map]
    rfl
  have e4 : ps.map (·.2) = L.map f := by
    conv => rhs; rw [← e2]
    simp only [ps, qs, List.map_map]
    rfl
  refine ⟨a, ps, rfl, by rw [e3]; exact sq_of hl, fun p hp => ?_, by rw [e4]; exact al, by rw [e4]; exact so, fun p hp => ?_, fun l nl => ?_⟩
  · obtain ⟨q, hqq, rfl⟩ := List.mem_map.mp hp
    exact dp _ _ (hq q hqq)
  · obtain ⟨q, hqq, rfl⟩ := List.mem_map.mp hp
    exact dep q.2 (by rw [← e2]; exact List.mem_map.mpr ⟨q, hqq, rfl⟩)
  · have e5 : ps.mergeSort leD = (qs.mergeSort fun x y => leD (x.1, f x.2) (y.1, f y.2)).map fun q => (q.1, f q.2) := (List.map_mergeSort (r := fun x y : V × β => leD (x.1, f x.2) (y.1, f y.2)) (s := leD) (f := fun q : V × β => (q.1, f q.2)) fun a _ b _ => rfl).symm
    have pm : (qs.mergeSort fun x y => leD (x.1, f x.2) (y.1, f y.2)).Perm qs := List.mergeSort_perm _ _
    generalize (qs.mergeSort fun x y => leD (x.1, f x.2) (y.1, f y.2)) = rs at e5 pm
    rw [e5]
    refine k l (rs.map (·.1)) (rs.map (·.2)) _ nl (Ex.new nl) ?_ ?_ (zip_paired (R := fun (v : V) (b : β) => R v b (upd H l (.lst ((rs.map fun q => (q.1, f q.2)).map (·.1))))) fun q hqq => st _ _ _ (Ex.new nl) (hq q (pm.mem_iff.mp hqq)))
    · rw [upd_same, List.map_map]
      rfl
    · rw [← e2]
      exact pm.map _
end
section
variable {K : PySem.W.Frag} {σ : L2.St} {H : Hp} {D : Ends} {tu tz : TS} {g : TG}
theorem q_enumTs {ta : TA} (h : ta σ H fun vs H1 => ∃ tp xs, vs = [.ref tp] ∧ SqT K H1 tp xs ∧ Loops (IteT K tp) g tu { D with nx := tz D } σ H1) : tSeq (tFor (iEnumT K ta) g tu) tz D σ H := h
theorem qloops_enumT {a : Addr} {xs : List V} (Pv : Nat → L2.St → Hp → Prop) (h0 : Pv 0 σ H) (hk : ∀ i σ' H', i ≤ xs.length → Pv i σ' H' → SqT K H' a xs)
    (hs : ∀ i x T σ' H', xs[i]? = some x → Pv i σ' H' → H' T = none → g (.ref T) σ' (upd H' T (.tup [vi i, x])) fun σ2 H2 => tu { D with nx := Pv (i + 1), ct := Pv (i + 1), bk := tz D } σ2 H2) (hd : ∀ σ' H', Pv xs.length σ' H' → tz D σ' H') : Loops (IteT K a) g tu { D with nx := tz D } σ H :=
  for_it (D := { D with nx := tz D }) walk_enumT Pv h0 hk (fun i v σ' H2 H3 hi p y => by
    obtain ⟨T, x1, x2, rfl, nT, rfl, e1, e2⟩ := y
    cases Option.some.inj e1
    exact hs i x2 T σ' H2 e2 p nT) hd
theorem ep_maxI {te : TE} {xs : List Int} (h : EvP te σ H (fun v H' => TV K H' v (xs.map V.int))) (ne : xs ≠ []) : EvP (tCB (rMaxT K) (tCons te tNil)) σ H (fun v _ => ∃ m ∈ xs, v = .int m) := fun H1 e Q q =>
  h H1 e _ fun v H2 e2 ⟨a, hv, s⟩ => by
    subst hv
    exact ⟨a, xs, rfl, s, List.length_pos_iff.mpr ne, fun m hm _ => q _ H2 e2 ⟨m, hm, rfl⟩⟩
/-- a comprehension over a tuple, any target -/
theorem elp_lcTg {te : TE} {tt : TT} {g : TG} {a : Addr} {xs : List V} {tl : TE} {vs : List Nat} (h : Ev tl σ H (.ref a)) (hx : SqT K H a xs) (hn : xs.length ≤ 40000) (f : Nat → Bool) (B : V → Nat → Hp → Prop) (hB : StbB B)
    (hs : ∀ (i : Nat) (x : V) (H1 : Hp), Ex H H1 → xs[i]? = some x → ∀ Φ : L2.St → Hp → Prop, (∀ σ2, wipe σ2 vs = wipe σ vs → EvT tt σ2 H1 (f i) → (f i = true → EvP te σ2 H1 (fun v H' => B v i H')) → Φ σ2 H1) → g x (wipe σ vs) H1 Φ) :
    EvLP (tLc (iTup K tl) g tt te vs) σ H (fun ws H' => Paired (fun v i => B v i H') ws ((List.range xs.length).filter f)) :=
  elp_lc (walk_tup (K := K) (a := a) (xs := xs)) (fun H0 e0 R r => w_tup h hx H0 e0 R r) (fun H1 e1 => ex_t e1 hx) hn f B hB fun i x H1 H2 hi e y => by
    obtain ⟨rfl, hxi⟩ := y
    exact ⟨Ex.refl _, fun Φ k => hs i x _ e hxi Φ k⟩
/-- list.index of texts, the list by what holds of it -/
theorem ev_sindex {to te : TE} {ys : List Str} {z : Str} (h : EvL to σ H (ys.map V.str)) (hz : Ev te σ H (.str z)) (mem : z ∈ ys) : Ev (tBM K "list" (rIndex K) to (tCons te tNil)) σ H (vi (ys.idxOf z)) := fun H1 e Q q =>
  h H1 e _ fun a H2 na e2 ha => ⟨Or.inl ⟨rfl, _, sq_of ha⟩, hz H2 (e.trans e2) _ fun H3 e3 => by
    have hi : ys.idxOf z < ys.length := List.idxOf_lt_length_iff.mpr mem
    refine ⟨a, ys.map V.str, .str z, ys.idxOf z, .str z, rfl, rfl, sq_of (e3 _ _ ha), rfl, List.all_eq_true.mpr fun v hv => by obtain ⟨y, _, rfl⟩ := List.mem_map.mp hv; rfl, ?_, by show (z == z) = true; exact beq_self_eq_true z, fun m z' hm hz' => ?_, q H3 (e2.trans e3)⟩
    · rw [List.getElem?_map, List.getElem?_eq_getElem hi, List.getElem_idxOf hi]
      rfl
    · rw [List.getElem?_map, List.getElem?_eq_getElem (by omega)] at hz'
      rw [← Option.some.inj hz']
      show (ys[m] == z) = false
      have := List.not_of_lt_findIdx (p := (· == z)) (xs := ys) (i := m) hm
      simpa using this⟩
end
theorem range_getD {β : Type} (d : β) (r : List β) : (List.range r.length).map (fun i => r.getD i d) = r := by
  apply List.ext_getElem?
  intro i
  by_cases hi : i < r.length
  · rw [List.getElem?_map, List.getElem?_range hi, List.getElem?_eq_getElem hi]
    show some (r.getD i d) = _
    rw [List.getD_eq_getElem?_getD, List.getElem?_eq_getElem hi]
    rfl
  · rw [List.getElem?_eq_none_iff.mpr (by simp; omega), List.getElem?_eq_none_iff.mpr (by omega)]
theorem range_filt {β : Type} (d : β) (r : List β) (f : β → Bool) : ((List.range r.length).filter fun i => f (r.getD i d)).map (fun i => r.getD i d) = r.filter f := by
  conv => rhs; rw [← range_getD d r, List.filter_map]
  rfl
section
variable {K : PySem.W.Frag} {σ : L2.St} {H : Hp} {ta tb te : TE}
/-- [s[arg] for arg in args] -/
theorem el_getS {i j k : Nat} {row S : List Nat} {xa a : Addr} (hw : ∀ x, wipe ((wipe σ [j]).set j (some x)) [j] = wipe σ [j]) (hi : σ[i]? = some (some (.ref xa))) (hk : ∀ x, ((wipe σ [j]).set j (some x))[k]? = some (some (.ref a))) (hj : ∀ x, ((wipe σ [j]).set j (some x))[j]? = some (some x))
    (hxa : SqT K H xa (row.map vi)) (ha : SqL K H a (S.map vi)) (rl : ∀ x ∈ row, x < S.length) (l : row.length ≤ 1000) : EvL (tLc (iTup K (tVar i)) (gName j) tYes (tOp (rIxL K) (tVar k) (tVar j)) [j]) σ H ((row.map (M20.g S)).map vi) := by
  have zz := el_lcT (K := K) (tl := tVar i) (te := tOp (rIxL K) (tVar k) (tVar j)) (σ := σ) (j := j) (vs := [j]) (ev_var hi) hxa (fun q => vi (M20.g S (row.getD q 0))) (by rw [List.length_map]; omega) hw (fun q y H7 e7 hy => by
    rw [List.getElem?_map] at hy
    cases hq : row[q]? with
    | none => rw [hq] at hy; cases hy
    | some kk =>
      rw [hq] at hy
      cases Option.some.inj hy
      have lk := rl kk (List.mem_iff_getElem?.mpr ⟨q, hq⟩)
      rw [List.getD_eq_getElem?_getD, hq]
      exact ev_op (ev_var (hk _)) (ev_var (hj _)) (rv_ixL (K := K) (ex_l e7 ha) (atI_vi (k := kk) (by rw [List.getElem?_map, M20.g_eq lk]; rfl))))
  have e : (List.range (row.map vi).length).map (fun q => vi (M20.g S (row.getD q 0))) = (row.map (M20.g S)).map vi := by
    conv => rhs; rw [← range_getD 0 row]
    rw [List.length_map, List.map_map, List.map_map]
    rfl
  rw [e] at zz
  exact zz
end
def rLstO (K : PySem.W.Frag) : List V → Hp → VK → Prop := fun xs H Q => ∃ p ys, xs = [.ref p] ∧ (SqL K H p ys ∨ SqT K H p ys) ∧ ∀ l, H l = none → Q (.ref l) (upd H l (.lst ys))
section
variable {K : PySem.W.Frag} {σ : L2.St} {H : Hp}
/-- x != y, both the same data -/
theorem ev_neSame {ta tb : TE} {P R : V → Hp → Prop} {d : PyData} {k W : Nat} (ha : EvP ta σ H P) (hb : EvP tb σ H R) (st : ∀ v H1 H2, Ex H1 H2 → P v H1 → P v H2) (dp : ∀ v H1, P v H1 → Dp K H1 v d) (dr : ∀ v H1, R v H1 → Dp K H1 v d) (g : Gd k W d) (hk : k ≤ 60) : Ev (tOp (rNeD K) ta tb) σ H (.bl false) := fun H1 e Q q =>
  ha H1 e _ fun v H2 e2 hv => hb H2 (e.trans e2) _ fun u H3 e3 hu => ⟨d, d, dp _ _ (st _ _ _ e3 hv), dr _ _ hu, g.shaped hk, g.shaped hk, by
    rw [SeqAt.eqv_refl _ g.lay]
    exact q H3 (e2.trans e3)⟩
end
theorem ix_listK {X : Cx} (K : PySem.W.Frag) (h : X.K = K := by rfl) : IxR X (rIxL K) := by
  subst h
  exact ix_list
end Dw
end
section
/-! max(t, default=k); new lists by comprehensions over a range, of two fors -/
namespace Dw
open PySem PySem.Spec PyProof.Rows L2 Evl PySem.W M25
def rMaxD (K : PySem.W.Frag) : List V → List V → Hp → VK → Prop := fun vs zs H Q => ∃ (a : Addr) (ns : List Int) (d : Int), vs = [V.ref a] ∧ zs = [.int d] ∧ SqT K H a (ns.map V.int) ∧ (ns = [] → Q (.int d) H) ∧ ∀ m, m ∈ ns → (∀ y, y ∈ ns → y ≤ m) → Q (.int m) H
theorem cr_maxD {X : Cx} {k : Nat} (hc : X.calm = true) (hr : Room k X.A) : CallRK X (.builtin "max") ["default"] (rMaxD X.K) := by
  intro pins s σ H vs zs us ws Q I r rz h
  obtain ⟨a, ns, d, rfl, rfl, hs, q0, q⟩ := h
  obtain ⟨its, rv, hl, _⟩ := I.tuple hs
  rw [Vals.ref1 r]
  cases rz with
  | cons rd rn =>
    cases rn
    obtain ⟨td, rfl⟩ := rd
    have hi : IntsAre its.toArray.toList ns := by rw [List.toList_toArray]; exact ints_of rv
    have hu := hr.units
    have ho : HoldAll s.heap its.toArray.toList ns := ⟨[], ints_readAll _ hi⟩
    refine max_tuple_datum_default (α := Int) (I.ok.hd hc) hl ho (by show X.A.units + 1 + 0 < _; omega) (fun e h' tk hk => ⟨.int d, H, I.kept hk, ⟨td, rfl⟩, q0 e⟩) fun y ys i v h' tk e hv ho2 hk => ?_
    subst e
    obtain ⟨a2, b2⟩ := maxOf_ge ys y
    obtain ⟨as, rd⟩ := ho2
    have rd' : Reads h' v (.int (maxOf y ys)) as := rd
    cases rd' with
    | int _ t => exact ⟨.int _, H, I.kept hk, ⟨t, rfl⟩, q _ b2 a2⟩
section
variable {K : PySem.W.Frag} {σ : L2.St} {H : Hp} {te tl : TE} {tt : TT} {g : TG} {vs vs1 : List Nat} {Q : VK}
/-- max(t, default=-1), one more: 0 of an empty one -/
theorem ev_maxD {td : TA} {ta : TA} {a : Addr} {row : List Nat} (h : EvA ta σ H [.ref a]) (hd : EvA td σ H [.int (-1)]) (s : SqT K H a (row.map vi)) : Ev (tCKw (rMaxD K) ta td) σ H (.int (((need row : Nat) : Int) - 1)) := fun H1 e Q q =>
  h H1 e _ fun H2 e2 => hd H2 (e.trans e2) _ fun H3 e3 => ⟨a, row.map fun k => ((k : Nat) : Int), -1, rfl, rfl, by rw [List.map_map]; exact ex_t ((e.trans e2).trans e3) s, fun z => by
    have : row = [] := List.map_eq_nil_iff.mp z
    subst this
    exact q H3 (e2.trans e3), fun m hm le => by
    obtain ⟨k, hk, rfl⟩ := List.mem_map.mp hm
    have : need row = k + 1 := need_max hk fun j hj => by
      have := le _ (List.mem_map.mpr ⟨j, hj, rfl⟩)
      omega
    rw [this] at q
    have e1 : (((k + 1 : Nat) : Int) - 1) = (k : Int) := by omega
    rw [e1] at q
    exact q H3 (e2.trans e3)⟩
theorem ev_maxP {row : List Nat} (h : EvP te σ H (fun v H' => Nats K H' v row)) (ne : row ≠ []) : Ev (tCB (rMaxT K) (tCons te tNil)) σ H (vi (need row - 1)) := fun H1 e Q q =>
  h H1 e _ fun v H2 e2 ⟨a, hv, s⟩ => by
    subst hv
    refine ⟨a, row.map fun k => ((k : Nat) : Int), rfl, by rw [List.map_map]; exact s, by rw [List.length_map]; exact List.length_pos_iff.mpr ne, fun m hm le => ?_⟩
    obtain ⟨k, hk, rfl⟩ := List.mem_map.mp hm
    have : need row = k + 1 := need_max hk fun j hj => by
      have := le _ (List.mem_map.mpr ⟨j, hj, rfl⟩)
      omega
    rw [this] at q
    exact q H2 e2
/-- one more list behind them -/
theorem lls_snoc {H0 H : Hp} {a b : Addr} {as : List Addr} {L : List (List Nat)} {ns : List Nat} (h : LLs H0 H a as L) (hb : H b = some (.lst (ns.map vi))) (nb : H0 b = none) (b1 : b ∉ as) (b2 : b ≠ a) : LLs H0 (upd H a (.lst (as.map V.ref ++ [.ref b]))) a (as ++ [b]) (L ++ [ns]) := by
  have h2 : Paired (fun c ns => (upd H a (.lst (as.map V.ref ++ [V.ref b]))) c = some (.lst (ns.map vi)) ∧ H0 c = none) as L := by
    have : ∀ {as' : List Addr} {L : List (List Nat)}, a ∉ as' → Paired (fun b ns => H b = some (.lst (ns.map vi)) ∧ H0 b = none) as' L → Paired (fun c ns => (upd H a (.lst (as.map V.ref ++ [V.ref b]))) c = some (.lst (ns.map vi)) ∧ H0 c = none) as' L := fun {as' L} hn p => by
      induction p with
      | nil => exact .nil
      | cons x r ih =>
        rw [List.mem_cons, not_or] at hn
        exact .cons ⟨by rw [upd_ne (Ne.symm hn.1)]; exact x.1, x.2⟩ (ih hn.2)
    exact this h.ne h.each
  refine ⟨by rw [upd_same, List.map_append]; rfl, h.new, paired_snoc' (R := fun c ns => (upd H a (.lst (as.map V.ref ++ [V.ref b]))) c = some (.lst (ns.map vi)) ∧ H0 c = none) (x := b) (y := ns) ⟨by rw [upd_ne b2]; exact hb, nb⟩ h2, ?_, fun z => ?_⟩
  · rw [List.nodup_append]
    exact ⟨h.nd, List.pairwise_singleton _ _, fun x hx y hy e => b1 (by rw [List.mem_singleton.mp hy] at e; rw [← e]; exact hx)⟩
  · rcases List.mem_append.mp z with z | z
    · exact h.ne z
    · exact b2 (List.mem_singleton.mp z).symm
theorem lls_apart {H0 H : Hp} {a b : Addr} {as : List Addr} {L : List (List Nat)} (h : LLs H0 H a as L) (nb : H b = none) : b ∉ as ∧ b ≠ a := by
  constructor
  · intro z
    obtain ⟨_, _, q, _⟩ := h.some z
    rw [q] at nb
    cases nb
  · intro z
    rw [z, h.at_] at nb
    cases nb
/-- a comprehension over a range whose items are new lists of numbers -/
theorem do_lcNewR {ta : TA} {n : Nat} {u : Nat → List Nat} {j : Nat} (h : EvA ta σ H [vi n]) (hn : n ≤ 40000) (hwp : ∀ x, wipe ((wipe σ vs).set j (some x)) vs = wipe σ vs)
    (hs : ∀ (i : Nat) (H1 : Hp), Ex H H1 → i < n → EvL te ((wipe σ vs).set j (some (vi i))) H1 ((u i).map vi))
    (k : ∀ p as H1, Ex H H1 → LLs H H1 p as ((List.range n).map u) → Q (.ref p) H1) : tLc (iRng1 ta) (gName j) tYes te vs σ H Q := by
  refine w_rng h hn H (Ex.refl _) _ fun H1 e1 Dl nD => ?_
  have nDH : H Dl = none := fresh_back e1 nD
  refine lc_it (walk_range (n := n)) (fun i H' => Ex H H' ∧ ∃ as, LLs H H' Dl as ((List.range i).map u)) ⟨e1.trans (Ex.new nD), [], upd_same, nDH, .nil, .nil, by simp⟩ (fun _ _ _ _ => trivial) (fun i x H2 H3 hi ⟨e2, as, ll⟩ y => ?_) (fun H2 ⟨e2, as, ll⟩ => k Dl as H2 e2 ll)
  obtain ⟨rfl, hxi⟩ := y
  have e0 : x = vi i := hxi.trans (by show V.int _ = V.int _; rw [Int.zero_add])
  subst e0
  refine ⟨hwp _, et_yes H3 (Ex.refl _) _ fun H4 e4 => ifT ?_⟩
  have e04 : Ex H H4 := e2.trans e4
  refine hs i H4 e04 hi H4 (Ex.refl _) _ fun b H5 nb e5 hb => ?_
  have ll5 := ll.ex (e4.trans e5)
  have la := ll.len
  rw [List.length_map, List.length_range] at la
  obtain ⟨b1, b2⟩ := lls_apart (ll.ex e4) nb
  refine ⟨as.map V.ref, ll5.at_, by rw [List.length_map]; exact sz_lt (by omega), (e04.trans e5).mut nDH, as ++ [b], ?_⟩
  rw [List.range_succ, List.map_append]
  exact lls_snoc ll5 hb (fresh_back e04 nb) b1 b2
/-- of two fors: a list, then a range; the items new lists of numbers -/
theorem do_lc2New {a : Addr} {xs : List V} {L : List (List Nat)} {u : List Nat → Nat → List Nat} {ta : TA} {m j j1 : Nat} (h : Ev tl σ H (.ref a)) (hx : SqL K H a xs) (hL : L.length = xs.length) (h1 : ∀ x H1, Ex H H1 → EvA ta ((wipe σ vs).set j (some x)) H1 [vi m]) (hn : xs.length ≤ 10000) (hm : m ≤ 9)
    (hw : ∀ x, wipe ((wipe σ vs).set j (some x)) vs = wipe σ vs) (hw1 : ∀ x y, wipe ((wipe ((wipe σ vs).set j (some x)) vs1).set j1 (some y)) vs1 = wipe ((wipe σ vs).set j (some x)) vs1)
    (he : ∀ (i : Nat) (x : V) (ns : List Nat) (k : Nat) (H1 : Hp), Ex H H1 → xs[i]? = some x → L[i]? = some ns → k < m → EvL te ((wipe ((wipe σ vs).set j (some x)) vs1).set j1 (some (vi k))) H1 ((u ns k).map vi))
    (q : ∀ p as H1, Ex H H1 → LLs H H1 p as (L.flatMap fun ns => (List.range m).map fun k => u ns k) → Q (.ref p) H1) : tLc2 (iList K tl) (gName j) tYes (iRng1 ta) (gName j1) tYes te vs vs1 σ H Q := by
  refine h H (Ex.refl _) _ fun H1 e1 => ⟨a, rfl, ⟨xs, ex_l e1 hx⟩, fun Dl nD => ?_⟩
  have nDH : H Dl = none := fresh_back e1 nD
  let outer : Nat → List (List Nat) := fun i => (L.take i).flatMap fun ns => (List.range m).map fun k => u ns k
  have lenO : ∀ i, (outer i).length ≤ i * m := by
    intro i
    induction i with
    | zero => simp [outer]
    | succ i ih =>
      show ((L.take (i + 1)).flatMap _).length ≤ _
      rw [List.take_add_one, List.flatMap_append, List.length_append, Nat.add_mul, Nat.one_mul]
      have : ((L[i]?.toList).flatMap fun ns => (List.range m).map fun k => u ns k).length ≤ m := by
        cases L[i]? with
        | none => simp
        | some y => simp [Option.toList]
      have e3 : ((L.take i).flatMap fun ns => (List.range m).map fun k => u ns k).length ≤ i * m := ih
      omega
  refine ⟨fun i r H' => r = xs.length - i ∧ i ≤ xs.length ∧ Ex H H' ∧ ∃ as, LLs H H' Dl as (outer i), ⟨_, rfl, Nat.zero_le _, e1.trans (Ex.new nD), [], by simpa [outer] using (⟨upd_same, nDH, .nil, .nil, by simp⟩ : LLs H (upd H1 Dl (.lst [])) Dl [] [])⟩, ?_⟩
  rintro i r H2 ⟨rfl, hi, e2, as, ll⟩
  by_cases hlt : i < xs.length
  · refine .inr ⟨⟨xs, xs[i], ex_l e2 hx, List.getElem?_eq_getElem hlt⟩, fun H' => Ex H H' ∧ ∃ as, LLs H H' Dl as (outer (i + 1)), fun H' ⟨p1, p2⟩ => ⟨_, by omega, rfl, hlt, p1, p2⟩, fun x H3 yl => ?_⟩
    obtain ⟨rfl, hxi⟩ := yl
    have hxi' := hxi xs (ex_l e2 hx)
    have hiL : i < L.length := by omega
    have hnsi := List.getElem?_eq_getElem hiL
    refine ⟨hw x, et_yes H3 (Ex.refl _) _ fun H4 e4 => ifT ?_⟩
    have e14 : Ex H H4 := e2.trans e4
    refine w_rng (h1 x H4 e14) (by omega) H4 (Ex.refl _) _ fun H5 e5 => ?_
    refine ⟨fun k r H' => r = m - k ∧ k ≤ m ∧ Ex H H' ∧ ∃ as, LLs H H' Dl as (outer i ++ (List.range k).map fun k => u L[i] k), ⟨_, rfl, Nat.zero_le _, e14.trans e5, as, by
      have := ll.ex (e4.trans e5)
      simpa using this⟩, ?_⟩
    rintro k r H6 ⟨rfl, hk, e6, as6, ll6⟩
    by_cases klt : k < m
    · refine .inr ⟨(walk_range (n := m)).goes k H6 klt trivial, fun H' => Ex H H' ∧ ∃ as, LLs H H' Dl as (outer i ++ (List.range (k + 1)).map fun k => u L[i] k), fun H' ⟨p1, p2⟩ => ⟨_, by omega, rfl, klt, p1, p2⟩, fun y H7 yl => ?_⟩
      obtain ⟨rfl, hy⟩ := (walk_range (n := m)).yields k H6 y H7 klt trivial yl
      have ey : y = vi k := hy.trans (by show V.int _ = V.int _; rw [Int.zero_add])
      subst ey
      refine ⟨hw1 x _, et_yes H7 (Ex.refl _) _ fun H8 e8 => ifT ?_⟩
      have e18 : Ex H H8 := e6.trans e8
      refine he i x L[i] k H8 e18 hxi' hnsi klt H8 (Ex.refl _) _ fun b H9 nb e9 hb => ?_
      have ll9 := ll6.ex (e8.trans e9)
      obtain ⟨b1, b2⟩ := lls_apart (ll6.ex e8) nb
      have la := ll6.len
      rw [List.length_append, List.length_map, List.length_range] at la
      have lo := lenO i
      have b1' : i * m ≤ 10000 * 9 := Nat.mul_le_mul (by omega) hm
      refine ⟨as6.map V.ref, ll9.at_, by rw [List.length_map]; exact sz_lt (by omega), (e18.trans e9).mut nDH, as6 ++ [b], ?_⟩
      rw [List.range_succ, List.map_append, ← List.append_assoc]
      exact lls_snoc ll9 hb (fresh_back e18 nb) b1 b2
    · have ek : k = m := by omega
      subst ek
      refine .inl ⟨(walk_range (n := k)).stops H6 trivial, e6, as6, ?_⟩
      have : outer (i + 1) = outer i ++ (List.range k).map fun k => u L[i] k := by
        show (L.take (i + 1)).flatMap _ = _
        rw [List.take_add_one, hnsi, List.flatMap_append]
        simp [outer, Option.toList]
      rw [this]
      exact ll6
  · have ei : i = xs.length := by omega
    subst ei
    refine .inl ⟨⟨xs, ex_l e2 hx, Nat.le_refl _⟩, q Dl as H2 e2 ?_⟩
    have : outer xs.length = L.flatMap fun ns => (List.range m).map fun k => u ns k := by
      show (L.take xs.length).flatMap _ = _
      rw [← hL, List.take_length]
    rw [← this]
    exact ll
end
section
variable {σ : L2.St} {H : Hp} {D : Ends} {tu tz : TS} {g : TG}
/-- for .. in range(i, j) -/
theorem q_forR2s {ta : TA} (h : ta σ H fun vs H1 => ∃ i j : Int, vs = [.int i, .int j] ∧ (-(2 ^ 62) ≤ i ∧ i < 2 ^ 62 ∧ -(2 ^ 62) ≤ j ∧ j < 2 ^ 62) ∧ Loops (Itr i (j - i).toNat) g tu { D with nx := tz D } σ H1) : tSeq (tFor (iRng2 ta) g tu) tz D σ H := h
theorem qloops_rng {lo : Int} {n : Nat} (Pv : Nat → L2.St → Hp → Prop) (h0 : Pv 0 σ H)
    (hs : ∀ i σ' H', i < n → Pv i σ' H' → g (.int (lo + (i : Int))) σ' H' fun σ2 H2 => tu { D with nx := Pv (i + 1), ct := Pv (i + 1), bk := tz D } σ2 H2) (hd : ∀ σ' H', Pv n σ' H' → tz D σ' H') : Loops (Itr lo n) g tu { D with nx := tz D } σ H :=
  for_range (D := { D with nx := tz D }) Pv h0 hs hd
end
end Dw
end
section
/-! leads: the mathematics -/
namespace LD
open M20 M25 CL
/-- a cell of the one with the table there: args, worth, table -/
abbrev LC := List Nat × Nat × List Nat
def okC (n2 : Nat) (f : List Nat) (c : LC) : Bool := decide (g f c.2.1 = g c.2.2 (plc n2 (c.1.map (g f))))
def grt (c : LC) : Nat := need (c.1 ++ [c.2.1]) - 1
def allOk (n2 : Nat) (cs : List LC) (f : List Nat) : Bool := cs.all (okC n2 f)
def lvl (n2 : Nat) (cs : List LC) : Nat → List (List Nat)
  | 0 => [[]]
  | k + 1 => ((lvl n2 cs k).flatMap fun f => (List.range n2).map fun x => f ++ [x]).filter (allOk n2 (cs.filter fun c => decide (grt c = k)))
theorem grt_lt {c : LC} {x : Nat} (h : x ∈ c.1 ∨ x = c.2.1) : x ≤ grt c := by
  have : x ∈ c.1 ++ [c.2.1] := List.mem_append.mpr (h.imp id fun z => by rw [z]; exact List.mem_singleton_self _)
  have := need_lt x this
  unfold grt
  omega
theorem grt_low {c : LC} {n : Nat} (h : ∀ x ∈ c.1, x < n) (w : c.2.1 < n) : grt c < n := by
  have : need (c.1 ++ [c.2.1]) ≤ n := need_le fun x hx => by
    rcases List.mem_append.mp hx with z | z
    · exact h x z
    · rw [List.mem_singleton.mp z]; exact w
  unfold grt
  omega
theorem g_app {f : List Nat} {x i : Nat} (h : i < f.length) : g (f ++ [x]) i = g f i := by
  show (f ++ [x]).getD i 0 = f.getD i 0
  rw [List.getD_eq_getElem?_getD, List.getD_eq_getElem?_getD, List.getElem?_append_left h]
theorem okC_app {n2 : Nat} {f : List Nat} {x : Nat} {c : LC} (h : grt c < f.length) : okC n2 (f ++ [x]) c = okC n2 f c := by
  unfold okC
  have a : g (f ++ [x]) c.2.1 = g f c.2.1 := g_app (Nat.lt_of_le_of_lt (grt_lt (.inr rfl)) h)
  have b : c.1.map (g (f ++ [x])) = c.1.map (g f) := List.map_congr_left fun y hy => g_app (Nat.lt_of_le_of_lt (grt_lt (.inl hy)) h)
  rw [a, b]
theorem all_split {α : Type} (p q r : α → Bool) (h : ∀ x, r x = (p x || q x)) (t : α → Bool) : ∀ l : List α, (l.filter r).all t = ((l.filter p).all t && (l.filter q).all t)
  | [] => rfl
  | x :: l => by
    have ih := all_split p q r h t l
    rw [List.filter_cons, List.filter_cons, List.filter_cons, h x]
    cases hp : p x <;> cases hq : q x <;> simp [ih] <;> cases t x <;> simp
theorem flatMap_filter {α β : Type} (p : α → Bool) (f : α → List β) : ∀ l : List α, (l.filter p).flatMap f = l.flatMap fun x => if p x = true then f x else []
  | [] => rfl
  | x :: l => by
    rw [List.filter_cons, List.flatMap_cons]
    cases h : p x
    · rw [if_neg (by decide), if_neg (by decide), List.nil_append]
      exact flatMap_filter p f l
    · rw [if_pos rfl, if_pos rfl, List.flatMap_cons, flatMap_filter p f l]
theorem filter_flatMap {α β : Type} (q : β → Bool) (f : α → List β) : ∀ l : List α, (l.flatMap f).filter q = l.flatMap fun x => (f x).filter q
  | [] => rfl
  | x :: l => by rw [List.flatMap_cons, List.filter_append, List.flatMap_cons, filter_flatMap q f l]
theorem fm_congr {α β : Type} {f g : α → List β} : ∀ {l : List α}, (∀ x ∈ l, f x = g x) → l.flatMap f = l.flatMap g
  | [], _ => rfl
  | x :: l, h => by rw [List.flatMap_cons, List.flatMap_cons, h x (List.mem_cons_self ..), fm_congr fun y hy => h y (List.mem_cons_of_mem _ hy)]
theorem lvl_eq (n2 : Nat) (cs : List LC) : ∀ k, lvl n2 cs k = (rows n2 k).filter (allOk n2 (cs.filter fun c => decide (grt c < k)))
  | 0 => by
    show [[]] = [[]].filter _
    rw [List.filter_cons, if_pos (by
      show (cs.filter fun c => decide (grt c < 0)).all _ = true
      rw [List.filter_eq_nil_iff.mpr (fun c _ => by simp)]
      rfl)]
    rfl
  | k + 1 => by
    show ((lvl n2 cs k).flatMap _).filter _ = ((rows n2 k).flatMap _).filter _
    rw [lvl_eq n2 cs k, flatMap_filter, filter_flatMap, filter_flatMap]
    have e : ∀ f ∈ rows n2 k, ((if allOk n2 (cs.filter fun c => decide (grt c < k)) f = true then (List.range n2).map fun x => f ++ [x] else []).filter (allOk n2 (cs.filter fun c => decide (grt c = k)))) = ((List.range n2).map fun x => f ++ [x]).filter (allOk n2 (cs.filter fun c => decide (grt c < k + 1))) := fun f hf => by
      have lf := (rows_of hf).1
      have key : ∀ x, allOk n2 (cs.filter fun c => decide (grt c < k + 1)) (f ++ [x]) = (allOk n2 (cs.filter fun c => decide (grt c < k)) f && allOk n2 (cs.filter fun c => decide (grt c = k)) (f ++ [x])) := fun x => by
        unfold allOk
        rw [all_split (fun c => decide (grt c < k)) (fun c => decide (grt c = k)) (fun c => decide (grt c < k + 1)) (fun c => by
          rw [Bool.eq_iff_iff]
          simp
          omega)]
        congr 1
        rw [Bool.eq_iff_iff, List.all_eq_true, List.all_eq_true]
        constructor
        · intro h c hc
          rw [← okC_app (x := x) (by rw [lf]; exact of_decide_eq_true (List.mem_filter.mp hc).2)]
          exact h c hc
        · intro h c hc
          rw [okC_app (by rw [lf]; exact of_decide_eq_true (List.mem_filter.mp hc).2)]
          exact h c hc
      cases hA : allOk n2 (cs.filter fun c => decide (grt c < k)) f with
      | true =>
        rw [if_pos rfl]
        refine List.filter_congr fun y hy => ?_
        obtain ⟨x, _, rfl⟩ := List.mem_map.mp hy
        rw [key, hA, Bool.true_and]
      | false =>
        rw [if_neg (by decide), List.filter_nil]
        symm
        rw [List.filter_eq_nil_iff]
        intro y hy
        obtain ⟨x, _, rfl⟩ := List.mem_map.mp hy
        rw [key, hA, Bool.false_and]
        decide
    exact fm_congr e
/-- all leads, in the order of rows -/
theorem leads_eq {n1 n2 : Nat} {cs : List LC} (h : ∀ c ∈ cs, grt c < n1) : lvl n2 cs n1 = (rows n2 n1).filter (allOk n2 cs) := by
  rw [lvl_eq, List.filter_eq_self.mpr fun c hc => decide_eq_true (h c hc)]
/-! ### by levels -/
section
variable {α : Type}
theorem split_perm (f : α → Nat) (t : Nat) : ∀ L : List α, (L.filter (fun x => decide (f x < t)) ++ L.filter (fun x => decide (f x = t))).Perm (L.filter fun x => decide (f x < t + 1))
  | [] => .nil
  | x :: L => by
    have ih := split_perm f t L
    rw [List.filter_cons, List.filter_cons, List.filter_cons]
    by_cases h1 : f x < t
    · rw [if_pos (decide_eq_true h1), if_neg (by simp; omega), if_pos (decide_eq_true (by omega))]
      exact ih.cons x
    · by_cases h2 : f x = t
      · rw [if_neg (by simp; omega), if_pos (decide_eq_true h2), if_pos (decide_eq_true (by omega))]
        exact List.perm_middle.trans (ih.cons x)
      · rw [if_neg (by simp; omega), if_neg (by simp; omega), if_neg (by simp; omega)]
        exact ih
theorem levels_perm (f : α → Nat) (L : List α) : ∀ t, ((List.range t).flatMap fun t => L.filter fun x => decide (f x = t)).Perm (L.filter fun x => decide (f x < t))
  | 0 => by
    rw [List.filter_eq_nil_iff.mpr (fun x _ => by simp)]
    exact .nil
  | t + 1 => by
    rw [List.range_succ, List.flatMap_append, List.flatMap_singleton]
    exact ((levels_perm f L t).append_right _).trans (split_perm f t L)
end
end LD
end
section
/-! rows in their order, and lists sorted in one way only -/
namespace LD
open M20 M25 CL
theorem app_lt : ∀ {a b : List Int} (c d : List Int), a.length = b.length → a < b → a ++ c < b ++ d
  | [], [], _, _, _, h => absurd h (List.lt_irrefl _)
  | [], _ :: _, _, _, l, _ => by cases l
  | _ :: _, [], _, _, l, _ => by cases l
  | x :: a, y :: b, c, d, l, h => by
    rw [List.cons_append, List.cons_append, List.cons_lt_cons_iff]
    rcases List.cons_lt_cons_iff.mp h with h | ⟨e, h⟩
    · exact .inl h
    · exact .inr ⟨e, app_lt c d (Nat.succ.inj l) h⟩
theorem ia_app (a b : List Nat) : ia (a ++ b) = ia a ++ ia b := by unfold ia; rw [List.map_append]
theorem ia_len (a : List Nat) : (ia a).length = a.length := by unfold ia; rw [List.length_map]
theorem rows_lex (n : Nat) : ∀ p, (rows n p).Pairwise fun a b => ia a < ia b
  | 0 => List.pairwise_singleton _ _
  | p + 1 => by
    show ((rows n p).flatMap fun r => (List.range n).map fun x => r ++ [x]).Pairwise _
    rw [List.pairwise_flatMap]
    refine ⟨fun r hr => ?_, ?_⟩
    · rw [List.pairwise_map]
      refine List.Pairwise.imp (fun {x y} h => ?_) (List.pairwise_lt_range (n := n))
      rw [ia_app, ia_app]
      refine List.append_left_lt ?_
      show ((x : Nat) : Int) :: [] < ((y : Nat) : Int) :: []
      rw [List.cons_lt_cons_iff]
      exact .inl (by omega)
    · refine List.Pairwise.imp_of_mem (fun {a b} ha hb h x hx y hy => ?_) (rows_lex n p)
      obtain ⟨i, _, rfl⟩ := List.mem_map.mp hx
      obtain ⟨j, _, rfl⟩ := List.mem_map.mp hy
      rw [ia_app, ia_app]
      exact app_lt _ _ (by rw [ia_len, ia_len, (rows_of ha).1, (rows_of hb).1]) h
theorem sort_uniq {β : Type} {g : β → List Int} : ∀ {O L : List β}, L.Perm O → O.Pairwise (fun a b => g a < g b) → L.Pairwise (fun a b => g a ≤ g b) → L = O
  | [], L, p, _, _ => p.eq_nil
  | o :: O, [], p, _, _ => absurd p.length_eq (by simp)
  | o :: O, l :: L, p, s, t => by
    have e : l = o := by
      have h1 : l ∈ o :: O := p.mem_iff.mp (List.mem_cons_self ..)
      have h2 : o ∈ l :: L := p.mem_iff.mpr (List.mem_cons_self ..)
      rcases List.mem_cons.mp h1 with e | h1
      · exact e
      · rcases List.mem_cons.mp h2 with e | h2
        · exact e.symm
        · have a := (List.pairwise_cons.mp s).1 l h1
          have b := (List.pairwise_cons.mp t).1 o h2
          exact absurd a (List.not_lt.mpr b)
    subst e
    rw [sort_uniq (p.cons_inv) (List.pairwise_cons.mp s).2 (List.pairwise_cons.mp t).2]
end LD
end
section
/-! sorted(..) told exactly; max((-1,) + row) -/
namespace Dw
open PySem PySem.Spec PyProof.Rows L2 Evl RZ M20 M25 CL PySem.W LD
section
variable {K : PySem.W.Frag} {σ : L2.St} {H : Hp} {te tl : TE} {tt : TT} {g : TG} {vs vs1 : List Nat} {Q : VK}
theorem le_int (a b : List Int) : (!decide (b < a)) = decide (a ≤ b) := by
  by_cases h : b < a
  · have h' : ¬ a ≤ b := fun z => List.not_lt.mpr z h
    simp [h, h']
  · have h' : a ≤ b := List.not_lt.mp h
    simp [h, h']
theorem do_sortE {β : Type} {R : V → β → Hp → Prop} {f : β → PyData} {g : β → List Int} {a : Addr} {vs : List V} {L O : List β} (hl : H a = some (.lst vs)) (pv : Paired (fun v b => R v b H) vs L) (dp : ∀ v b, R v b H → Dp K H v (f b)) (al : AllAlike (L.map f)) (so : Sortable (L.map f)) (dep : ∀ b ∈ L, (f b).depth ≤ 40) (st : ∀ v b H1, Ex H H1 → R v b H → R v b H1)
    (lt : ∀ x ∈ L, ∀ y ∈ L, dataLt (f x) (f y) = decide (g x < g y)) (pm : L.Perm O) (up : O.Pairwise fun x y => g x < g y)
    (k : ∀ p vs' H1, H p = none → Ex H H1 → H1 p = some (.lst vs') → Paired (fun v b => R v b H1) vs' O → Q (.ref p) H1) : rSortD K [.ref a] H Q := by
  obtain ⟨e1, e2, hq⟩ := paired_zip pv
  let qs : List (V × β) := vs.zip L
  let ps : List (V × PyData) := qs.map fun q => (q.1, f q.2)
  have e3 : ps.map (·.1) = vs := by
    rw [← e1]
    simp only [ps, qs, List.map_map]
    rfl
  have e4 : ps.map (·.2) = L.map f := by
    conv => rhs; rw [← e2]
    simp only [ps, qs, List.map_map]
    rfl
  refine ⟨a, ps, rfl, by rw [e3]; exact sq_of hl, fun p hp => ?_, by rw [e4]; exact al, by rw [e4]; exact so, fun p hp => ?_, fun l nl => ?_⟩
  · obtain ⟨q, hqq, rfl⟩ := List.mem_map.mp hp
    exact dp _ _ (hq q hqq)
  · obtain ⟨q, hqq, rfl⟩ := List.mem_map.mp hp
    exact dep q.2 (by rw [← e2]; exact List.mem_map.mpr ⟨q, hqq, rfl⟩)
  · have e5 : ps.mergeSort leD = (qs.mergeSort fun x y => leD (x.1, f x.2) (y.1, f y.2)).map fun q => (q.1, f q.2) := (List.map_mergeSort (r := fun x y : V × β => leD (x.1, f x.2) (y.1, f y.2)) (s := leD) (f := fun q : V × β => (q.1, f q.2)) fun a _ b _ => rfl).symm
    have pm2 : (qs.mergeSort fun x y => leD (x.1, f x.2) (y.1, f y.2)).Perm qs := List.mergeSort_perm _ _
    have e6 : (qs.mergeSort fun x y => leD (x.1, f x.2) (y.1, f y.2)).map (·.2) = L.mergeSort fun x y => decide (g x ≤ g y) := by
      rw [List.map_mergeSort (r := fun x y : V × β => leD (x.1, f x.2) (y.1, f y.2)) (s := fun x y => decide (g x ≤ g y)) (f := fun q : V × β => q.2) fun x hx y hy => ?_]
      · rw [e2]
      · have mx : x.2 ∈ L := by rw [← e2]; exact List.mem_map.mpr ⟨x, hx, rfl⟩
        have my : y.2 ∈ L := by rw [← e2]; exact List.mem_map.mpr ⟨y, hy, rfl⟩
        show (!dataLt (f y.2) (f x.2)) = _
        rw [lt _ my _ mx]
        exact le_int _ _
    have up2 : (L.mergeSort fun x y => decide (g x ≤ g y)).Pairwise fun x y => g x ≤ g y := by
      have := List.pairwise_mergeSort (le := fun x y => decide (g x ≤ g y)) (fun a b c h1 h2 => decide_eq_true (List.le_trans (of_decide_eq_true h1) (of_decide_eq_true h2))) (fun a b => by
        rcases List.le_total (g a) (g b) with h | h
        · simp [h]
        · simp [h]) L
      exact this.imp fun h => of_decide_eq_true h
    have e7 : (L.mergeSort fun x y => decide (g x ≤ g y)) = O := sort_uniq ((List.mergeSort_perm L _).trans pm) up up2
    rw [e7] at e6
    generalize (qs.mergeSort fun x y => leD (x.1, f x.2) (y.1, f y.2)) = rs at e5 e6 pm2
    rw [e5]
    refine k l (rs.map (·.1)) _ nl (Ex.new nl) ?_ ?_
    · rw [upd_same, List.map_map]
      rfl
    · have z := zip_paired (qs := rs) (R := fun (v : V) (b : β) => R v b (upd H l (.lst ((rs.map fun q => (q.1, f q.2)).map (·.1))))) fun q hqq => st _ _ _ (Ex.new nl) (hq q (pm2.mem_iff.mp hqq))
      rw [e6] at z
      exact z
/-- max((-1,) + row): one less than what row needs -/
theorem ep_maxE {row : List Nat} (h : EvP te σ H (fun v H' => TV K H' v (((-1 : Int) :: row.map fun k => ((k : Nat) : Int)).map V.int))) : Ev (tCB (rMaxT K) (tCons te tNil)) σ H (.int (((need row : Nat) : Int) - 1)) := fun H1 e Q q =>
  h H1 e _ fun v H2 e2 ⟨a, hv, s⟩ => by
    subst hv
    refine ⟨a, (-1 : Int) :: row.map fun k => ((k : Nat) : Int), rfl, s, by simp, fun m hm le => ?_⟩
    have : m = ((need row : Nat) : Int) - 1 := by
      rcases List.mem_cons.mp hm with e | hm
      · subst e
        cases row with
        | nil => rfl
        | cons x r =>
          have z : ((x : Nat) : Int) ≤ -1 := le _ (List.mem_cons_of_mem _ (List.mem_cons_self ..))
          omega
      · obtain ⟨k, hk, rfl⟩ := List.mem_map.mp hm
        have : need row = k + 1 := need_max hk fun j hj => by
          have := le _ (List.mem_cons_of_mem _ (List.mem_map.mpr ⟨j, hj, rfl⟩))
          omega
        omega
    rw [this]
    exact q H2 e2
end
end Dw
end
section
/-! range(n) as a thing; not in range(n) -/
namespace Dw
open PySem PySem.Spec PyProof.Rows L2 Evl RZ M20 M25 CL PySem.W LD
def rRange1 : List V → Hp → VK → Prop := fun vs H Q => ∃ n : Int, vs = [.int n] ∧ ∀ l, H l = none → Q (.ref l) (upd H l (.rng 0 n))
theorem cr_range1 {X : Cx} : CallR X (.type "range") rRange1 := by
  intro pins s σ H vs us Q I r h
  obtain ⟨n, rfl, q⟩ := h
  obtain ⟨u, hu, tk, ht⟩ := vals1 r
  subst hu ht
  refine call_range_1 ?_
  exact ⟨.ref s.heap.objs.size, _, I.laid (o := .rng 0 n) (t' := s.toks + 1 + 1) (fun b ob z => Heap.get?_push_of_some _ z) (Nat.le_refl _) (show ∃ t u v, Heap.get? (s.heap.push _) s.heap.objs.size = some { cls := Value.type "range", data := Data.fields #[Value.int 0 t, Value.int n u, Value.int 1 v] } from ⟨_, _, _, Heap.get?_push_size _ rfl⟩), rfl, q _ (I.hok.fresh (Nat.le_refl _))⟩
def rNotRng : R2 := fun x y H Q => ∃ (i : Int) (a : Addr) (lo hi : Int), x = V.int i ∧ y = V.ref a ∧ H a = some (HO.rng lo hi) ∧ Q (V.bl (!decide (lo ≤ i ∧ i < hi))) H
theorem op_notIn_rng {X : Cx} : OpR X (compareOp .NotIn) rNotRng := by
  intro pins s σ H x y v u Q I rx ry h
  obtain ⟨i, a, lo, hi, rfl, rfl, ha, q⟩ := h
  obtain ⟨k, rfl⟩ := rx
  cases (show u = Value.ref a from ry)
  obtain ⟨t1, t2, t3, ho⟩ := I.hok a _ ha
  exact wpAny_bind (wpAny_contains_slot ⟨_, ho, rfl⟩ F.slot_range_contains (call_meets F.slot_range_contains ⟨_, ho, rfl⟩ F.entry_range_contains (F.args_range_contains_2 (Value.ref a) (Value.int i k)) (q_contains a lo hi i t1 t2 t3 k) ⟨ho, wpAny_truthy_bool (wpAny_pure ⟨V.bl (!(Builtin.Range.rangePlace? lo hi 1 i).isSome), H, I, rfl, by rw [place1]; exact q⟩)⟩))
section
variable {K : PySem.W.Frag} {σ : L2.St} {H : Hp} {ta tb : TE}
theorem ev_notRng {i n : Int} {t : TA} (ha : Ev ta σ H (.int i)) (hb : ∀ H1, Ex H H1 → EvA t σ H1 [.int n]) : Ev (tOp rNotRng ta (tCB rRange1 t)) σ H (.bl (!decide (0 ≤ i ∧ i < n))) := fun H1 e Q q =>
  do_op (ha H1 e _ fun H2 e2 => do_cb (hb H2 (e.trans e2) H2 (Ex.refl _) _ fun H3 e3 => ⟨n, rfl, fun l nl => ⟨i, l, 0, n, rfl, rfl, upd_same, q _ ((e2.trans e3).trans (Ex.new nl))⟩⟩))
end
end Dw
end
section
/-! copies: data whose lists are new, told whatever becomes of the lists that stood -/
namespace Dw
open PySem PySem.Spec PyProof.Rows L2 Evl RZ M20 M25 CL PySem.W LD
def Keep (H0 H H' : Hp) : Prop := ∀ b o, (H0 b = none ∨ ∀ ys, o ≠ .lst ys) → H b = some o → H' b = some o
def Cz (K : PySem.W.Frag) (H H' : Hp) (v : V) (d : PyData) : Prop := ∀ H'', Keep H H' H'' → Dp K H'' v d
def CzA (K : PySem.W.Frag) (H H' : Hp) (vs : List V) (ds : List PyData) : Prop := ∀ H'', Keep H H' H'' → DpAll K H'' vs ds
theorem dps_snoc {K : PySem.W.Frag} {H : Hp} {v : V} {d : PyData} : ∀ {vs : List V} {ds : List PyData}, DpAll K H vs ds → Dp K H v d → DpAll K H (vs ++ [v]) (ds ++ [d])
  | _, _, .nil, h => .cons h .nil
  | _, _, .cons a b, h => .cons a (dps_snoc b h)
theorem Cz.here {K : PySem.W.Frag} {H H' : Hp} {v : V} {d : PyData} (h : Cz K H H' v d) : Dp K H' v d := h H' fun _ _ _ z => z
theorem Cz.ex {K : PySem.W.Frag} {H H1 H' : Hp} {v : V} {d : PyData} (e : Ex H1 H') (h : Cz K H H1 v d) : Cz K H H' v d := fun H'' kp => h H'' fun b o c hb => kp b o c (e _ _ hb)
theorem Cz.low {K : PySem.W.Frag} {H H1 H' : Hp} {v : V} {d : PyData} (e : Ex H H1) (h : Cz K H1 H' v d) : Cz K H H' v d := fun H'' kp => h H'' fun b o c hb => kp b o (c.imp (fun z => fresh_back e z) id) hb
theorem Cz.lst {K : PySem.W.Frag} {H H' : Hp} {a : Addr} {vs : List V} {ds : List PyData} (na : H a = none) (ha : H' a = some (.lst vs)) (h : CzA K H H' vs ds) : Cz K H H' (.ref a) (.list ds) := fun H'' kp => .lst (sq_of (kp _ _ (.inl na) ha)) (h H'' kp)
theorem Cz.tup {K : PySem.W.Frag} {H H' : Hp} {a : Addr} {vs : List V} {ds : List PyData} (ha : H' a = some (.tup vs)) (h : CzA K H H' vs ds) : Cz K H H' (.ref a) (.tuple ds) := fun H'' kp => .tup (st_of (kp _ _ (.inr fun _ z => by cases z) ha)) (h H'' kp)
section
variable {K : PySem.W.Frag} {σ : L2.St} {H : Hp} {te tl : TE} {tt : TT} {g : TG} {vs : List Nat} {Q : VK}
theorem do_lcCzL {a : Addr} {xs : List V} {ds : List PyData} {j : Nat} (h : Ev tl σ H (.ref a)) (hx : SqL K H a xs) (hl : ds.length = xs.length) (hn : xs.length ≤ 40000) (hwp : ∀ x, wipe ((wipe σ vs).set j (some x)) vs = wipe σ vs)
    (hs : ∀ (i : Nat) (x : V) (d : PyData) (H1 : Hp), Ex H H1 → xs[i]? = some x → ds[i]? = some d → ∀ Q : VK, (∀ v H2, Ex H1 H2 → Cz K H1 H2 v d → Q v H2) → te ((wipe σ vs).set j (some x)) H1 Q)
    (k : ∀ p ws H1, H p = none → Ex H H1 → H1 p = some (.lst ws) → CzA K H H1 ws ds → Q (.ref p) H1) : tLc (iList K tl) (gName j) tYes te vs σ H Q := by
  refine h H (Ex.refl _) _ fun H1 e1 => ⟨a, rfl, ⟨xs, ex_l e1 hx⟩, fun Dl nD => ?_⟩
  have nDH : H Dl = none := fresh_back e1 nD
  have e01 : Ex H (upd H1 Dl (.lst [])) := e1.trans (Ex.new nD)
  refine lc_it (walk_list (K := K) (a := a) (xs := xs)) (fun i H' => Ex H H' ∧ (∀ b, upd H1 Dl (.lst []) b ≠ none → H' b ≠ none) ∧ ∃ ws, H' Dl = some (.lst ws) ∧ CzA K (upd H1 Dl (.lst [])) H' ws (ds.take i)) ⟨e01, fun _ z => z, [], upd_same, fun _ _ => .nil⟩ (fun i H' _ ⟨e, _⟩ => ex_l e hx) (fun i x H2 H3 hi ⟨e2, dom, ws, hD, hw⟩ y => ?_) (fun H2 ⟨e2, dom, ws, hD, hw⟩ => ?_)
  · obtain ⟨rfl, hxi⟩ := y
    have hi2 : i < ds.length := by omega
    refine ⟨hwp x, et_yes H3 (Ex.refl _) _ fun H4 e4 => ifT ?_⟩
    refine hs i x ds[i] H4 (e2.trans e4) hxi (List.getElem?_eq_getElem hi2) _ fun v H5 e5 hv => ?_
    have hD4 := e4 _ _ hD
    have hD5 := e5 _ _ hD4
    have e35 := e4.trans e5
    have la : ws.length = i := by
      have := dps_len (hw H3 (fun b o _ z => z))
      rw [List.length_take, Nat.min_eq_left (Nat.le_of_lt hi2)] at this
      exact this
    refine ⟨ws, hD5, sz_lt (by omega), (e2.trans e35).mut nDH, fun b hb => ?_, ws ++ [v], upd_same, fun H'' kp => ?_⟩
    · by_cases z : b = Dl
      · rw [z, upd_same]; exact fun z => by cases z
      · rw [upd_ne z]
        obtain ⟨o, ho⟩ := Option.ne_none_iff_exists'.mp (dom b hb)
        rw [e35 _ _ ho]
        exact fun z => by cases z
    · rw [List.take_add_one, List.getElem?_eq_getElem hi2]
      refine dps_snoc (hw H'' fun b o cond hb => ?_) (hv H'' fun b o cond hb => ?_)
      · have ne : b ≠ Dl := fun z => by
          subst z
          rcases cond with c | c
          · rw [upd_same] at c; cases c
          · rw [hD] at hb
            exact c _ (Option.some.inj hb).symm
        exact kp b o cond (by rw [upd_ne ne]; exact e35 _ _ hb)
      · have ne : b ≠ Dl := fun z => by
          subst z
          rcases cond with c | c
          · rw [hD4] at c; cases c
          · rw [hD5] at hb
            exact c _ (Option.some.inj hb).symm
        refine kp b o (cond.imp (fun c => ?_) id) (by rw [upd_ne ne]; exact hb)
        have c3 : H3 b = none := fresh_back e4 c
        cases hh : upd H1 Dl (.lst []) b with
        | none => rfl
        | some o => exact absurd c3 (dom b (by rw [hh]; exact fun z => by cases z))
  · rw [← hl, List.take_length] at hw
    exact k Dl ws H2 nDH e2 hD fun H'' kp => hw H'' fun b o cond hb => kp b o (cond.imp (fun c => fresh_back e01 c) id) hb
theorem do_lcCzT {a : Addr} {xs : List V} {ds : List PyData} {j : Nat} (h : Ev tl σ H (.ref a)) (hx : SqT K H a xs) (hl : ds.length = xs.length) (hn : xs.length ≤ 40000) (hwp : ∀ x, wipe ((wipe σ vs).set j (some x)) vs = wipe σ vs)
    (hs : ∀ (i : Nat) (x : V) (d : PyData) (H1 : Hp), Ex H H1 → xs[i]? = some x → ds[i]? = some d → ∀ Q : VK, (∀ v H2, Ex H1 H2 → Cz K H1 H2 v d → Q v H2) → te ((wipe σ vs).set j (some x)) H1 Q)
    (k : ∀ p ws H1, H p = none → Ex H H1 → H1 p = some (.lst ws) → CzA K H H1 ws ds → Q (.ref p) H1) : tLc (iTup K tl) (gName j) tYes te vs σ H Q := by
  refine h H (Ex.refl _) _ fun H1 e1 => ⟨a, rfl, ⟨xs, ex_t e1 hx⟩, fun Dl nD => ?_⟩
  have nDH : H Dl = none := fresh_back e1 nD
  have e01 : Ex H (upd H1 Dl (.lst [])) := e1.trans (Ex.new nD)
  refine lc_it (walk_tup (K := K) (a := a) (xs := xs)) (fun i H' => Ex H H' ∧ (∀ b, upd H1 Dl (.lst []) b ≠ none → H' b ≠ none) ∧ ∃ ws, H' Dl = some (.lst ws) ∧ CzA K (upd H1 Dl (.lst [])) H' ws (ds.take i)) ⟨e01, fun _ z => z, [], upd_same, fun _ _ => .nil⟩ (fun i H' _ ⟨e, _⟩ => ex_t e hx) (fun i x H2 H3 hi ⟨e2, dom, ws, hD, hw⟩ y => ?_) (fun H2 ⟨e2, dom, ws, hD, hw⟩ => ?_)
  · obtain ⟨rfl, hxi⟩ := y
    have hi2 : i < ds.length := by omega
    refine ⟨hwp x, et_yes H3 (Ex.refl _) _ fun H4 e4 => ifT ?_⟩
    refine hs i x ds[i] H4 (e2.trans e4) hxi (List.getElem?_eq_getElem hi2) _ fun v H5 e5 hv => ?_
    have hD4 := e4 _ _ hD
    have hD5 := e5 _ _ hD4
    have e35 := e4.trans e5
    have la : ws.length = i := by
      have := dps_len (hw H3 (fun b o _ z => z))
      rw [List.length_take, Nat.min_eq_left (Nat.le_of_lt hi2)] at this
      exact this
    refine ⟨ws, hD5, sz_lt (by omega), (e2.trans e35).mut nDH, fun b hb => ?_, ws ++ [v], upd_same, fun H'' kp => ?_⟩
    · by_cases z : b = Dl
      · rw [z, upd_same]; exact fun z => by cases z
      · rw [upd_ne z]
        obtain ⟨o, ho⟩ := Option.ne_none_iff_exists'.mp (dom b hb)
        rw [e35 _ _ ho]
        exact fun z => by cases z
    · rw [List.take_add_one, List.getElem?_eq_getElem hi2]
      refine dps_snoc (hw H'' fun b o cond hb => ?_) (hv H'' fun b o cond hb => ?_)
      · have ne : b ≠ Dl := fun z => by
          subst z
          rcases cond with c | c
          · rw [upd_same] at c; cases c
          · rw [hD] at hb
            exact c _ (Option.some.inj hb).symm
        exact kp b o cond (by rw [upd_ne ne]; exact e35 _ _ hb)
      · have ne : b ≠ Dl := fun z => by
          subst z
          rcases cond with c | c
          · rw [hD4] at c; cases c
          · rw [hD5] at hb
            exact c _ (Option.some.inj hb).symm
        refine kp b o (cond.imp (fun c => ?_) id) (by rw [upd_ne ne]; exact hb)
        have c3 : H3 b = none := fresh_back e4 c
        cases hh : upd H1 Dl (.lst []) b with
        | none => rfl
        | some o => exact absurd c3 (dom b (by rw [hh]; exact fun z => by cases z))
  · rw [← hl, List.take_length] at hw
    exact k Dl ws H2 nDH e2 hD fun H'' kp => hw H'' fun b o cond hb => kp b o (cond.imp (fun c => fresh_back e01 c) id) hb
end
end Dw
end
section
/-! a text of one sign, so many times -/
namespace Dw
open PySem PySem.Spec PyProof.Rows L2 Evl RZ M20 M25 CL PySem.W LD
def repS (z : Str) (n : Nat) : Str := if n = 1 then z else { cps := List.foldl (fun x1 x2 => x1 ++ x2) #[] (List.replicate n z.cps) }
theorem fold_rep (a : Array Nat) : ∀ (n : Nat) (acc : Array Nat), (List.foldl (fun x1 x2 => x1 ++ x2) acc (List.replicate n a)).size = acc.size + n * a.size ∧ ∀ c ∈ (List.foldl (fun x1 x2 => x1 ++ x2) acc (List.replicate n a)).toList, c ∈ acc.toList ∨ c ∈ a.toList
  | 0, acc => ⟨by simp, fun c h => .inl h⟩
  | n + 1, acc => by
    rw [List.replicate_succ, List.foldl_cons]
    obtain ⟨h1, h2⟩ := fold_rep a n (acc ++ a)
    refine ⟨by rw [h1, Array.size_append, Nat.add_mul]; omega, fun c hc => ?_⟩
    rcases h2 c hc with z | z
    · rw [Array.toList_append] at z
      exact List.mem_append.mp z
    · exact .inr z
theorem repS_size (z : Str) (n : Nat) : (repS z n).cps.size = n * z.cps.size := by
  unfold repS
  split
  · rename_i h; rw [h, Nat.one_mul]
  · show (List.foldl (fun x1 x2 => x1 ++ x2) #[] (List.replicate n z.cps)).size = _
    rw [(fold_rep z.cps n #[]).1]
    simp
theorem repS_mem {z : Str} {n c : Nat} (h : c ∈ (repS z n).cps.toList) : c ∈ z.cps.toList := by
  unfold repS at h
  split at h
  · exact h
  · rcases (fold_rep z.cps n #[]).2 c h with z | z
    · cases z
    · exact z
def rMulS : R2 := fun x y H Q => ∃ (z : Str) (n : Nat), x = V.str z ∧ y = vi n ∧ 1 ≤ n ∧ n ≤ 100 ∧ z.length = 1 ∧ Q (.str (repS z n)) H
theorem op_mulS {X : Cx} : OpR X (binaryOp .Mult) rMulS := by
  intro pins s σ H x y v u Q I rx ry h
  obtain ⟨z, n, rfl, rfl, n1, n100, z1, q⟩ := h
  obtain ⟨t, rfl⟩ := rx
  obtain ⟨k, rfl⟩ := ry
  have hs := sizeLine_eq
  refine P.mul_str (by simp; omega) (fun h1 h2 => ?_) (fun _ _ => ?_) ?_
  · rw [z1]
    intro hh
    have : (1 : Int) ≤ (2 ^ 63 - 1) / (n : Int) := by
      rw [Int.le_ediv_iff_mul_le (by omega)]
      omega
    omega
  · show decide (z.length * (n : Int).toNat > sizeLine) = false
    rw [z1, hs]
    simp
    omega
  · rw [if_neg (by omega)]
    by_cases e : n = 1
    · rw [if_pos (by rw [e]; rfl)]
      refine ⟨.str z, H, I, ⟨t, rfl⟩, ?_⟩
      rw [repS, if_pos e] at q
      exact q
    · rw [if_neg (by simp [z1]; omega)]
      have sz := repS_size z n
      rw [repS, if_neg e] at sz
      have zl : z.cps.size = 1 := z1
      refine ⟨?_, .str (repS z n), H, I.tok _, ⟨s.toks, ?_⟩, q⟩
      · show (List.foldl (fun x1 x2 => x1 ++ x2) #[] (List.replicate ((n : Int)).toNat z.cps)).size ≤ sizeLine
        rw [Int.toNat_natCast]
        have : (List.foldl (fun x1 x2 => x1 ++ x2) #[] (List.replicate n z.cps)).size = n * z.cps.size := sz
        rw [this, zl, hs]
        omega
      · rw [repS, if_neg e, Int.toNat_natCast]
section
variable {σ : L2.St} {H : Hp} {ta tb : TE}
theorem ev_mulS {z : Str} {n : Nat} (ha : Ev ta σ H (.str z)) (hb : Ev tb σ H (vi n)) (n1 : 1 ≤ n) (n100 : n ≤ 100) (z1 : z.length = 1) : Ev (tOp rMulS ta tb) σ H (.str (repS z n)) := fun H1 e Q q =>
  do_op (ha H1 e _ fun H2 e2 => hb H2 (e.trans e2) _ fun H3 e3 => ⟨z, n, rfl, rfl, n1, n100, z1, q H3 (e2.trans e3)⟩)
end
end Dw
end
section
/-! x or y of things; the last of a list; lists turned about; comprehensions over range(i, j) -/
namespace Dw
open PySem PySem.Spec PyProof.Rows L2 Evl RZ M20 M25 CL PySem.W LD
mutual
theorem dpEx {K : PySem.W.Frag} {H H' : Hp} (e : Ex H H') : ∀ {v : V} {d : PyData}, Dp K H v d → Dp K H' v d
  | _, _, .non => .non
  | _, _, .bl b => .bl b
  | _, _, .int i => .int i
  | _, _, .str x => .str x
  | _, _, .lst h r => .lst (ex_l e h) (dpsEx e r)
  | _, _, .tup h r => .tup (ex_t e h) (dpsEx e r)
theorem dpsEx {K : PySem.W.Frag} {H H' : Hp} (e : Ex H H') : ∀ {vs : List V} {ds : List PyData}, DpAll K H vs ds → DpAll K H' vs ds
  | _, _, .nil => .nil
  | _, _, .cons a b => .cons (dpEx e a) (dpsEx e b)
end
def tOrW (K : PySem.W.Frag) (ta tb : TE) : TE := fun σ H Q => ta σ H fun x H1 => ∃ k, TruV K x H1 k ∧ if k = true then Q x H1 else tb σ H1 Q
theorem pe_orW {X : Cx} {a b : Expr} {ta tb : TE} {pos : Pos} {rest : List Expr} (ha : PE X a ta) (hb : PE X (.BoolOp .Or (b :: rest) pos) tb) : PE X (.BoolOp .Or (a :: b :: rest) pos) (tOrW X.K ta tb) := ⟨fun pins s σ H Q I h =>
  PyProof.Rows.BoolOp_or (thn (ha.run pins s σ H _ I h) fun v s1 ⟨x, H1, I1, r1, k, tv, q1⟩ =>
    thn (tru_ok pins s1 σ H1 x v (fun k' H2 => if k' = true then Q x H2 else tb σ H2 Q) I1 r1 ⟨k, tv, q1⟩) fun c s2 ⟨H2, I2, q2⟩ => by
      cases c with
      | true => exact ⟨x, H2, I2, r1, q2⟩
      | false => exact hb.run pins s2 σ H2 Q I2 q2)⟩
theorem call_list_ofK {X : Cx} (K : PySem.W.Frag) (h : X.K = K := by rfl) : CallR X (.type "list") (rLstO K) := by
  subst h
  exact call_list_of
theorem cr_maxTK {X : Cx} {k : Nat} (K : PySem.W.Frag) (hc : X.calm = true) (hr : Room k X.A) (h : X.K = K := by rfl) : CallR X (.builtin "max") (rMaxT K) := by
  subst h
  exact cr_maxT hc hr
theorem atI_last {xs : List V} {v : V} : atI (xs ++ [v]) (-1) = some v := by
  show (ixN (xs ++ [v]).length (-1)).bind _ = _
  have : ixN (xs ++ [v]).length (-1) = some xs.length := by
    rw [List.length_append]
    show ixN (xs.length + 1) (-1) = _
    unfold ixN
    simp
    omega
  rw [this]
  show (xs ++ [v])[xs.length]? = some v
  rw [List.getElem?_append_right (Nat.le_refl _), Nat.sub_self]
  rfl
section
variable {K : PySem.W.Frag} {σ : L2.St} {H : Hp} {te tl ta tb : TE} {tt : TT} {g : TG} {vs vs1 : List Nat} {Q : VK}
theorem el_revL {a : Addr} {xs : List V} (h : Ev te σ H (.ref a)) (hx : H a = some (.lst xs)) : EvL (tRevL K te) σ H xs.reverse := fun H1 e Q q =>
  h H1 e _ fun H2 e2 => ⟨a, xs, rfl, sq_of ((e.trans e2) _ _ hx), fun p np => q p _ (fresh_back e2 np) (e2.trans (Ex.new np)) upd_same⟩
/-- (xs or [0])[-1] -/
theorem ev_lastOr {a : Addr} {ns : List Nat} (h : Ev ta σ H (.ref a)) (hx : H a = some (.lst (ns.map vi))) : Ev (tOp (rIxL K) (tOrW K ta (tLst (tCons (tC (.int 0)) tNil))) (tUn (rU fun i => .int (-i)) (tC (.int 1)))) σ H (vi (ns.getLast?.getD 0)) := fun H1 e Q q => do_op (show ta σ H1 _ from h H1 e _ fun H2 e2 => by
  rcases List.eq_nil_or_concat ns with rfl | ⟨init, x, rfl⟩
  · refine ⟨false, .inl ⟨[], sq_of ((e.trans e2) _ _ hx), rfl⟩, ?_⟩
    rw [if_neg (by decide)]
    refine do_lst (do_cons (do_ev ev_c fun H3 e3 => do_nil ⟨by show 1 ≤ sizeLine; decide, fun r nr => ?_⟩))
    have e4 : Ex H3 (upd H3 r (.lst [.int 0])) := Ex.new nr
    exact do_ev (v := .int (-1)) (ev_un ev_c ru_neg) fun H5 e5 => ⟨r, [.int 0], -1, .int 0, rfl, rfl, sq_of (e5 _ _ upd_same), atI_last (xs := []), q H5 (e2.trans (e3.trans (e4.trans e5)))⟩
  · have hx2 : H2 a = some (.lst (init.map vi ++ [vi x])) := by
      rw [(e.trans e2) _ _ hx, List.concat_eq_append, List.map_append]
      rfl
    refine ⟨true, .inl ⟨_, sq_of hx2, by cases init <;> rfl⟩, ?_⟩
    rw [if_pos rfl]
    have ex : (init.concat x).getLast?.getD 0 = x := by simp
    rw [ex] at q
    exact do_ev (v := .int (-1)) (ev_un ev_c ru_neg) fun H5 e5 => ⟨a, init.map vi ++ [vi x], -1, vi x, rfl, rfl, sq_of (e5 _ _ hx2), atI_last, q H5 (e2.trans e5)⟩)
/-- a comprehension over range(i, j) whose items are new lists of numbers -/
theorem do_lcNewR2 {ta : TA} {lo n : Nat} {u : Nat → List Nat} {j : Nat} (h : EvA ta σ H [vi lo, vi (lo + n)]) (hn : lo + n ≤ 40000) (hwp : ∀ x, wipe ((wipe σ vs).set j (some x)) vs = wipe σ vs)
    (hs : ∀ (i : Nat) (H1 : Hp), Ex H H1 → i < n → EvL te ((wipe σ vs).set j (some (vi (lo + i)))) H1 ((u (lo + i)).map vi))
    (k : ∀ p as H1, Ex H H1 → LLs H H1 p as ((List.range n).map fun i => u (lo + i)) → Q (.ref p) H1) : tLc (iRng2 ta) (gName j) tYes te vs σ H Q := by
  refine h H (Ex.refl _) _ fun H1 e1 => ⟨(lo : Int), ((lo + n : Nat) : Int), rfl, ⟨by omega, by omega, by omega, by omega⟩, fun Dl nD => ?_⟩
  have en : (((lo + n : Nat) : Int) - (lo : Int)).toNat = n := by omega
  rw [en]
  have nDH : H Dl = none := fresh_back e1 nD
  refine lc_it (walk_range (lo := (lo : Int)) (n := n)) (fun i H' => Ex H H' ∧ ∃ as, LLs H H' Dl as ((List.range i).map fun i => u (lo + i))) ⟨e1.trans (Ex.new nD), [], upd_same, nDH, .nil, .nil, by simp⟩ (fun _ _ _ _ => trivial) (fun i x H2 H3 hi ⟨e2, as, ll⟩ y => ?_) (fun H2 ⟨e2, as, ll⟩ => k Dl as H2 e2 ll)
  obtain ⟨rfl, hxi⟩ := y
  have e0 : x = vi (lo + i) := hxi.trans (by show V.int _ = V.int _; congr 1)
  subst e0
  refine ⟨hwp _, et_yes H3 (Ex.refl _) _ fun H4 e4 => ifT ?_⟩
  have e04 : Ex H H4 := e2.trans e4
  refine hs i H4 e04 hi H4 (Ex.refl _) _ fun b H5 nb e5 hb => ?_
  have ll5 := ll.ex (e4.trans e5)
  have la := ll.len
  rw [List.length_map, List.length_range] at la
  obtain ⟨b1, b2⟩ := lls_apart (ll.ex e4) nb
  refine ⟨as.map V.ref, ll5.at_, by rw [List.length_map]; exact sz_lt (by omega), (e04.trans e5).mut nDH, as ++ [b], ?_⟩
  rw [List.range_succ, List.map_append]
  exact lls_snoc ll5 hb (fresh_back e04 nb) b1 b2
/-- lists of lists put behind one another: a new list -/
theorem lls_cat {H0 H1 H2 : Hp} {a b l : Addr} {as bs : List Addr} {L M : List (List Nat)} (h : LLs H0 H1 a as L) (e0 : Ex H0 H1) (e1 : Ex H1 H2) (h2 : LLs H1 H2 b bs M) (nl : H2 l = none) : LLs H0 (upd H2 l (.lst (as.map V.ref ++ bs.map V.ref))) l (as ++ bs) (L ++ M) := by
  have e3 : Ex H2 (upd H2 l (.lst (as.map V.ref ++ bs.map V.ref))) := Ex.new nl
  have ha := h.ex (e1.trans e3)
  have hb := (h2.low e0).ex e3
  refine ⟨by rw [upd_same, List.map_append], fresh_back (e0.trans e1) nl, paired_app ha.each hb.each, ?_, fun z => ?_⟩
  · rw [List.nodup_append]
    refine ⟨h.nd, h2.nd, fun x hx y hy z => ?_⟩
    subst z
    obtain ⟨_, _, q1, _⟩ := h.some hx
    obtain ⟨_, _, _, q2⟩ := h2.some hy
    rw [q1] at q2
    cases q2
  · rcases List.mem_append.mp z with z | z
    · obtain ⟨_, _, q1, _⟩ := (h.ex e1).some z
      rw [q1] at nl
      cases nl
    · obtain ⟨_, _, q1, _⟩ := h2.some z
      rw [q1] at nl
      cases nl
end
end Dw
end
section
namespace K72
open PySem PySem.Spec PyProof.Rows L2 Evl Dw M20
open C8 (fnScope_by)
/-! ### the text -/
def topS (i : Nat) : Stmt := PySem.Challenge.pw_deedworlds_k72_leads_told_and_judged.main.body.getD i (.Pass ⟨0, 0, 0, 0⟩)
abbrev s_is_whole : Stmt := topS 1
theorem sc_is_whole : FnScope ["thing"] ["thing"] (defScope s_is_whole) := fnScope_by (by decide +kernel)
abbrev s_is_below : Stmt := topS 2
theorem sc_is_below : FnScope ["thing", "size"] ["thing", "size"] (defScope s_is_below) := fnScope_by (by decide +kernel)
abbrev s_is_row : Stmt := topS 3
theorem sc_is_row : FnScope ["thing", "many", "size", "number"] ["thing", "many", "size"] (defScope s_is_row) := fnScope_by (by decide +kernel)
abbrev s_power : Stmt := topS 4
theorem sc_power : FnScope ["base", "many", "told", "step"] ["base", "many"] (defScope s_power) := fnScope_by (by decide +kernel)
abbrev s_rows_below : Stmt := topS 5
theorem sc_rows_below : FnScope ["size", "many", "rows", "step", "row", "number"] ["size", "many"] (defScope s_rows_below) := fnScope_by (by decide +kernel)
abbrev s_place_of_row : Stmt := topS 6
theorem sc_place_of_row : FnScope ["size", "row", "place", "number"] ["size", "row"] (defScope s_place_of_row) := fnScope_by (by decide +kernel)
abbrev s_cells_in_order : Stmt := topS 12
theorem sc_cells_in_order : FnScope ["signature", "size", "cells", "top", "name", "places", "args"] ["signature", "size"] (defScope s_cells_in_order) := fnScope_by (by decide +kernel)
abbrev s_table_of : Stmt := topS 14
theorem sc_table_of : FnScope ["signature", "tables", "name", "deed", "table"] ["signature", "tables", "name"] (defScope s_table_of) := fnScope_by (by decide +kernel)
abbrev s_cells_with_worths : Stmt := topS 15
theorem sc_cells_with_worths : FnScope ["signature", "model", "told", "name", "places", "table", "args", "worth"] ["signature", "model"] (defScope s_cells_with_worths) := fnScope_by (by decide +kernel)
abbrev s_is_name : Stmt := topS 22
theorem sc_is_name : FnScope ["thing", "sign"] ["thing"] (defScope s_is_name) := fnScope_by (by decide +kernel)
abbrev s_is_deed : Stmt := topS 23
theorem sc_is_deed : FnScope ["thing"] ["thing"] (defScope s_is_deed) := fnScope_by (by decide +kernel)
abbrev s_signature_wrong : Stmt := topS 24
theorem sc_signature_wrong : FnScope ["thing", "k", "deed", "names", "name"] ["thing"] (defScope s_signature_wrong) := fnScope_by (by decide +kernel)
abbrev s_need_signature : Stmt := topS 25
theorem sc_need_signature : FnScope ["signature"] ["signature"] (defScope s_need_signature) := fnScope_by (by decide +kernel)
abbrev s_is_size : Stmt := topS 27
theorem sc_is_size : FnScope ["thing"] ["thing"] (defScope s_is_size) := fnScope_by (by decide +kernel)
abbrev s_first_odd_cell : Stmt := topS 28
theorem sc_first_odd_cell : FnScope ["size", "tables", "k", "table", "at", "number"] ["size", "tables"] (defScope s_first_odd_cell) := fnScope_by (by decide +kernel)
abbrev s_model_wrong : Stmt := topS 30
theorem sc_model_wrong : FnScope ["signature", "thing", "size", "tables", "k", "deed", "odd"] ["signature", "thing"] (defScope s_model_wrong) := fnScope_by (by decide +kernel)
abbrev s_need_model : Stmt := topS 31
theorem sc_need_model : FnScope ["signature", "model"] ["signature", "model"] (defScope s_need_model) := fnScope_by (by decide +kernel)
abbrev s_need_two_models : Stmt := topS 32
theorem sc_need_two_models : FnScope ["signature", "one", "other"] ["signature", "one", "other"] (defScope s_need_two_models) := fnScope_by (by decide +kernel)
abbrev s_cells_by_greatest : Stmt := topS 34
theorem sc_cells_by_greatest : FnScope ["signature", "one", "other", "told", "name", "args", "worth", "number"] ["signature", "one", "other"] (defScope s_cells_by_greatest) := fnScope_by (by decide +kernel)
abbrev s_leads_on : Stmt := topS 35
theorem sc_leads_on : FnScope ["cells", "size", "images", "args", "worth", "table", "arg"] ["cells", "size", "images"] (defScope s_leads_on) := fnScope_by (by decide +kernel)
abbrev s_leads : Stmt := topS 36
theorem sc_leads : FnScope ["signature", "one", "other", "size", "begins", "cells", "longer", "images", "number"] ["signature", "one", "other"] (defScope s_leads) := fnScope_by (by decide +kernel)
abbrev s_has_lead_form : Stmt := topS 37
theorem sc_has_lead_form : FnScope ["one", "other", "thing"] ["one", "other", "thing"] (defScope s_has_lead_form) := fnScope_by (by decide +kernel)
abbrev s_first_odd_lead : Stmt := topS 38
theorem sc_first_odd_lead : FnScope ["signature", "one", "other", "images", "name", "args", "worth"] ["signature", "one", "other", "images"] (defScope s_first_odd_lead) := fnScope_by (by decide +kernel)
abbrev s_lead_wrong : Stmt := topS 40
theorem sc_lead_wrong : FnScope ["signature", "one", "other", "thing", "odd"] ["signature", "one", "other", "thing"] (defScope s_lead_wrong) := fnScope_by (by decide +kernel)
abbrev s_lead_judged : Stmt := topS 41
theorem sc_lead_judged : FnScope ["signature", "one", "other", "thing"] ["signature", "one", "other", "thing"] (defScope s_lead_judged) := fnScope_by (by decide +kernel)
abbrev s_purse : Stmt := topS 43
theorem sc_purse : FnScope ["_law_script", "_law_cells_here", "_law_j"] ["_law_script"] (defScope s_purse) := fnScope_by (by decide +kernel)
abbrev s_draw : Stmt := topS 44
theorem sc_draw : FnScope ["_law_purse_here", "_law_out_of", "_law_cells_here", "_law_went", "_law_where", "_law_cell", "_law_figure"] ["_law_purse_here", "_law_out_of"] (defScope s_draw) := fnScope_by (by decide +kernel)
abbrev s_pick : Stmt := topS 45
theorem sc_pick : FnScope ["_law_purse_here", "_law_some"] ["_law_purse_here", "_law_some"] (defScope s_pick) := fnScope_by (by decide +kernel)
abbrev s_signature : Stmt := topS 46
theorem sc_signature : FnScope ["_law_purse_here", "_law_some"] ["_law_purse_here"] (defScope s_signature) := fnScope_by (by decide +kernel)
abbrev s_ways : Stmt := topS 47
theorem sc_ways : FnScope ["_law_many", "_law_size", "_law_found", "_law_k", "_law_longer", "_law_way_here", "_law_number"] ["_law_many", "_law_size"] (defScope s_ways) := fnScope_by (by decide +kernel)
abbrev s_table : Stmt := topS 48
theorem sc_table : FnScope ["_law_purse_here", "_law_many", "_law_size", "_law_way_here", "_law_by", "_law_found", "_law_args", "_law_worth"] ["_law_purse_here", "_law_many", "_law_size"] (defScope s_table) := fnScope_by (by decide +kernel)
abbrev s_mdl : Stmt := topS 49
theorem sc_mdl : FnScope ["_law_purse_here", "_law_signature_here", "_law_size", "_law_name", "_law_many"] ["_law_purse_here", "_law_signature_here", "_law_size"] (defScope s_mdl) := fnScope_by (by decide +kernel)
abbrev s_did : Stmt := topS 50
theorem sc_did : FnScope ["_law_signature_here", "_law_model_here", "_law_name", "_law_args", "_law_size", "_law_tables_here", "_law_k", "_law_at", "_law_arg", "_law_word", "_law_many"] ["_law_signature_here", "_law_model_here", "_law_name", "_law_args"] (defScope s_did) := fnScope_by (by decide +kernel)
abbrev s_cells : Stmt := topS 51
theorem sc_cells : FnScope ["_law_signature_here", "_law_size", "_law_found", "_law_k", "_law_name", "_law_many", "_law_args", "_law_greatest"] ["_law_signature_here", "_law_size"] (defScope s_cells) := fnScope_by (by decide +kernel)
abbrev s_copied : Stmt := topS 52
theorem sc_copied : FnScope ["_law_thing", "_law_one"] ["_law_thing"] (defScope s_copied) := fnScope_by (by decide +kernel)
abbrev s_lwhole : Stmt := topS 53
theorem sc_lwhole : FnScope ["_law_thing"] ["_law_thing"] (defScope s_lwhole) := fnScope_by (by decide +kernel)
abbrev s_ljudged : Stmt := topS 54
theorem sc_ljudged : FnScope ["_law_signature_here", "_law_one", "_law_other", "_law_thing", "_law_name", "_law_args", "_law_led_there", "_law_image_here", "_law_arg"] ["_law_signature_here", "_law_one", "_law_other", "_law_thing"] (defScope s_ljudged) := fnScope_by (by decide +kernel)
abbrev s_bentL : Stmt := topS 55
theorem sc_bentL : FnScope ["_law_purse_here", "_law_thing", "_law_size", "_law_at", "_law_way_here", "_law_odd", "_law_some"] ["_law_purse_here", "_law_thing", "_law_size"] (defScope s_bentL) := fnScope_by (by decide +kernel)
abbrev s_near : Stmt := topS 56
theorem sc_near : FnScope ["_law_purse_here", "_law_model_here", "_law_size", "_law_tables_here", "_law_k", "_law_at", "_law_table_here"] ["_law_purse_here", "_law_model_here"] (defScope s_near) := fnScope_by (by decide +kernel)
abbrev s_great : Stmt := topS 57
theorem sc_great : FnScope ["_law_worth", "_law_due", "_law_k", "_law_longer", "_law_row", "_law_signature_here", "_law_model_here", "_law_thing", "_law_number", "_law_args"] ["_law_worth"] (defScope s_great) := fnScope_by (by decide +kernel)
abbrev s_law : Stmt := topS 58
theorem sc_law : FnScope ["_law_script", "_law_purse_here", "_law_time", "_law_signature_here", "_law_one", "_law_other", "_law_every", "_law_due", "_law_told_here", "_law_near_here", "_law_right", "_law_k", "_law_thing", "_law_kept", "_law_found", "_law_lead", "_law_images"] ["_law_script"] (defScope s_law) := fnScope_by (by decide +kernel)
/-- what the module's names hold -/
structure Txt (mg : Str → Option Value) : Prop where
  z_abs : mg "abs" = none
  z_all : mg "all" = none
  z_bool : mg "bool" = none
  z_enumerate : mg "enumerate" = none
  z_int : mg "int" = none
  z_isinstance : mg "isinstance" = none
  z_len : mg "len" = none
  z_list : mg "list" = none
  z_max : mg "max" = none
  z_min : mg "min" = none
  z_range : mg "range" = none
  z_sorted : mg "sorted" = none
  z_str : mg "str" = none
  z_sum : mg "sum" = none
  z_tuple : mg "tuple" = none
  z_zip : mg "zip" = none
  z_repr : mg "repr" = none
  z_set : mg "set" = none
  c_NAME_LETTERS : ∃ t, mg "NAME_LETTERS" = some (.str "abcdefghijklmnopqrst" t)
  c_MOST_NAME : ∃ t, mg "MOST_NAME" = some (.int 4 t)
  c_MOST_DEEDS : ∃ t, mg "MOST_DEEDS" = some (.int 4 t)
  c_MOST_PLACES : ∃ t, mg "MOST_PLACES" = some (.int 2 t)
  c_MOST_SIZE : ∃ t, mg "MOST_SIZE" = some (.int 6 t)
section
variable {X : Cx} {x : Str} {pos : Pos}
theorem pe_gi {i : Int} (hg : Gl X x) (h : ∃ t, X.mg x = some (.int i t)) (hn : x ≠ "__name__" := by decide) (hd : (x == ("__debug__" : Str)) = false := by decide) : PE X (.Name x pos) (tC (.int i)) := by
  obtain ⟨t, e⟩ := h
  exact pe_glob hg e ⟨t, rfl⟩ (hd := hd)
theorem pe_gs {z : Str} (hg : Gl X x) (h : ∃ t, X.mg x = some (.str z t)) (hn : x ≠ "__name__" := by decide) (hd : (x == ("__debug__" : Str)) = false := by decide) : PE X (.Name x pos) (tC (.str z)) := by
  obtain ⟨t, e⟩ := h
  exact pe_glob hg e ⟨t, rfl⟩ (hd := hd)
theorem pe_ty (n : String) (hg : Gl X x) (hm : X.mg x = none) (hv : bootBuiltins x = some (.type n)) (hn : x ≠ "__name__" := by decide) (hd : (x == ("__debug__" : Str)) = false := by decide) : PE X (.Name x pos) (tC (.ty n)) := pe_bltn hg hm hv rfl (hn := hn) (hd := hd)
theorem ip_mul : PIp X .Mult (rI CMul fun i j => .int (i * j)) := iop_mul
end
section
variable {P : Program} {w : World} {K : PySem.W.Frag} {mg : Str → Option Value} {base : Heap}
/-! ### is_whole, is_below, power -/
def sp_is_whole : Sp := spX (fun (i : Int) vs _ => vs = [.int i]) (fun _ v _ => v = .bl true)
theorem c_is_whole (T : Txt mg) (D : Df K mg "is_whole" s_is_whole ["thing"]) : Cl P w K mg base 1 "is_whole" sp_is_whole := by
  refine cl_of (k := 0) D sc_is_whole (fun vs H Q E h => ?_) (fun f cdv A outer s H vs Q E hr h => ?_)
  · obtain ⟨i, rfl, _⟩ := h
    rfl
  · obtain ⟨i, rfl, q⟩ := h
    refine ⟨_, (pss_one (ps_ret (pe_and (pe_callB call_isi (by rfl) T.z_isinstance (by decide +kernel) (pa_cons (pv 0) (pa_cons (pe_ty "int" (by rfl) T.z_int (by decide +kernel)) pa_nil))) (pe_one (pe_not (pe_callB call_isi (by rfl) T.z_isinstance (by decide +kernel) (pa_cons (pv 0) (pa_cons (pe_ty "bool" (by rfl) T.z_bool (by decide +kernel)) pa_nil)))))))), ?_⟩
    exact s_ret (ev_andV (ev_isi (ev_var rfl) ev_c (.ty _) (fun _ _ => tyx_int i) kit_ii) (fun _ => ev_notV (ev_isi (ev_var rfl) ev_c (.ty _) (fun _ _ => tyx_int i) kit_ib))) fun H1 e => q _ H1 e rfl
def sp_is_below : Sp := spX (fun (p : Int × Int) vs _ => vs = [.int p.1, .int p.2] ∧ 0 ≤ p.1 ∧ p.1 < p.2) (fun _ v _ => v = .bl true)
theorem c_is_below (T : Txt mg) (D : Df K mg "is_below" s_is_below ["thing", "size"]) (c_is_whole : Cl P w K mg base 1 "is_whole" sp_is_whole) : Cl P w K mg base 2 "is_below" sp_is_below := by
  refine cl_of (k := 1) D sc_is_below (fun vs H Q E h => ?_) (fun f cdv A outer s H vs Q E hr h => ?_)
  · obtain ⟨p, ⟨rfl, _⟩, _⟩ := h
    rfl
  · obtain ⟨⟨i, n⟩, ⟨rfl, h0, h1⟩, q⟩ := h
    refine ⟨_, (pss_one (ps_ret (pe_and (pe_cl c_is_whole hr (by first | decide | omega) (by rfl) (pa_cons (pv 0) pa_nil)) (pe_one (pe_chain op_le op_lt pe_int (pv 0) (pv 1)))))), ?_⟩
    refine s_ret (ev_andV (ev_callV (v := .bl true) i (ea_cons (ev_var rfl) ea_nil) (fun _ _ => rfl) (fun _ _ p => p)) (fun _ => ev_chain ev_c (ev_var rfl) (fun _ => ev_var rfl) rv_I0 (fun _ => rv_I0))) fun H1 e => q _ H1 e ?_
    show V.bl (true && (decide (0 ≤ i) && decide (i < n))) = _
    rw [decide_eq_true h0, decide_eq_true h1]
    rfl
def sp_power : Sp := spX (fun (p : Nat × Nat) vs _ => vs = [vi p.1, vi p.2] ∧ p.1 ≤ 6 ∧ p.2 ≤ 2) (fun p v _ => v = vi (p.1 ^ p.2))
theorem c_power (T : Txt mg) (D : Df K mg "power" s_power ["base", "many"]) : Cl P w K mg base 1 "power" sp_power := by
  refine cl_of (k := 0) D sc_power (fun vs H Q E h => ?_) (fun f cdv A outer s H vs Q E hr h => ?_)
  · obtain ⟨p, ⟨rfl, _⟩, _⟩ := h
    rfl
  · obtain ⟨⟨b, m⟩, ⟨rfl, hb, hm⟩, q⟩ := h
    refine ⟨_, (pss_cons (ps_set (i := 2) sc_power.nd rfl (.inl rfl) pe_int)
      (pss_cons (ps_for PassesOwn.never (by rfl) (pi_range1 (by rfl) T.z_range (pa_cons (pv 1) pa_nil)) (pg_name (i := 3) sc_power.nd rfl (.inl rfl))
        (pss_one (ps_aug (i := 2) sc_power.nd rfl (.inl rfl) (pv 0) ip_mul)))
      (pss_one (ps_ret (pv 2))))), ?_⟩
    refine q_asg ev_c fun H1 e1 => ?_
    refine q_forR1 (ea_cons (ev_var rfl) ea_nil) (by omega) (fun i σ H' => ∃ y, σ = [some (vi b), some (vi m), some (vi (b ^ i)), y] ∧ Ex H H') (fun H2 e2 => ⟨none, rfl, e1.trans e2⟩) (fun i σ H' hi ⟨y, hσ, e⟩ => ?_) (fun σ H' ⟨y, hσ, e⟩ => ?_)
    · subst hσ
      refine ⟨_, rfl, _, rfl, ((b ^ i : Nat) : Int), (b : Int), rfl, rfl, .inr ⟨by omega, by omega⟩, some (vi i), ?_, e⟩
      show [some (vi b), some (vi m), some (.int (((b ^ i : Nat) : Int) * (b : Int))), some (vi i)] = [some (vi b), some (vi m), some (vi (b ^ (i + 1))), some (vi i)]
      rw [Nat.pow_succ]
      show _ = [some (vi b), some (vi m), some (.int ((b ^ i * b : Nat) : Int)), some (vi i)]
      rw [Int.natCast_mul]
    · subst hσ
      exact s_ret (ev_var rfl) fun H2 e2 => q _ H2 (e.trans e2) rfl
end
end K72
end
section
namespace K72
open PySem PySem.Spec PyProof.Rows L2 Evl Dw M20
section
variable {P : Program} {w : World} {K : PySem.W.Frag} {mg : Str → Option Value} {base : Heap}
theorem ix_tupK {X : Cx} (K : PySem.W.Frag) (h : X.K = K := by rfl) : IxR X (rIxT K) := by
  subst h
  exact ix_tup
/-! ### names, deeds, signatures -/
def letters : Str := "abcdefghijklmnopqrst"
structure Name (z : Str) : Prop where
  l1 : 1 ≤ z.length
  l4 : z.length ≤ 4
  abc : ∀ c ∈ z.cps.toList, c ∈ letters.cps.toList
def sp_is_name : Sp := spX (fun (z : Str) vs _ => vs = [.str z] ∧ Name z) (fun _ v _ => v = .bl true)
theorem c_is_name (T : Txt mg) (D : Df K mg "is_name" s_is_name ["thing"]) : Cl P w K mg base 1 "is_name" sp_is_name := by
  refine cl_of (k := 0) D sc_is_name (fun vs H Q E h => ?_) (fun f cdv A outer s H vs Q E hr h => ?_)
  · obtain ⟨p, ⟨rfl, _⟩, _⟩ := h
    rfl
  · obtain ⟨z, ⟨rfl, hz⟩, q⟩ := h
    refine ⟨_, (pss_cons (ps_if (PW.pt (pw_or (pt_not (pt_val (pe_callB call_isi (by rfl) T.z_isinstance (by decide +kernel) (pa_cons (pv 0) (pa_cons (pe_ty "str" (by rfl) T.z_str (by decide +kernel)) pa_nil))))) (pw_or1 (pt_not (pt_chain op_le op_le pe_int (pe_callB call_len_str (by rfl) T.z_len PySem.boot_len (pa_cons (pv 0) pa_nil)) (pe_gi (by rfl) T.c_MOST_NAME))))))
        (pss_one (ps_ret pe_bl))
        pss_nil)
      (pss_one (ps_ret (pe_callB (cr_all rfl) (by rfl) T.z_all (by decide +kernel) (pa_cons (pe_lc (own := [("sign", 1)]) (g := (gName 1)) (by rfl) sc_is_name.nd (pi_str (pv 0)) (blkOk_by (own := [("sign", 1)]) (N := ["thing", "sign"]) (sc := (defScope s_is_name)) (by decide +kernel)) (fun _ _ _ _ _ => (pg_name (i := 1) sc_is_name.nd rfl (.inl rfl))) (fun _ _ _ _ _ => pts_nil) (fun _ _ _ _ _ => (pe_cmpR op_in_sign (pv 1) (pe_gs (by rfl) T.c_NAME_LETTERS) (by rfl)))) pa_nil))))), ?_⟩
    have h1 := hz.l1
    have h4 := hz.l4
    have hs : z.cps.size = z.length := rfl
    refine q_when (b := false) (et_is (et_or (et_not (et_val (ev_isi (ev_var rfl) ev_c (.ty _) (fun _ _ => tyx_str z) kit_ss))) (fun _ => et_not (et_test (ev_chain ev_c (ev_lenS (ev_var rfl) (by omega)) (fun _ => ev_c) rv_I0 (fun _ => rv_I0))))) ?_) (fun hb => by cases hb) (fun _ H1 e1 => ?_)
    · show (!true || !(decide ((1 : Int) ≤ (z.length : Int)) && decide ((z.length : Int) ≤ 4))) = false
      rw [decide_eq_true (by omega), decide_eq_true (by omega)]
      rfl
    · refine s_ret (ev_all (bs := List.replicate z.cps.size true) ?_) fun H2 e2 => q _ H2 (e1.trans e2) ?_
      · have e : (List.replicate z.cps.size true).map V.bl = (List.range z.cps.size).map (fun _ => V.bl true) := by
          rw [List.map_const', List.length_range, List.map_replicate]
        rw [e]
        refine el_lcS (ev_var rfl) (fun _ => .bl true) (by omega) (fun _ => rfl) (fun i c H2 e2 hc => ?_)
        refine ev_op (ev_var rfl) ev_c ?_
        have hm : c ∈ letters.cps.toList := hz.abc c (by
          obtain ⟨hi, e⟩ := Array.getElem?_eq_some_iff.mp hc
          rw [← e]
          exact Array.getElem_mem_toList hi)
        exact fun H3 _ Q q3 => ⟨c, letters, rfl, rfl, by rw [decide_eq_true hm]; exact q3 H3 (Ex.refl H3)⟩
      · show V.bl ((List.replicate z.cps.size true).all id) = V.bl true
        rw [show (List.replicate z.cps.size true).all id = true from List.all_eq_true.mpr (fun b hb => (List.mem_replicate.mp hb).2)]
def sp_is_deed (K : PySem.W.Frag) : Sp := spX (fun (p : Str × Nat) vs H => (∃ v, vs = [v] ∧ Deed K H v p) ∧ Name p.1 ∧ p.2 ≤ 2) (fun _ v _ => v = .bl true)
theorem c_is_deed (T : Txt mg) (D : Df K mg "is_deed" s_is_deed ["thing"]) (c_is_name : Cl P w K mg base 1 "is_name" sp_is_name) (c_is_below : Cl P w K mg base 2 "is_below" sp_is_below) : Cl P w K mg base 3 "is_deed" (sp_is_deed K) := by
  refine cl_of (k := 2) D sc_is_deed (fun vs H Q E h => ?_) (fun f cdv A outer s H vs Q E hr h => ?_)
  · obtain ⟨p, ⟨⟨v, rfl, _⟩, _⟩, _⟩ := h
    rfl
  · obtain ⟨⟨z, p⟩, ⟨⟨v, rfl, b, rfl, hb⟩, hz, hp⟩, q⟩ := h
    refine ⟨_, (pss_one (ps_ret (pe_and (pe_callB call_isi (by rfl) T.z_isinstance (by decide +kernel) (pa_cons (pv 0) (pa_cons (pe_ty "tuple" (by rfl) T.z_tuple (by decide +kernel)) pa_nil))) (pe_and (pe_cmpR op_eq (pe_callB call_len_seq (by rfl) T.z_len PySem.boot_len (pa_cons (pv 0) pa_nil)) pe_int (nomark _)) (pe_and (pe_cl c_is_name hr (by first | decide | omega) (by rfl) (pa_cons (pe_ix ix_tup (pv 0) pe_int (fun _ _ => rfl)) pa_nil)) (pe_one (pe_cl c_is_below hr (by first | decide | omega) (by rfl) (pa_cons (pe_ix ix_tup (pv 0) pe_int (fun _ _ => rfl)) (pa_cons (pe_op op_add (pe_gi (by rfl) T.c_MOST_PLACES) pe_int) pa_nil))))))))), ?_⟩
    refine s_ret (ev_andV (ev_isi (ev_var rfl) ev_c (.ty _) (fun _ e => tyx_tup (ex_t e hb)) kit_tt) (fun _ => ev_andV (ev_op (ev_lenT (ev_var rfl) hb) ev_c (rv_eq rfl)) (fun _ =>
      ev_andV (ev_callV (v := .bl true) z (ea_cons (ev_op (ev_var rfl) ev_c (rv_ixT hb (atI_vi (k := 0) rfl))) ea_nil) (fun _ _ => ⟨rfl, hz⟩) (fun _ _ p => p)) (fun _ =>
        ev_callV (v := .bl true) (((p : Nat) : Int), (3 : Int)) (ea_cons (ev_op (ev_var rfl) ev_c (rv_ixT hb (atI_vi (k := 1) rfl))) (ea_cons (ev_op ev_c ev_c rv_I0) ea_nil)) (fun _ _ => ⟨rfl, by show (0 : Int) ≤ (p : Int); omega, by show (p : Int) < 3; have : p ≤ 2 := hp; omega⟩) (fun _ _ p => p))))) fun H1 e => q _ H1 e rfl
/-- a signature as the law draws it -/
structure SigOk (sg : List (Str × Nat)) : Prop where
  l1 : 1 ≤ sg.length
  l4 : sg.length ≤ 4
  nm : ∀ p ∈ sg, Name p.1
  pl : ∀ p ∈ sg, p.2 ≤ 2
  nd : (sg.map (·.1)).Nodup
def sp_signature_wrong (K : PySem.W.Frag) : Sp := spX (fun (sg : List (Str × Nat)) vs H => (∃ v, vs = [v] ∧ Sig K H v sg) ∧ SigOk sg) (fun _ v _ => v = .non)
theorem c_signature_wrong (T : Txt mg) (D : Df K mg "signature_wrong" s_signature_wrong ["thing"]) (c_is_deed : Cl P w K mg base 3 "is_deed" (sp_is_deed K)) : Cl P w K mg base 4 "signature_wrong" (sp_signature_wrong K) := by
  refine cl_of (k := 3) D sc_signature_wrong (fun vs H Q E h => ?_) (fun f cdv A outer s H vs Q E hr h => ?_)
  · obtain ⟨p, ⟨⟨v, rfl, _⟩, _⟩, _⟩ := h
    rfl
  · obtain ⟨sg, ⟨⟨v, rfl, a, us, rfl, hS, hP⟩, ok⟩, q⟩ := h
    refine ⟨_, (pss_cons (ps_if (PW.pt (pw_or (pt_not (pt_val (pe_callB call_isi (by rfl) T.z_isinstance (by decide +kernel) (pa_cons (pv 0) (pa_cons (pe_ty "tuple" (by rfl) T.z_tuple (by decide +kernel)) pa_nil))))) (pw_or1 (pt_not (pt_chain op_le op_le pe_int (pe_callB call_len_seq (by rfl) T.z_len PySem.boot_len (pa_cons (pv 0) pa_nil)) (pe_gi (by rfl) T.c_MOST_DEEDS))))))
        (pss_one (ps_ret (pe_tup (pa_cons pe_str pa_nil))))
        pss_nil)
      (pss_cons (ps_for PassesOwn.never (by rfl) (pi_enumT (by rfl) T.z_enumerate (pa_cons (pv 0) pa_nil)) (pg_tup (by rfl) (pgs_cons (pg_name (i := 1) sc_signature_wrong.nd rfl (.inl rfl)) (pgs_cons (pg_name (i := 2) sc_signature_wrong.nd rfl (.inl rfl)) pgs_nil)))
        (pss_one (ps_if (pt_not (pt_val (pe_cl c_is_deed hr (by first | decide | omega) (by rfl) (pa_cons (pv 2) pa_nil))))
          (pss_one (ps_ret (pe_tup (pa_cons pe_str (pa_cons (pv 1) pa_nil)))))
          pss_nil)))
      (pss_cons (ps_setLc (i := 3) (own := [("deed", 2)]) (g := (gName 2)) (by rfl) sc_signature_wrong.nd rfl rfl (sw_true rfl rfl rfl (by decide +kernel)) (pi_tup (pv 0)) (blkOk_by (own := [("deed", 2)]) (N := ["thing", "k", "deed", "names", "name"]) (sc := (defScope s_signature_wrong)) (by decide +kernel)) (fun _ _ _ _ _ => (pg_name (i := 2) sc_signature_wrong.nd rfl (.inl rfl))) (fun _ _ _ _ _ => pts_nil) (fun _ _ _ _ _ => (pe_ix (ix_tupK K) (pv 2) pe_int (fun _ _ => rfl))))
      (pss_cons (ps_for PassesOwn.never (by rfl) (pi_enum (by rfl) T.z_enumerate (pa_cons (pv 3) pa_nil)) (pg_tup (by rfl) (pgs_cons (pg_name (i := 1) sc_signature_wrong.nd rfl (.inl rfl)) (pgs_cons (pg_name (i := 4) sc_signature_wrong.nd rfl (.inl rfl)) pgs_nil)))
        (pss_one (ps_if (pt_cmpR op_in_seq (pv 4) (pe_slice sl_list (pv 3) po_none (po_some (pv 1))) (by rfl))
          (pss_one (ps_ret (pe_tup (pa_cons pe_str (pa_cons (pv 1) pa_nil)))))
          pss_nil)))
      (pss_one (ps_ret pe_non)))))), ?_⟩
    have h1 := ok.l1
    have h4 := ok.l4
    have hl : us.length = sg.length := paired_len hP
    refine q_when (b := false) (et_is (et_or (et_not (et_val (ev_isi (ev_var rfl) ev_c (.ty _) (fun _ e => tyx_tup (ex_t e hS)) kit_tt))) (fun _ => et_not (et_test (ev_chain ev_c (ev_lenT (ev_var rfl) hS) (fun _ => ev_c) rv_I0 (fun _ => rv_I0))))) ?_) (fun hb => by cases hb) (fun _ H1 e1 => ?_)
    · show (!true || !(decide ((1 : Int) ≤ (us.length : Int)) && decide ((us.length : Int) ≤ 4))) = false
      rw [decide_eq_true (by omega), decide_eq_true (by omega)]
      rfl
    -- each is a deed
    refine q_enumT (ea_cons (ev_var rfl) ea_nil) (ex_t e1 hS) (fun i σ H' => Ex H H' ∧ ∃ y1 y2, σ = [some (.ref a), y1, y2, none, none]) (fun H2 e2 => ⟨e1.trans e2, none, none, rfl⟩) (fun i σ H' _ ⟨e, _⟩ => ex_t e hS) (fun i x σ H2 H3 hx ⟨e, y1, y2, hσ⟩ e3 => ?_) (fun σ H2 ⟨e2, y1, y2, hσ⟩ => ?_)
    · subst hσ
      have hi : i < sg.length := by rw [← hl]; exact (List.getElem?_eq_some_iff.mp hx).1
      obtain ⟨x', ex', dx⟩ := paired_get hP (List.getElem?_eq_getElem hi)
      have : x' = x := Option.some.inj (ex'.symm.trans hx)
      subst this
      have hm : sg[i] ∈ sg := List.getElem_mem hi
      have e03 : Ex H H3 := e.trans e3
      refine s_when (b := false) (et_is (et_not (et_val (ev_callV (v := .bl true) sg[i] (ea_cons (ev_var rfl) ea_nil) (fun H4 e4 => ⟨⟨_, rfl, dx.et (Dw.Ex.et (e03.trans e4))⟩, ok.nm _ hm, ok.pl _ hm⟩) (fun _ _ p => p)))) rfl) (fun hb => by cases hb) (fun _ H4 e4 => ⟨e03.trans e4, _, _, rfl⟩)
    · subst hσ
      -- the names
      have names : EvL (tLc (iTup K (tVar 0)) (gName 2) tYes (tOp (rIxT K) (tVar 2) (tC (.int 0))) [2]) [some (.ref a), y1, y2, none, none] H2 ((List.range us.length).map fun i => .str (sg.getD i ("", 0)).1) := by
        refine el_lcT (ev_var rfl) (ex_t e2 hS) _ (by omega) (fun _ => rfl) (fun i x H3 e3 hx => ?_)
        have hi : i < sg.length := by rw [← hl]; exact (List.getElem?_eq_some_iff.mp hx).1
        obtain ⟨x', ex', b, hb, hd⟩ := paired_get hP (List.getElem?_eq_getElem hi)
        have : x' = x := Option.some.inj (ex'.symm.trans hx)
        subst this
        subst hb
        rw [List.getD_eq_getElem?_getD, List.getElem?_eq_getElem hi]
        exact ev_op (ev_var rfl) ev_c (rv_ixT (ex_t (e2.trans e3) hd) (atI_vi (k := 0) rfl))
      rw [hl] at names
      have eN : ((List.range sg.length).map fun i => V.str (sg.getD i ("", 0)).1) = (sg.map (·.1)).map V.str := by
        apply List.ext_getElem?
        intro i
        by_cases hi : i < sg.length
        · rw [List.getElem?_map, List.getElem?_range hi, List.getElem?_map, List.getElem?_map, List.getElem?_eq_getElem hi]
          show some (V.str (sg.getD i ("", 0)).1) = some (V.str sg[i].1)
          rw [List.getD_eq_getElem?_getD, List.getElem?_eq_getElem hi]
          rfl
        · rw [List.getElem?_eq_none_iff.mpr (by simp; omega), List.getElem?_eq_none_iff.mpr (by simp; omega)]
      rw [eN] at names
      refine q_asgL names fun p H3 np e3 hp => ?_
      have e03 : Ex H H3 := e2.trans e3
      refine q_enumL (K := K) (ea_cons (ev_var rfl) ea_nil) (sq_of hp) (fun i σ H' => Ex H3 H' ∧ ∃ z1 z4, σ = [some (.ref a), z1, y2, some (.ref p), z4]) (fun H4 e4 => ⟨e4, _, _, rfl⟩) (fun i σ H' _ ⟨e, _⟩ => ex_l e (sq_of hp)) (fun i x σ H4 H5 hx ⟨e4, z1, z4, hσ⟩ e5 => ?_) (fun σ H4 ⟨e4, z1, z4, hσ⟩ => ?_)
      · subst hσ
        have hi : i < (sg.map (·.1)).length := by simpa using (List.getElem?_eq_some_iff.mp hx).1
        have ex : x = .str (sg.map (·.1))[i] := by
          rw [List.getElem?_map, List.getElem?_eq_getElem hi] at hx
          exact (Option.some.inj hx).symm
        subst ex
        have cut : cutV ((sg.map (·.1)).map V.str) none (some (i : Int)) = ((sg.map (·.1)).take i).map V.str := by
          unfold cutV
          rw [HT.sIx_none, HT.sIx_nat, List.length_map, Nat.sub_zero, List.drop_zero, ← List.map_take, Nat.min_eq_left (Nat.le_of_lt hi)]
        have flat : (((sg.map (·.1)).take i).map V.str).all flatV = true := List.all_eq_true.mpr (fun v hv => by
          obtain ⟨z, _, rfl⟩ := List.mem_map.mp hv
          rfl)
        have out : inV (.str (sg.map (·.1))[i]) (((sg.map (·.1)).take i).map V.str) = false := by
          unfold inV
          rw [List.any_eq_false]
          intro v hv
          obtain ⟨z, hz, rfl⟩ := List.mem_map.mp hv
          show ¬ (z == (sg.map (·.1))[i]) = true
          intro he
          have he' : z = (sg.map (·.1))[i] := eq_of_beq he
          obtain ⟨j, hj, ej⟩ := List.mem_take_iff_getElem.mp hz
          have hji : j < i := by omega
          have := (List.getElem_inj ok.nd).mp (ej.trans he')
          omega
        have eL : Ex H3 H5 := e4.trans e5
        have sl : EvL (tSl (rSlL K) (tVar 3) tNoPart (tPart (tVar 1))) [some (.ref a), some (vi i), y2, some (.ref p), some (.str (sg.map (·.1))[i])] H5 (((sg.map (·.1)).take i).map V.str) := by
          rw [← cut]
          exact el_sl (ev_var rfl) eo_none (eo_some (ev_var rfl)) (ex_l eL (sq_of hp))
        exact s_when (b := false) (et_is (et_test (ev_opL (ev_var rfl) sl (fun r H6 hr6 _ => rv_isL (sq_of hr6) rfl flat))) out) (fun hb => by cases hb) (fun _ H6 e6 => ⟨eL.trans e6, _, _, rfl⟩)
      · subst hσ
        exact s_ret ev_c fun H5 e5 => q _ H5 ((e03.trans e4).trans e5) rfl
def sp_need_signature (K : PySem.W.Frag) : Sp := spX (fun (sg : List (Str × Nat)) vs H => (∃ v, vs = [v] ∧ Sig K H v sg) ∧ SigOk sg) (fun _ v _ => v = .non)
theorem c_need_signature (T : Txt mg) (D : Df K mg "need_signature" s_need_signature ["signature"]) (c_signature_wrong : Cl P w K mg base 4 "signature_wrong" (sp_signature_wrong K)) : Cl P w K mg base 5 "need_signature" (sp_need_signature K) := by
  refine cl_of (k := 4) D sc_need_signature (fun vs H Q E h => ?_) (fun f cdv A outer s H vs Q E hr h => ?_)
  · obtain ⟨p, ⟨⟨v, rfl, _⟩, _⟩, _⟩ := h
    rfl
  · obtain ⟨sg, ⟨⟨v, rfl, hS⟩, ok⟩, q⟩ := h
    refine ⟨_, (pss_one (ps_if (pt_cmpR op_notN (pe_cl c_signature_wrong hr (by first | decide | omega) (by rfl) (pa_cons (pv 0) pa_nil)) pe_non (nomark _))
        (pss_one ps_never)
        pss_nil)), ?_⟩
    exact s_when (b := false) (et_is (et_isN (ev_callV (v := .non) sg (ea_cons (ev_var rfl) ea_nil) (fun H1 e1 => ⟨⟨_, rfl, hS.ex e1⟩, ok⟩) (fun _ _ p => p))) rfl) (fun hb => by cases hb) (fun _ H1 e1 => q _ H1 e1 rfl)
/-! ### models looked at -/
def sp_is_size : Sp := spX (fun (n : Nat) vs _ => vs = [vi n] ∧ 1 ≤ n ∧ n ≤ 6) (fun _ v _ => v = .bl true)
theorem c_is_size (T : Txt mg) (D : Df K mg "is_size" s_is_size ["thing"]) (c_is_whole : Cl P w K mg base 1 "is_whole" sp_is_whole) : Cl P w K mg base 2 "is_size" sp_is_size := by
  refine cl_of (k := 1) D sc_is_size (fun vs H Q E h => ?_) (fun f cdv A outer s H vs Q E hr h => ?_)
  · obtain ⟨p, ⟨rfl, _⟩, _⟩ := h
    rfl
  · obtain ⟨n, ⟨rfl, h1, h6⟩, q⟩ := h
    refine ⟨_, (pss_one (ps_ret (pe_and (pe_cl c_is_whole hr (by first | decide | omega) (by rfl) (pa_cons (pv 0) pa_nil)) (pe_one (pe_chain op_le op_le pe_int (pv 0) (pe_gi (by rfl) T.c_MOST_SIZE)))))), ?_⟩
    refine s_ret (ev_andV (ev_callV (v := .bl true) (n : Int) (ea_cons (ev_var rfl) ea_nil) (fun _ _ => rfl) (fun _ _ p => p)) (fun _ => ev_chain ev_c (ev_var rfl) (fun _ => ev_c) rv_I0 (fun _ => rv_I0))) fun H1 e => q _ H1 e ?_
    show V.bl (true && (decide ((1 : Int) ≤ (n : Int)) && decide ((n : Int) ≤ 6))) = _
    rw [decide_eq_true (by omega), decide_eq_true (by omega)]
    rfl
def sp_first_odd_cell (K : PySem.W.Frag) : Sp := spX (fun (p : Nat × List (List Nat)) vs H => (∃ v, vs = [vi p.1, v] ∧ Tabs K H v p.2) ∧ ∀ t ∈ p.2, ∀ k ∈ t, k < p.1) (fun _ v _ => v = .non)
theorem c_first_odd_cell_models (T : Txt mg) (D : DfQ K mg "first_odd_cell_models" "first_odd_cell" s_first_odd_cell ["size", "tables"]) (c_is_below : Cl P w K mg base 2 "is_below" sp_is_below) : Cl P w K mg base 3 "first_odd_cell_models" (sp_first_odd_cell K) := by
  refine cl_ofQ (k := 2) D sc_first_odd_cell (fun vs H Q E h => ?_) (fun f cdv A outer s H vs Q E hr h => ?_)
  · obtain ⟨p, ⟨⟨v, rfl, _⟩, _⟩, _⟩ := h
    rfl
  · obtain ⟨⟨n, ts⟩, ⟨⟨v, rfl, a, us, rfl, hS, hP⟩, low⟩, q⟩ := h
    refine ⟨_, (pss_cons (ps_for PassesOwn.never (by rfl) (pi_enumT (by rfl) T.z_enumerate (pa_cons (pv 1) pa_nil)) (pg_tup (by rfl) (pgs_cons (pg_name (i := 2) sc_first_odd_cell.nd rfl (.inl rfl)) (pgs_cons (pg_name (i := 3) sc_first_odd_cell.nd rfl (.inl rfl)) pgs_nil)))
        (pss_one (ps_for PassesOwn.never (by rfl) (pi_enumT (by rfl) T.z_enumerate (pa_cons (pv 3) pa_nil)) (pg_tup (by rfl) (pgs_cons (pg_name (i := 4) sc_first_odd_cell.nd rfl (.inl rfl)) (pgs_cons (pg_name (i := 5) sc_first_odd_cell.nd rfl (.inl rfl)) pgs_nil)))
          (pss_one (ps_if (pt_not (pt_val (pe_cl c_is_below hr (by first | decide | omega) (by rfl) (pa_cons (pv 5) (pa_cons (pv 0) pa_nil)))))
            (pss_one (ps_ret (pe_tup (pa_cons (pv 2) (pa_cons (pv 4) pa_nil)))))
            pss_nil)))))
      (pss_one (ps_ret pe_non))), ?_⟩
    refine q_enumT (ea_cons (ev_var rfl) ea_nil) hS (fun i σ H' => Ex H H' ∧ ∃ y2 y3 y4 y5, σ = [some (vi n), some (.ref a), y2, y3, y4, y5]) (fun H2 e2 => ⟨e2, none, none, none, none, rfl⟩) (fun i σ H' _ ⟨e, _⟩ => ex_t e hS) (fun i x σ H2 H3 hx ⟨e, y2, y3, y4, y5, hσ⟩ e3 => ?_) (fun σ H2 ⟨e2, _, _, _, _, hσ⟩ => ?_)
    · subst hσ
      have hi : i < ts.length := by rw [← paired_len hP]; exact (List.getElem?_eq_some_iff.mp hx).1
      obtain ⟨x', ex', b, hb, hd⟩ := paired_get hP (List.getElem?_eq_getElem hi)
      have : x' = x := Option.some.inj (ex'.symm.trans hx)
      subst this
      subst hb
      have e03 : Ex H H3 := e.trans e3
      refine s_enumT (ea_cons (ev_var rfl) ea_nil) (ex_t e03 hd) (fun j σ H' => Ex H H' ∧ ∃ y4 y5, σ = [some (vi n), some (.ref a), some (vi i), some (.ref b), y4, y5]) (fun H4 e4 => ⟨e03.trans e4, _, _, rfl⟩) (fun j σ H' _ ⟨e, _⟩ => ex_t e hd) (fun j y σ H4 H5 hy ⟨e4, z4, z5, hσ⟩ e5 => ?_) (fun σ H4 ⟨e4, z4, z5, hσ⟩ => ?_)
      · subst hσ
        have hj : j < ts[i].length := by simpa using (List.getElem?_eq_some_iff.mp hy).1
        have ey : y = vi ts[i][j] := by
          rw [List.getElem?_map, List.getElem?_eq_getElem hj] at hy
          exact (Option.some.inj hy).symm
        subst ey
        have lo : ts[i][j] < n := low _ (List.getElem_mem hi) _ (List.getElem_mem hj)
        exact s_when (b := false) (et_is (et_not (et_val (ev_callV (v := .bl true) (((ts[i][j] : Nat) : Int), (n : Int)) (ea_cons (ev_var rfl) (ea_cons (ev_var rfl) ea_nil)) (fun H4 e4 => ⟨rfl, by show (0 : Int) ≤ ((ts[i][j] : Nat) : Int); omega, by show ((ts[i][j] : Nat) : Int) < (n : Int); omega⟩) (fun _ _ p => p)))) rfl) (fun hb => by cases hb) (fun _ H6 e6 => ⟨(e4.trans e5).trans e6, _, _, rfl⟩)
      · subst hσ
        exact ⟨e4, _, _, _, _, rfl⟩
    · subst hσ
      exact s_ret ev_c fun H3 e3 => q _ H3 (e2.trans e3) rfl
/-- a model of a signature, as tables of natural numbers -/
structure MdlOk (sg : List (Str × Nat)) (n : Nat) (ts : List (List Nat)) : Prop where
  n1 : 1 ≤ n
  n6 : n ≤ 6
  len : ts.length = sg.length
  tab : ∀ i (h1 : i < sg.length) (h2 : i < ts.length), Tab n sg[i].2 ts[i]
theorem MdlOk.low {sg : List (Str × Nat)} {n : Nat} {ts : List (List Nat)} (m : MdlOk sg n ts) : ∀ t ∈ ts, ∀ k ∈ t, k < n := by
  intro t ht k hk
  obtain ⟨i, hi, e⟩ := List.mem_iff_getElem.mp ht
  subst e
  have tb := m.tab i (by rw [← m.len]; exact hi) hi
  obtain ⟨j, hj, e⟩ := List.mem_iff_getElem.mp hk
  have h := tb.low j (by rw [← tb.len]; exact hj)
  have g1 := g_eq hj
  rw [List.getElem?_eq_getElem hj, e] at g1
  rw [← Option.some.inj g1] at h
  exact h
def sp_model_wrong (K : PySem.W.Frag) : Sp := spX (fun (p : List (Str × Nat) × Nat × List (List Nat)) vs H => (∃ u v, vs = [u, v] ∧ Sig K H u p.1 ∧ Mdl K H v p.2.1 p.2.2) ∧ SigOk p.1 ∧ MdlOk p.1 p.2.1 p.2.2) (fun _ v _ => v = .non)
theorem c_model_wrong (T : Txt mg) (D : Df K mg "model_wrong" s_model_wrong ["signature", "thing"]) (c_need_signature : Cl P w K mg base 5 "need_signature" (sp_need_signature K)) (c_is_size : Cl P w K mg base 2 "is_size" sp_is_size)
    (c_power : Cl P w K mg base 1 "power" sp_power) (c_first_odd_cell_models : Cl P w K mg base 3 "first_odd_cell_models" (sp_first_odd_cell K)) : Cl P w K mg base 6 "model_wrong" (sp_model_wrong K) := by
  refine cl_of (k := 5) D sc_model_wrong (fun vs H Q E h => ?_) (fun f cdv A outer s H vs Q E hr h => ?_)
  · obtain ⟨p, ⟨⟨u, v, rfl, _⟩, _⟩, _⟩ := h
    rfl
  · obtain ⟨⟨sg, n, ts⟩, ⟨⟨u, v, rfl, hG, hM⟩, sok, mok⟩, q⟩ := h
    refine ⟨_, (pss_cons (ps_expr (pe_cl c_need_signature hr (by first | decide | omega) (by rfl) (pa_cons (pv 0) pa_nil)))
      (pss_cons (ps_if (PW.pt (pw_or (pt_not (pt_val (pe_callB call_isi (by rfl) T.z_isinstance (by decide +kernel) (pa_cons (pv 1) (pa_cons (pe_ty "tuple" (by rfl) T.z_tuple (by decide +kernel)) pa_nil))))) (pw_or1 (pt_cmpR op_ne (pe_callB call_len_seq (by rfl) T.z_len PySem.boot_len (pa_cons (pv 1) pa_nil)) pe_int (nomark _)))))
        (pss_one (ps_ret (pe_tup (pa_cons pe_str pa_nil))))
        pss_nil)
      (pss_cons (ps_asg (pv 1) (pg_tup (by rfl) (pgs_cons (pg_name (i := 2) sc_model_wrong.nd rfl (.inl rfl)) (pgs_cons (pg_name (i := 3) sc_model_wrong.nd rfl (.inl rfl)) pgs_nil))))
      (pss_cons (ps_if (pt_not (pt_val (pe_cl c_is_size hr (by first | decide | omega) (by rfl) (pa_cons (pv 2) pa_nil))))
        (pss_one (ps_ret (pe_tup (pa_cons pe_str pa_nil))))
        pss_nil)
      (pss_cons (ps_if (PW.pt (pw_or (pt_not (pt_val (pe_callB call_isi (by rfl) T.z_isinstance (by decide +kernel) (pa_cons (pv 3) (pa_cons (pe_ty "tuple" (by rfl) T.z_tuple (by decide +kernel)) pa_nil))))) (pw_or1 (pt_cmpR op_ne (pe_callB call_len_seq (by rfl) T.z_len PySem.boot_len (pa_cons (pv 3) pa_nil)) (pe_callB call_len_seq (by rfl) T.z_len PySem.boot_len (pa_cons (pv 0) pa_nil)) (nomark _)))))
        (pss_one (ps_ret (pe_tup (pa_cons pe_str pa_nil))))
        pss_nil)
      (pss_cons (ps_for PassesOwn.never (by rfl) (pi_enumT (by rfl) T.z_enumerate (pa_cons (pv 0) pa_nil)) (pg_tup (by rfl) (pgs_cons (pg_name (i := 4) sc_model_wrong.nd rfl (.inl rfl)) (pgs_cons (pg_name (i := 5) sc_model_wrong.nd rfl (.inl rfl)) pgs_nil)))
        (pss_one (ps_if (PW.pt (pw_or (pt_not (pt_val (pe_callB call_isi (by rfl) T.z_isinstance (by decide +kernel) (pa_cons (pe_ix ix_tup (pv 3) (pv 4) (fun _ _ => rfl)) (pa_cons (pe_ty "tuple" (by rfl) T.z_tuple (by decide +kernel)) pa_nil))))) (pw_or1 (pt_cmpR op_ne (pe_callB call_len_seq (by rfl) T.z_len PySem.boot_len (pa_cons (pe_ix ix_tup (pv 3) (pv 4) (fun _ _ => rfl)) pa_nil)) (pe_cl c_power hr (by first | decide | omega) (by rfl) (pa_cons (pv 2) (pa_cons (pe_ix ix_tup (pv 5) pe_int (fun _ _ => rfl)) pa_nil))) (nomark _)))))
          (pss_one (ps_ret (pe_tup (pa_cons pe_str (pa_cons (pv 4) pa_nil)))))
          pss_nil)))
      (pss_cons (ps_set (i := 6) sc_model_wrong.nd rfl (.inl rfl) (pe_cl c_first_odd_cell_models hr (by first | decide | omega) (by rfl) (pa_cons (pv 2) (pa_cons (pv 3) pa_nil))))
      (pss_one (ps_ret (pe_ifExp (pt_cmpR op_isN (pv 6) pe_non (nomark _)) pe_non (pe_tup (pa_cons pe_str (pa_cons (pe_ix ix_tup (pv 6) pe_int (fun _ _ => rfl)) (pa_cons (pe_ix ix_tup (pv 6) pe_int (fun _ _ => rfl)) pa_nil)))))))))))))), ?_⟩
    obtain ⟨a, us, rfl, hS, hP⟩ := id hG
    obtain ⟨b, tv, rfl, hB, c, tvs, rfl, hC, hT⟩ := id hM
    have n1 := mok.n1
    have n6 := mok.n6
    have lS : us.length = sg.length := paired_len hP
    have lT : tvs.length = ts.length := paired_len hT
    have lM : ts.length = sg.length := mok.len
    refine q_drop (ev_callV (v := .non) sg (ea_cons (ev_var rfl) ea_nil) (fun H1 e1 => ⟨⟨_, rfl, hG.ex e1⟩, sok⟩) (fun _ _ p => p)) fun H1 e1 => ?_
    refine q_when (b := false) (et_is (et_or (et_not (et_val (ev_isi (ev_var rfl) ev_c (.ty _) (fun _ e => tyx_tup (ex_t (e1.trans e) hB)) kit_tt))) (fun _ => et_test (ev_op (ev_lenT (ev_var rfl) (ex_t e1 hB)) ev_c (rv_ne rfl)))) rfl) (fun hb => by cases hb) (fun _ H2 e2 => ?_)
    have e02 := e1.trans e2
    -- size, tables = thing
    refine ⟨.ref b, rfl, b, _, rfl, ex_t e02 hB, rfl, _, _, rfl, _, _, rfl, rfl, ?_⟩
    refine q_when (b := false) (et_is (et_not (et_val (ev_callV (v := .bl true) n (ea_cons (ev_var rfl) ea_nil) (fun _ _ => ⟨rfl, n1, n6⟩) (fun _ _ p => p)))) rfl) (fun hb => by cases hb) (fun _ H3 e3 => ?_)
    have e03 := e02.trans e3
    refine q_when (b := false) (et_is (et_or (et_not (et_val (ev_isi (ev_var rfl) ev_c (.ty _) (fun _ e => tyx_tup (ex_t (e03.trans e) hC)) kit_tt))) (fun _ => et_test (ev_op (ev_lenT (ev_var rfl) (ex_t e03 hC)) (ev_lenT (ev_var rfl) (ex_t e03 hS)) (rv_ne rfl)))) ?_) (fun hb => by cases hb) (fun _ H4 e4 => ?_)
    · show (!true || !decide (V.int (tvs.length : Int) = V.int (us.length : Int))) = false
      rw [lT, lS, lM, decide_eq_true rfl]
      rfl
    have e04 := e03.trans e4
    refine q_enumT (ea_cons (ev_var rfl) ea_nil) (ex_t e04 hS) (fun i σ H' => Ex H H' ∧ ∃ y4 y5, σ = [some (.ref a), some (.ref b), some (vi n), some (.ref c), y4, y5, none]) (fun H5 e5 => ⟨e04.trans e5, none, none, rfl⟩) (fun i σ H' _ ⟨e, _⟩ => ex_t e hS) (fun i x σ H5 H6 hx ⟨e, y4, y5, hσ⟩ e6 => ?_) (fun σ H5 ⟨e5, y4, y5, hσ⟩ => ?_)
    · subst hσ
      have hi : i < sg.length := by rw [← lS]; exact (List.getElem?_eq_some_iff.mp hx).1
      have hi2 : i < ts.length := by rw [lM]; exact hi
      obtain ⟨x', ex', d, hd, dd⟩ := paired_get hP (List.getElem?_eq_getElem hi)
      have : x' = x := Option.some.inj (ex'.symm.trans hx)
      subst this
      subst hd
      obtain ⟨y', ey', r, hr', rr⟩ := paired_get hT (List.getElem?_eq_getElem hi2)
      subst hr'
      have e06 : Ex H H6 := e.trans e6
      have tb := mok.tab i hi hi2
      have p2 : sg[i].2 ≤ 2 := sok.pl _ (List.getElem_mem hi)
      have tk : Ev (tOp (rIxT K) (tVar 3) (tVar 4)) [some (.ref a), some (.ref b), some (vi n), some (.ref c), some (vi i), some (.ref d), none] H6 (.ref r) := ev_op (ev_var rfl) (ev_var rfl) (rv_ixT (ex_t e06 hC) (atI_vi ey'))
      refine s_when (b := false) (et_is (et_or (et_not (et_val (ev_isi tk ev_c (.ty _) (fun _ e => tyx_tup (ex_t (e06.trans e) rr)) kit_tt))) (fun _ => et_test (ev_op (ev_lenT tk (ex_t e06 rr)) (ev_callV (v := vi (n ^ sg[i].2)) (n, sg[i].2) (ea_cons (ev_var rfl) (ea_cons (ev_op (ev_var rfl) ev_c (rv_ixT (ex_t e06 dd) (atI_vi (k := 1) rfl))) ea_nil)) (fun _ _ => ⟨rfl, n6, p2⟩) (fun _ _ p => p)) (rv_ne rfl)))) ?_) (fun hb => by cases hb) (fun _ H7 e7 => ⟨e06.trans e7, _, _, rfl⟩)
      show (!true || !decide (V.int (((ts[i].map vi).length : Nat) : Int) = vi (n ^ sg[i].2))) = false
      rw [List.length_map, tb.len, decide_eq_true rfl]
      rfl
    · subst hσ
      refine q_asg (ev_callV (v := .non) (n, ts) (ea_cons (ev_var rfl) (ea_cons (ev_var rfl) ea_nil)) (fun H6 e6 => ⟨⟨_, rfl, c, tvs, rfl, ex_t (e5.trans e6) hC, paired_imp (fun _ _ z => z.ex (e5.trans e6)) hT⟩, mok.low⟩) (fun _ _ p => p)) fun H6 e6 => ?_
      refine s_ret (ev_if (b := true) ?_ (fun _ => ev_c) (fun hb => by cases hb)) fun H7 e7 => q _ H7 ((e5.trans e6).trans e7) rfl
      exact fun H7 e7 Q q => ⟨_, rfl, rfl, _, rfl, q H7 (Ex.refl H7)⟩
def sp_need_model (K : PySem.W.Frag) : Sp := spX (fun (p : List (Str × Nat) × Nat × List (List Nat)) vs H => (∃ u v, vs = [u, v] ∧ Sig K H u p.1 ∧ Mdl K H v p.2.1 p.2.2) ∧ SigOk p.1 ∧ MdlOk p.1 p.2.1 p.2.2) (fun _ v _ => v = .non)
theorem c_need_model (T : Txt mg) (D : Df K mg "need_model" s_need_model ["signature", "model"]) (c_model_wrong : Cl P w K mg base 6 "model_wrong" (sp_model_wrong K)) : Cl P w K mg base 7 "need_model" (sp_need_model K) := by
  refine cl_of (k := 6) D sc_need_model (fun vs H Q E h => ?_) (fun f cdv A outer s H vs Q E hr h => ?_)
  · obtain ⟨p, ⟨⟨u, v, rfl, _⟩, _⟩, _⟩ := h
    rfl
  · obtain ⟨p, ⟨⟨u, v, rfl, hG, hM⟩, sok, mok⟩, q⟩ := h
    refine ⟨_, (pss_one (ps_if (pt_cmpR op_notN (pe_cl c_model_wrong hr (by first | decide | omega) (by rfl) (pa_cons (pv 0) (pa_cons (pv 1) pa_nil))) pe_non (nomark _))
        (pss_one ps_never)
        pss_nil)), ?_⟩
    exact s_when (b := false) (et_is (et_isN (ev_callV (v := .non) p (ea_cons (ev_var rfl) (ea_cons (ev_var rfl) ea_nil)) (fun H1 e1 => ⟨⟨_, _, rfl, hG.ex e1, hM.ex e1⟩, sok, mok⟩) (fun _ _ p => p))) rfl) (fun hb => by cases hb) (fun _ H1 e1 => q _ H1 e1 rfl)
end
end K72
end
section
namespace K72
open PySem PySem.Spec PyProof.Rows L2 Evl RZ Dw M20
theorem big1200 : Builtin.Int.intTooBig (((Builtin.Int.intBits (10 ^ 60) : Nat) : Int) * 20) = false := by decide +kernel
theorem pow1200 {X : Cx} : OpR X (binaryOp .Pow) (fun x y H Q => x = .int (10 ^ 60) ∧ y = .int 20 ∧ Q (.int ((10 ^ 60) ^ (20 : Int).toNat)) H) := op_powG (b := 10 ^ 60) (e := 20) (by decide) (by decide) big1200
/-! ### the purse -/
/-- a purse at p, its cells at c, t draws done -/
def Pur (H : Hp) (p c : Addr) (t : Nat) : Prop := H p = some (.lst [.ref c, vi t]) ∧ ∃ cs : List Int, cs ≠ [] ∧ cs.length ≤ 63 ∧ H c = some (.lst (cs.map V.int))
/-- all but these two as it was -/
def Off (H H' : Hp) (p c : Addr) : Prop := ∀ b o, b ≠ p → b ≠ c → H b = some o → H' b = some o
theorem Off.refl {H : Hp} {p c : Addr} : Off H H p c := fun _ _ _ _ h => h
theorem Off.trans {H H1 H2 : Hp} {p c : Addr} (a : Off H H1 p c) (b : Off H1 H2 p c) : Off H H2 p c := fun x o h1 h2 h => b x o h1 h2 (a x o h1 h2 h)
theorem Off.of_ex {H H' : Hp} {p c : Addr} (e : Ex H H') : Off H H' p c := fun b o _ _ h => e b o h
theorem Pur.ex {H H' : Hp} {p c : Addr} {t : Nat} (e : Ex H H') (h : Pur H p c t) : Pur H' p c t := ⟨e _ _ h.1, let ⟨cs, h1, h2, h3⟩ := h.2; ⟨cs, h1, h2, e _ _ h3⟩⟩
theorem Pur.ne {H : Hp} {p c : Addr} {t : Nat} (h : Pur H p c t) : p ≠ c := fun e => by
  obtain ⟨h1, cs, h2, _, h3⟩ := h
  rw [e, h3] at h1
  have h4 := HO.lst.inj (Option.some.inj h1)
  cases cs with
  | nil => exact h2 rfl
  | cons x r =>
    have h5 := (List.cons.inj h4).1
    cases h5
/-- a new address is neither -/
theorem Pur.fresh {H : Hp} {p c b : Addr} {t : Nat} (h : Pur H p c t) (n : H b = none) : b ≠ p ∧ b ≠ c := by
  constructor
  · intro e
    rw [e, h.1] at n
    cases n
  · intro e
    obtain ⟨_, cs, _, _, h3⟩ := h
    rw [e, h3] at n
    cases n
theorem Off.et {K : PySem.W.Frag} {H H' : Hp} {p c : Addr} {t : Nat} (o : Off H H' p c) (h : Pur H p c t) : ET K H H' := fun a xs q => by
  have no : ∀ u, H a = some u → (∀ ys, u ≠ .lst ys) → H' a = some u := fun u hu hl => o a u (fun e => by rw [e, h.1] at hu; exact hl _ (Option.some.inj hu).symm) (fun e => by
    obtain ⟨_, cs, _, _, h3⟩ := h
    rw [e, h3] at hu
    exact hl _ (Option.some.inj hu).symm) hu
  rcases q with (q | ⟨ob, q⟩) | q
  · exact .inl (.inl (no _ q fun _ z => by cases z))
  · exact .inl (.inr ⟨ob, no _ q fun _ z => by cases z⟩)
  · exact .inr q
section
variable {P : Program} {w : World} {K : PySem.W.Frag} {mg : Str → Option Value} {base : Heap}
def sp_purse (K : PySem.W.Frag) : Sp := fun vs H Q _ => ∃ (a : Addr) (ns : List Int), vs = [.ref a] ∧ SqL K H a (ns.map V.int) ∧ ns.length ≤ 63 ∧ ∀ p c H', Ex H H' → H p = none → H c = none → Pur H' p c 0 → Q (.ref p) H'
theorem ints_shaped (cs : List Int) : SeqAt.shaped (.list (cs.map PyData.int)) = true := by
  have h1 : ∀ l : List Int, PyData.canLayAll0 (l.map PyData.int) = true := by
    intro l
    induction l with
    | nil => rfl
    | cons x r ih => show (PyData.canLay0 (.int x) && PyData.canLayAll0 (r.map PyData.int)) = true; rw [ih]; rfl
  have h2 : ∀ l : List Int, PyData.depthAll (l.map PyData.int) = 0 := by
    intro l
    induction l with
    | nil => rfl
    | cons x r ih => show max (PyData.depth (.int x)) (PyData.depthAll (r.map PyData.int)) = 0; rw [ih]; rfl
  show (PyData.canLayAll0 (cs.map PyData.int) && decide (PyData.depthAll (cs.map PyData.int) + 1 ≤ 64)) = true
  rw [h1, h2]
  rfl
theorem dp_ints {H : Hp} {a : Addr} {cs : List Int} (h : SqL K H a (cs.map V.int)) : Dp K H (.ref a) (.list (cs.map PyData.int)) := by
  refine .lst h ?_
  have : ∀ l : List Int, DpAll K H (l.map V.int) (l.map PyData.int) := by
    intro l
    induction l with
    | nil => exact .nil
    | cons x r ih => exact .cons (.int x) ih
  exact this cs
theorem c_purse (T : Txt mg) (D : Df K mg "_law_purse" s_purse ["_law_script"]) : Cl P w K mg base 1 "_law_purse" (sp_purse K) := by
  refine cl_of (k := 0) D sc_purse (fun vs H Q E h => ?_) (fun f cdv A outer s H vs Q E hr h => ?_)
  · obtain ⟨a, ns, rfl, _⟩ := h
    rfl
  · obtain ⟨a, ns, rfl, hS, len, q⟩ := h
    refine ⟨_, (pss_cons (ps_set (i := 1) sc_purse.nd rfl (.inl rfl) (pe_slice sl_list (pv 0) po_none (po_some pe_int)))
      (pss_cons (ps_for PassesOwn.never (by rfl) (pi_range1 (by rfl) T.z_range (pa_cons (pe_callB call_len_seq (by rfl) T.z_len PySem.boot_len (pa_cons (pv 1) pa_nil)) pa_nil)) (pg_name (i := 2) sc_purse.nd rfl (.inl rfl))
        (pss_one (ps_if (pt_cmpR op_ge (pe_callB call_abs (by rfl) T.z_abs (by decide +kernel) (pa_cons (pe_ix ix_list (pv 1) (pv 2) (fun _ _ => rfl)) pa_nil)) (pe_op op_pow pe_int pe_int) (nomark _))
          (pss_one (ps_asg (pe_op op_mod (pe_ix ix_list (pv 1) (pv 2) (fun _ _ => rfl)) (pe_op pow1200 (pe_op op_pow pe_int pe_int) pe_int)) (pg_sub (pv 1) (pv 2) set_list)))
          pss_nil)))
      (pss_cons (ps_if (pt_cmpR (op_eqD hr.units) (pv 1) (pe_lst pa_nil) (nomark _))
        (pss_one (ps_set (i := 1) sc_purse.nd rfl (.inl rfl) (pe_lst (pa_cons pe_int pa_nil))))
        pss_nil)
      (pss_one (ps_ret (pe_lst (pa_cons (pv 1) (pa_cons pe_int pa_nil)))))))), ?_⟩
    have cut : cutV (ns.map V.int) none (some 63) = ns.map V.int := by
      unfold cutV
      rw [HT.sIx_none, show HT.sIx (ns.map V.int).length (ns.map V.int).length (some 63) = min 63 (ns.map V.int).length from HT.sIx_nat _ _ 63, Nat.sub_zero, List.drop_zero, List.length_map]
      exact List.take_of_length_le (by rw [List.length_map]; omega)
    have sl : EvL (tSl (rSlL K) (tVar 0) tNoPart (tPart (tC (.int 63)))) [some (.ref a), none, none] H (ns.map V.int) := by
      have := el_sl (σ := [some (.ref a), none, none]) (te := tVar 0) (ev_var rfl) eo_none (eo_some (i := 63) (te := tC (.int 63)) ev_c) hS
      rw [cut] at this
      exact this
    refine q_asgL sl fun c H1 nc e1 hc => ?_
    have l63 : ∀ cs : List Int, cs.length = ns.length → (cs.map V.int).length ≤ 63 := fun cs h => by rw [List.length_map, h]; exact len
    have lenE : EvA (tCons (tCB (rLenS K) (tCons (tVar 1) tNil)) tNil) [some (.ref a), some (.ref c), none] H1 [.int (ns.length : Int)] := by
      have := ev_len (K := K) (σ := [some (.ref a), some (.ref c), none]) (ta := tVar 1) (ev_var rfl) (sq_of hc)
      rw [List.length_map] at this
      exact ea_cons this ea_nil
    refine q_forR1 lenE (by omega) (fun i σ H' => Ex H H' ∧ (∃ cs : List Int, cs.length = ns.length ∧ H' c = some (.lst (cs.map V.int))) ∧ ∃ y, σ = [some (.ref a), some (.ref c), y]) (fun H2 e2 => ⟨e1.trans e2, ⟨ns, rfl, e2 _ _ hc⟩, _, rfl⟩) (fun i σ H2 hi ⟨e2, ⟨cs, lc, hcs⟩, y, hσ⟩ => ?_) (fun σ H2 ⟨e2, ⟨cs, lc, hcs⟩, y, hσ⟩ => ?_)
    · subst hσ
      have hi' : i < cs.length := by rw [lc]; omega
      have it : Ev (tOp (rIxL K) (tVar 1) (tVar 2)) [some (.ref a), some (.ref c), some (vi i)] H2 (.int cs[i]) := ev_op (ev_var rfl) (ev_var rfl) (rv_ixL (sq_of hcs) (atI_vi (by rw [List.getElem?_map, List.getElem?_eq_getElem hi']; rfl)))
      refine s_when (et_test (ev_op (ev_cb (z := .int (if cs[i] < 0 then -cs[i] else cs[i])) (ea_cons it ea_nil) (fun H3 _ Q q3 => ⟨_, rfl, q3 H3 (Ex.refl _)⟩)) (ev_op ev_c ev_c (rv_I ⟨by decide, by decide, by decide⟩)) rv_I0)) (fun _ H3 e3 => ?_) (fun _ H3 e3 => ⟨e2.trans e3, ⟨cs, lc, e3 _ _ hcs⟩, _, rfl⟩)
      refine s_setL (e3 _ _ hcs) (ev_op (it.mono e3) (ev_op (ev_op ev_c ev_c (rv_I ⟨by decide, by decide, by decide⟩)) ev_c (fun H4 _ Q q4 => ⟨rfl, rfl, q4 H4 (Ex.refl _)⟩)) (rv_I (by decide))) (ev_var rfl) (ev_var rfl) (by rw [List.length_map]; exact hi') (fun H4 e4 => ⟨((e2.trans e3).trans e4).mut nc, ⟨cs.set i (cs[i] % (10 ^ 60) ^ (20 : Int).toNat), by rw [List.length_set, lc], ?_⟩, _, rfl⟩)
      rw [upd_same, List.map_set]
    · subst hσ
      have dp := dp_ints (K := K) (sq_of hcs)
      have test : EvT (tTest (tOp (rEqD K) (tVar 1) (tLst tNil))) [some (.ref a), some (.ref c), y] H2 (PyData.eqv (.list (cs.map PyData.int)) (.list [])) := fun H3 e3 Q q3 => ⟨_, rfl, Nat.zero_le _, fun r nr => ⟨_, _, dp_ints (sq_of (by rw [upd_ne (ne_of_none (e3 _ _ hcs) nr)]; exact e3 _ _ hcs)), .lst (sq_of upd_same) .nil, ints_shaped cs, rfl, _, rfl, q3 _ (Ex.new nr)⟩⟩
      refine q_when test (fun hb H3 e3 => ?_) (fun hb H3 e3 => ?_)
      · refine s_asgL (el_lst (ea_cons ev_c ea_nil) (by decide)) fun d H4 nd e4 hd => ?_
        have e04 : Ex H H4 := (e2.trans e3).trans e4
        have nd0 : H d = none := fresh_back (e2.trans e3) nd
        refine s_retL (el_lst (ea_cons (ev_var rfl) (ea_cons ev_c ea_nil)) (by show 2 ≤ 100000; decide)) fun p H5 np e5 hp => q p d H5 (e04.trans e5) (fresh_back e04 np) nd0 ⟨hp, [0], by simp, by decide, e5 _ _ hd⟩
      · have ne : cs ≠ [] := fun z => by
          subst z
          exact absurd hb (by decide)
        have e03 : Ex H H3 := e2.trans e3
        have l63' : cs.length ≤ 63 := by rw [lc]; exact len
        refine s_retL (el_lst (ea_cons (ev_var rfl) (ea_cons ev_c ea_nil)) (by show 2 ≤ 100000; decide)) fun p H5 np e5 hp => q p c H5 (e03.trans e5) (fresh_back e03 np) nc ⟨hp, cs, ne, l63', e5 _ _ (e3 _ _ hcs)⟩
end
end K72
end
section
namespace K72
open PySem PySem.Spec PyProof.Rows L2 Evl RZ Dw M20
section
variable {P : Program} {w : World} {K : PySem.W.Frag} {mg : Str → Option Value} {base : Heap}
/-- a draw: a number below n, one more done -/
def sp_draw : Sp := fun vs H Q _ => ∃ (p c : Addr) (t n : Nat), vs = [.ref p, vi n] ∧ Pur H p c t ∧ t ≤ 100000 ∧ 1 ≤ n ∧ n ≤ 1000 ∧ ∀ k H', k < n → Off H H' p c → Pur H' p c (t + 1) → Q (vi k) H'
theorem vi_mod {x : Int} {n : Nat} (h : 1 ≤ n) : ∃ k, k < n ∧ V.int (x % (n : Int)) = vi k := by
  have h1 : 0 ≤ x % (n : Int) := Int.emod_nonneg _ (by omega)
  have h2 : x % (n : Int) < n := Int.emod_lt_of_pos _ (by omega)
  exact ⟨(x % (n : Int)).toNat, by omega, by show V.int _ = V.int _; rw [Int.toNat_of_nonneg h1]⟩
theorem c_draw (T : Txt mg) (D : Df K mg "_law_draw" s_draw ["_law_purse_here", "_law_out_of"]) : Cl P w K mg base 1 "_law_draw" sp_draw := by
  refine cl_of (k := 0) D sc_draw (fun vs H Q E h => ?_) (fun f cdv A outer s H vs Q E hr h => ?_)
  · obtain ⟨p, c, t, n, rfl, _⟩ := h
    rfl
  · obtain ⟨p, c, t, n, rfl, pu, t1, n1, n2, q⟩ := h
    refine ⟨_, (pss_cons (ps_asg (pv 0) (pg_unl (by rfl) (pgs_cons (pg_name (i := 2) sc_draw.nd rfl (.inl rfl)) (pgs_cons (pg_name (i := 3) sc_draw.nd rfl (.inl rfl)) pgs_nil))))
      (pss_cons (ps_set (i := 4) sc_draw.nd rfl (.inl rfl) (pe_op op_mod (pv 3) (pe_callB call_len_seq (by rfl) T.z_len PySem.boot_len (pa_cons (pv 2) pa_nil))))
      (pss_cons (ps_set (i := 5) sc_draw.nd rfl (.inl rfl) (pe_ix ix_list (pv 2) (pv 4) (fun _ _ => rfl)))
      (pss_cons (ps_asg (pe_op op_add (pv 3) pe_int) (pg_sub (pv 0) pe_int set_list))
      (pss_cons (ps_if (pt_cmpR op_ge (pv 5) (pe_op op_pow pe_int pe_int) (nomark _))
        (pss_cons (ps_asg (pe_op op_fdiv (pv 5) (pv 1)) (pg_sub (pv 2) (pv 4) set_list))
        (pss_one (ps_ret (pe_op op_mod (pv 5) (pv 1)))))
        pss_nil)
      (pss_cons (ps_set (i := 6) sc_draw.nd rfl (.inl rfl) (pe_op op_mod (pe_op op_add (pe_op op_add (pe_op op_mul (pe_op op_mod (pv 5) pe_int) pe_int) (pe_op op_mul (pe_op op_mul (pv 3) (pv 3)) pe_int)) pe_int) pe_int))
      (pss_cons (ps_set (i := 6) sc_draw.nd rfl (.inl rfl) (pe_op op_mod (pe_op op_mul (pv 6) (pv 6)) pe_int))
      (pss_cons (ps_set (i := 6) sc_draw.nd rfl (.inl rfl) (pe_op op_mod (pe_op op_mul (pv 6) (pv 6)) pe_int))
      (pss_one (ps_ret (pe_op op_mod (pv 6) (pv 1)))))))))))), ?_⟩
    have ne := pu.ne
    obtain ⟨hp, cs, cne, c63, hc⟩ := id pu
    -- cells, turn = purse
    refine ⟨.ref p, rfl, p, _, rfl, sq_of hp, rfl, _, _, rfl, _, _, rfl, rfl, ?_⟩
    have cl : 0 < cs.length := List.length_pos_iff.mpr cne
    have lenE : Ev (tCB (rLenS K) (tCons (tVar 2) tNil)) [some (.ref p), some (vi n), some (.ref c), some (vi t), none, none, none] H (.int (cs.length : Int)) := by
      have := ev_len (K := K) (σ := [some (.ref p), some (vi n), some (.ref c), some (vi t), none, none, none]) (ta := tVar 2) (ev_var rfl) (sq_of hc)
      rw [List.length_map] at this
      exact this
    refine q_asg (v := vi (t % cs.length)) (ev_is (ev_op (ev_var rfl) lenE (rv_I (by show (0 : Int) < (cs.length : Int); omega))) (by show V.int ((t : Int) % (cs.length : Int)) = V.int ((t % cs.length : Nat) : Int); rw [Int.natCast_emod])) fun H1 e1 => ?_
    have ai : t % cs.length < cs.length := Nat.mod_lt _ cl
    refine q_asg (v := .int cs[t % cs.length]) (ev_op (ev_var rfl) (ev_var rfl) (rv_ixL (ex_l e1 (sq_of hc)) (atI_vi (by rw [List.getElem?_map, List.getElem?_eq_getElem ai]; rfl)))) fun H2 e2 => ?_
    have e02 := e1.trans e2
    -- purse[1] = turn + 1
    refine q_setL (j := 1) (e02 _ _ hp) (ev_op (ev_var rfl) ev_c rv_I0) (ev_var rfl) ev_c (by show 1 < 2; decide) fun H3 e3 => ?_
    have e03 := e02.trans e3
    have hp4 : (upd H3 p (.lst [.ref c, vi (t + 1)])) p = some (.lst [.ref c, vi (t + 1)]) := upd_same
    have hc4 : (upd H3 p (.lst [.ref c, vi (t + 1)])) c = some (.lst (cs.map V.int)) := by rw [upd_ne (Ne.symm ne)]; exact e03 _ _ hc
    have off4 : Off H (upd H3 p (.lst [.ref c, vi (t + 1)])) p c := fun b o b1 b2 hb => by rw [upd_ne b1]; exact e03 _ _ hb
    have st : (upd H3 p (.lst (List.set [V.ref c, vi t] 1 (V.int ((t : Int) + 1))))) = upd H3 p (.lst [.ref c, vi (t + 1)]) := by
      show upd H3 p (.lst [.ref c, .int ((t : Int) + 1)]) = upd H3 p (.lst [.ref c, .int ((t + 1 : Nat) : Int)])
      rw [Int.natCast_add]
      rfl
    rw [st]
    generalize upd H3 p (.lst [.ref c, vi (t + 1)]) = H4 at hp4 hc4 off4
    have pu4 : Pur H4 p c (t + 1) := ⟨hp4, cs, cne, c63, hc4⟩
    refine q_when (et_test (ev_op (ev_var rfl) (ev_op ev_c ev_c (rv_I ⟨by decide, by decide, by decide⟩)) rv_I0)) (fun _ H5 e5 => ?_) (fun _ H5 e5 => ?_)
    · refine q_setL (e5 _ _ hc4) (ev_op (ev_var rfl) (ev_var rfl) (rv_I ⟨by omega, by omega⟩)) (ev_var rfl) (ev_var rfl) (by rw [List.length_map]; exact ai) fun H6 e6 => ?_
      obtain ⟨k, hk, ek⟩ := vi_mod (x := cs[t % cs.length]) n1
      refine s_ret (v := vi k) (ev_is (ev_op (ev_var rfl) (ev_var rfl) (rv_I (by show (0 : Int) < (n : Int); omega))) ek) fun H7 e7 => q k H7 hk (fun b o b1 b2 hb => e7 _ _ (by rw [upd_ne b2]; exact e6 _ _ (e5 _ _ (off4 b o b1 b2 hb)))) ⟨e7 _ _ (by rw [upd_ne ne]; exact e6 _ _ (e5 _ _ hp4)), cs.set (t % cs.length) (cs[t % cs.length] / (n : Int)), ?_, ?_, ?_⟩
      · intro z
        have := congrArg List.length z
        rw [List.length_set] at this
        have z0 : cs.length = 0 := this
        omega
      · rw [List.length_set]; exact c63
      · refine e7 _ _ ?_
        rw [upd_same, List.map_set]
    · refine q_asg (ev_op (ev_op (ev_op (ev_op (ev_op (ev_var rfl) ev_c (rv_I (by decide))) ev_c (rv_I (.inr ⟨by decide, by decide⟩))) (ev_op (ev_op (ev_var rfl) (ev_var rfl) (rv_I (.inl ⟨by omega, by omega⟩))) ev_c (rv_I (.inr ⟨by decide, by decide⟩))) rv_I0) ev_c rv_I0) ev_c (rv_I (by decide))) fun H6 e6 => ?_
      have small : ∀ x m : Int, 0 < m → m < 2 ^ 40 → CMul (x % m) (x % m) := fun x m h1 h2 => .inl ⟨by have := Int.emod_nonneg x (show m ≠ 0 by omega); omega, by have := Int.emod_lt_of_pos x h1; omega⟩
      refine q_asg (ev_op (ev_op (ev_var rfl) (ev_var rfl) (rv_I (small _ _ (by decide) (by decide)))) ev_c (rv_I (by decide))) fun H7 e7 => ?_
      refine q_asg (ev_op (ev_op (ev_var rfl) (ev_var rfl) (rv_I (small _ _ (by decide) (by decide)))) ev_c (rv_I (by decide))) fun H8 e8 => ?_
      · have e49 := ((e5.trans e6).trans e7).trans e8
        have fin : ∀ x : Int, tRet (tOp (rI (fun _ j => 0 < j) fun i j => .int (i % j)) (tVar 6) (tVar 1)) { nx := fun _ H' => Q .non H', rt := Q } [some (.ref p), some (vi n), some (.ref c), some (vi t), some (vi (t % cs.length)), some (.int cs[t % cs.length]), some (.int x)] H8 := fun x => by
          obtain ⟨k, hk, ek⟩ := vi_mod (x := x) n1
          exact s_ret (v := vi k) (ev_is (ev_op (ev_var rfl) (ev_var rfl) (rv_I (by show (0 : Int) < (n : Int); omega))) ek) fun Ha ea => q k Ha hk (fun b o b1 b2 hb => (e49.trans ea) _ _ (off4 b o b1 b2 hb)) (pu4.ex (e49.trans ea))
        exact fin _
/-- _law_draw(purse, e), e worth n -/
theorem do_draw {σ : L2.St} {H : Hp} {ta tb : TE} {p c : Addr} {t n : Nat} {E : XK} {Q : VK} (hp : Ev ta σ H (.ref p)) (hn : Ev tb σ H (vi n)) (pu : Pur H p c t) (t1 : t ≤ 100000) (n1 : 1 ≤ n) (n2 : n ≤ 1000) (q : ∀ k H', k < n → Off H H' p c → Pur H' p c (t + 1) → Q (vi k) H') :
    tCall sp_draw [] E (tCons ta (tCons tb tNil)) σ H Q :=
  ea_cons hp (ea_cons hn ea_nil) H (Ex.refl H) _ fun H1 e1 => ⟨p, c, t, n, rfl, pu.ex e1, t1, n1, n2, fun k H' hk o p' => q k H' hk ((Off.of_ex e1).trans o) p'⟩
end
end K72
end
section
namespace K72
open PySem PySem.Spec PyProof.Rows L2 Evl RZ Dw M20
theorem Off.sql {K : PySem.W.Frag} {H H' : Hp} {p c l : Addr} {xs : List V} (o : Off H H' p c) (h1 : l ≠ p) (h2 : l ≠ c) (h : SqL K H l xs) : SqL K H' l xs := by
  rcases h with (h | ⟨ob, h⟩) | h
  · exact .inl (.inl (o _ _ h1 h2 h))
  · exact .inl (.inr ⟨ob, o _ _ h1 h2 h⟩)
  · exact .inr h
theorem Off.upd {H H' : Hp} {p c l : Addr} {o : HO} (f : Off H H' p c) (n : H l = none) : Off H (upd H' l o) p c := fun b u b1 b2 h => by
  rw [upd_ne (ne_of_none h n)]
  exact f b u b1 b2 h
theorem Off.back {H H' : Hp} {p c l : Addr} (f : Off H H' p c) (h1 : l ≠ p) (h2 : l ≠ c) (n : H' l = none) : H l = none := by
  cases e : H l with
  | none => rfl
  | some o =>
    rw [f l o h1 h2 e] at n
    cases n
theorem Pur.upd {H : Hp} {p c l : Addr} {t : Nat} {o : HO} (h : Pur H p c t) (h1 : l ≠ p) (h2 : l ≠ c) : Pur (upd H l o) p c t := ⟨by rw [upd_ne (Ne.symm h1)]; exact h.1, let ⟨cs, a, b, d⟩ := h.2; ⟨cs, a, b, by rw [upd_ne (Ne.symm h2)]; exact d⟩⟩
section
variable {P : Program} {w : World} {K : PySem.W.Frag} {mg : Str → Option Value} {base : Heap}
section
variable {σ : L2.St} {H : Hp} {D : Ends} {tu tz : TS}
end
/-! ### a list mixed -/

end
/-- a comprehension whose element may do anything, by what holds between its turns -/
theorem do_lcIt {J : It} {n : Nat} {G : Hp → Prop} {Y : Nat → Hp → V → Hp → Prop} {wi : TI} {g : TG} {te : TE} {σ : L2.St} {H : Hp} {vs : List Nat} {Q : VK} (w : Walk J n G Y) (hw0 : ∀ R : It → Hp → Prop, (∀ H1, Ex H H1 → R J H1) → wi σ H R) (Pv : Addr → Nat → Hp → Prop)
    (h0 : ∀ D H1, Ex H H1 → H1 D = none → Pv D 0 (upd H1 D (.lst []))) (hG : ∀ D i H', i ≤ n → Pv D i H' → G H')
    (hs : ∀ D i x H' H'', i < n → Pv D i H' → Y i H' x H'' → g x (wipe σ vs) H'' fun σ2 H2 => wipe σ2 vs = wipe σ vs ∧ if true = true then te σ2 H2 fun y H4 => ∃ acc, H4 D = some (.lst acc) ∧ acc.length < sizeLine ∧ Pv D (i + 1) (upd H4 D (.lst (acc ++ [y]))) else Pv D (i + 1) H2)
    (hd : ∀ D H', Pv D n H' → Q (.ref D) H') : tLc wi g tYes te vs σ H Q :=
  hw0 _ fun H1 e1 Dl nD => lc_it w (Pv Dl) (h0 Dl H1 e1 nD) (hG Dl) (fun i x H2 H3 hi p y => hs Dl i x H2 H3 hi p y) (fun H2 p => hd Dl H2 p)
theorem do_name {i : Nat} {v : V} {σ : L2.St} {H : Hp} {Q : L2.St → Hp → Prop} (h : Q (σ.set i (some v)) H) : gName i v σ H Q := h
theorem do_set {i : Nat} {te : TE} {tz : TS} {D : Ends} {σ : L2.St} {H : Hp} (h : te σ H fun x H1 => tz D (σ.set i (some x)) H1) : tSeq (tAsg te (gName i)) tz D σ H := h
/-- something put behind a list -/
theorem do_app {K : PySem.W.Frag} {ta te : TE} {l : Addr} {xs : List V} {D : Ends} {σ : L2.St} {H : Hp} (hl : H l = some (.lst xs)) (ha : Ev ta σ H (.ref l))
    (h : ∀ H1, Ex H H1 → te σ H1 fun v H2 => ∃ a ys y, V.ref l = .ref a ∧ [v] = [y] ∧ H2 a = some (.lst ys) ∧ ys.length < sizeLine ∧ D.nx σ (upd H2 a (.lst (ys ++ [y])))) : tDrop (tBM K "list" rAppend ta (tCons te tNil)) D σ H :=
  ha H (Ex.refl H) _ fun H1 e1 => ⟨Or.inl ⟨rfl, xs, sq_of (e1 l _ hl)⟩, h H1 e1⟩
end K72
end
section
namespace K72
open PySem PySem.Spec PyProof.Rows L2 Evl RZ Dw M20 M25
section
variable {P : Program} {w : World} {K : PySem.W.Frag} {mg : Str → Option Value} {base : Heap}
/-! ### rows of numbers -/
/-- a list of rows -/
def RowsL (K : PySem.W.Frag) (H : Hp) (v : V) (rs : List (List Nat)) : Prop := ∃ a vs, v = .ref a ∧ H a = some (.lst vs) ∧ Paired (Nats K H) vs rs
theorem RowsL.ex {H H' : Hp} {v : V} {rs : List (List Nat)} (e : Ex H H') (h : RowsL K H v rs) : RowsL K H' v rs := let ⟨a, vs, q, s, p⟩ := h; ⟨a, vs, q, e _ _ s, paired_imp (fun _ _ z => z.ex e) p⟩
theorem pairs_rows (L : List (List Nat)) (m : Nat) : ((List.range L.length).flatMap fun i => (List.range m).map fun k => (i, k)).map (fun p => L.getD p.1 [] ++ [p.2]) = L.flatMap fun r => (List.range m).map fun k => r ++ [k] := by
  rw [List.map_flatMap]
  have e : (List.range L.length).map (fun i => L.getD i []) = L := by
    apply List.ext_getElem?
    intro i
    by_cases h : i < L.length
    · rw [List.getElem?_map, List.getElem?_range h]
      show some (L.getD i []) = _
      rw [List.getD_eq_getElem?_getD, List.getElem?_eq_getElem h]
      rfl
    · rw [List.getElem?_eq_none_iff.mpr (by simp; omega), List.getElem?_eq_none_iff.mpr (by omega)]
  conv => rhs; rw [← e, List.flatMap_map]
  congr 1
  funext i
  rw [List.map_map]
  rfl
theorem rows_length (n : Nat) : ∀ p, (rows n p).length = n ^ p
  | 0 => rfl
  | p + 1 => by
    show ((rows n p).flatMap _).length = _
    rw [List.length_flatMap, Nat.pow_succ]
    have : (rows n p).map (fun r => ((List.range n).map fun k => r ++ [k]).length) = List.replicate (rows n p).length n := by
      rw [List.eq_replicate_iff]
      refine ⟨by rw [List.length_map], fun b hb => ?_⟩
      obtain ⟨r, _, rfl⟩ := List.mem_map.mp hb
      simp
    rw [this, List.sum_replicate_nat, rows_length n p]
theorem stb_nats {β : Type} (f : β → List Nat) : StbB (fun v b H => Nats K H v (f b)) := fun _ _ _ _ e h => h.et e.et
def sp_rows_below (K : PySem.W.Frag) : Sp := spF (fun (p : Nat × Nat) vs _ => vs = [vi p.1, vi p.2] ∧ p.1 ≤ 6 ∧ p.2 ≤ 2) (fun p v H => RowsL K H v (rows p.1 p.2))
theorem c_rows_below (T : Txt mg) (D : Df K mg "rows_below" s_rows_below ["size", "many"]) : Cl P w K mg base 1 "rows_below" (sp_rows_below K) := by
  refine cl_of (k := 0) D sc_rows_below (fun vs H Q E h => ?_) (fun f cdv A outer s H vs Q E hr h => ?_)
  · obtain ⟨p, ⟨rfl, _⟩, _⟩ := h
    rfl
  · obtain ⟨⟨n, m⟩, ⟨rfl, hn, hm⟩, q⟩ := h
    refine ⟨_, (pss_cons (ps_set (i := 2) sc_rows_below.nd rfl (.inl rfl) (pe_lst (pa_cons (pe_tup pa_nil) pa_nil)))
      (pss_cons (ps_for PassesOwn.never (by rfl) (pi_range1 (by rfl) T.z_range (pa_cons (pv 1) pa_nil)) (pg_name (i := 3) sc_rows_below.nd rfl (.inl rfl))
        (pss_one (ps_setLc2 (i := 2) (own := [("row", 4), ("number", 5)]) (g := (gName 4)) (g1 := (gName 5)) (vs1 := [5]) (by rfl) sc_rows_below.nd rfl rfl (sw_true rfl rfl rfl (by decide +kernel)) (pi_list (pv 2)) (blkOk_by (own := [("row", 4), ("number", 5)]) (N := ["size", "many", "rows", "step", "row", "number"]) (sc := (defScope s_rows_below)) (by decide +kernel)) (by decide) (fun _ _ _ _ _ => (pg_name (i := 4) sc_rows_below.nd rfl (.inl rfl))) (fun _ _ _ _ _ => pts_nil) (fun _ _ _ _ _ => (pi_range1 (by rfl) T.z_range (pa_cons (pv 0) pa_nil))) (fun _ _ _ _ _ => (pg_name (i := 5) sc_rows_below.nd rfl (.inl rfl))) (fun _ _ _ _ _ => pts_nil) (fun _ _ _ _ _ => (pe_op (op_catAK K) (pv 4) (pe_tup (pa_cons (pv 5) pa_nil)))))))
      (pss_one (ps_ret (pv 2))))), ?_⟩
    replace hn : n ≤ 6 := hn
    replace hm : m ≤ 2 := hm
    refine do_set (do_lst (do_cons (do_tup (do_nil ⟨Nat.zero_le _, fun r nr => do_nil ⟨by show 1 ≤ sizeLine; decide, fun f0 nf0 => ?_⟩⟩))))
    have e1 : Ex H (upd (upd H r (.tup [])) f0 (.lst [.ref r])) := (Ex.new nr).trans (Ex.new nf0)
    have nfH : H f0 = none := fresh_back (Ex.new nr) nf0
    have hf0 : (upd (upd H r (.tup [])) f0 (.lst [.ref r])) f0 = some (.lst [.ref r]) := upd_same
    have hr0 : (upd (upd H r (.tup [])) f0 (.lst [.ref r])) r = some (.tup []) := Ex.new nf0 _ _ upd_same
    generalize upd (upd H r (.tup [])) f0 (.lst [.ref r]) = H1 at *
    refine q_forR1 (n := (m : Int)) (ea_cons (ev_var rfl) ea_nil) ⟨by omega, by omega⟩ (fun i σ H' => Ex H H' ∧ ∃ (v : V) (y3 : Option V), RowsL K H' v (rows n i) ∧ (∀ d, v = .ref d → H d = none) ∧ σ = [some (vi n), some (vi m), some v, y3, none, none])
      (fun H2 e2 => ⟨e1.trans e2, .ref f0, none, ⟨f0, [.ref r], rfl, e2 _ _ hf0, .cons ⟨r, rfl, st_of (e2 _ _ hr0)⟩ .nil⟩, (fun d z => V.ref.inj z ▸ nfH), rfl⟩) (fun i σ H2 hi ⟨e2, v, y3, hv, hnv, hσ⟩ => ?_) (fun σ H2 ⟨e2, v, y3, hv, hnv, hσ⟩ => ?_)
    · subst hσ
      obtain ⟨a, us, rfl, ha, pus⟩ := hv
      have li : us.length = n ^ i := by rw [paired_len pus, rows_length]
      have lu : us.length ≤ 10000 := by
        rw [li]
        have i1 : i ≤ 1 := by omega
        have : n ^ i ≤ n ^ 1 ∨ i = 0 := by
          rcases Nat.eq_zero_or_pos i with z | z
          · exact .inr z
          · have : i = 1 := by omega
            rw [this]; exact .inl (Nat.le_refl _)
        rcases this with z | z
        · rw [Nat.pow_one] at z; omega
        · rw [z, Nat.pow_zero]; omega
      refine s_asgLP (elp_lc2 (K := K) (ev_var rfl) (sq_of ha) (fun x H3 e3 => ea_cons (ev_var rfl) ea_nil) lu (by omega) (fun v p H' => Nats K H' v ((rows n i).getD p.1 [] ++ [p.2])) (stb_nats (K := K) _) (fun _ => rfl) (fun _ _ => rfl) (fun j x k H3 e3 hx hk => ?_)) fun p ws H3 np e3 hp hw => ⟨e2.trans e3, .ref p, _, ⟨p, ws, rfl, hp, ?_⟩, (fun d z => V.ref.inj z ▸ fresh_back e2 np), rfl⟩
      · obtain ⟨row, hrow, xa, rfl, hxa⟩ := paired_at pus hx
        have er : (rows n i).getD j [] = row := by rw [List.getD_eq_getElem?_getD, hrow]; rfl
        have lr : row.length = i := (rows_of (List.mem_iff_getElem?.mpr ⟨j, hrow⟩)).1
        rw [er]
        refine tv_nats (tv_is (tv_cat (tv_ev (ev_var rfl) (ex_t e3 hxa)) (tv_tup (ea_cons (ev_var rfl) ea_nil) (by show 1 ≤ 100000; decide)) ?_) ?_)
        · rw [List.length_map, lr]
          show i + 1 ≤ 100000
          omega
        · rw [List.map_append]
          rfl
      · rw [paired_len pus] at hw
        have := paired_map (S := Nats K H3) (f := fun p : Nat × Nat => (rows n i).getD p.1 [] ++ [p.2]) (fun _ _ z => z) hw
        rw [pairs_rows] at this
        exact this
    · subst hσ
      rw [Int.toNat_natCast] at hv
      exact s_ret (ev_var rfl) fun H3 e3 => q _ H3 (e2.trans e3) (hv.ex e3) hnv
end
end K72
end
section
namespace K72
open PySem PySem.Spec PyProof.Rows L2 Evl RZ Dw M20 M25 CL
section
variable {σ : L2.St} {H : Hp} {ta tb te : TE}
theorem ev_mulN {a b : Nat} (ha : Ev ta σ H (vi a)) (hb : Ev tb σ H (vi b)) (la : a ≤ 1000) (lb : b ≤ 1000) : Ev (tOp (rI CMul fun i j => .int (i * j)) ta tb) σ H (vi (a * b)) := ev_is (ev_op ha hb (rv_I (.inl ⟨by omega, by omega⟩))) (by show V.int ((a : Int) * (b : Int)) = V.int ((a * b : Nat) : Int); rw [Int.natCast_mul])
theorem ev_addN {a b : Nat} (ha : Ev ta σ H (vi a)) (hb : Ev tb σ H (vi b)) : Ev (tOp (rI0 fun i j => .int (i + j)) ta tb) σ H (vi (a + b)) := ev_is (ev_op ha hb rv_I0) (by show V.int ((a : Int) + (b : Int)) = V.int ((a + b : Nat) : Int); rw [Int.natCast_add])
end
section
variable {P : Program} {w : World} {K : PySem.W.Frag} {mg : Str → Option Value} {base : Heap}
def sp_place_of_row (K : PySem.W.Frag) : Sp := spX (fun (p : Nat × List Nat) vs H => (∃ l, vs = [vi p.1, .ref l] ∧ H l = some (.lst (p.2.map vi))) ∧ p.1 ≤ 6 ∧ p.2.length ≤ 2 ∧ ∀ k ∈ p.2, k < p.1) (fun p v _ => v = vi (plc p.1 p.2))
theorem c_place_of_row (T : Txt mg) (D : Df K mg "place_of_row" s_place_of_row ["size", "row"]) : Cl P w K mg base 1 "place_of_row" (sp_place_of_row K) := by
  refine cl_of (k := 0) D sc_place_of_row (fun vs H Q E h => ?_) (fun f cdv A outer s H vs Q E hr h => ?_)
  · obtain ⟨p, ⟨⟨l, rfl, _⟩, _⟩, _⟩ := h
    rfl
  · obtain ⟨⟨n, ns⟩, ⟨⟨l, rfl, hl⟩, n6, l2, low⟩, q⟩ := h
    refine ⟨_, (pss_cons (ps_set (i := 2) sc_place_of_row.nd rfl (.inl rfl) pe_int)
      (pss_cons (ps_for PassesOwn.never (by rfl) (pi_list (pv 1)) (pg_name (i := 3) sc_place_of_row.nd rfl (.inl rfl))
        (pss_one (ps_set (i := 2) sc_place_of_row.nd rfl (.inl rfl) (pe_op op_add (pe_op op_mul (pv 2) (pv 0)) (pv 3)))))
      (pss_one (ps_ret (pv 2))))), ?_⟩
    replace hl : H l = some (.lst (ns.map vi)) := hl
    replace n6 : n ≤ 6 := n6
    replace l2 : ns.length ≤ 2 := l2
    replace low : ∀ k ∈ ns, k < n := low
    refine q_asg (v := vi 0) ev_c fun H1 e1 => ?_
    refine q_forL (K := K) (ev_var rfl) (sq_of (e1 _ _ hl)) (fun i σ H' => Ex H H' ∧ ∃ y : Option V, σ = [some (vi n), some (.ref l), some (vi (plc n (ns.take i))), y]) (fun H2 e2 => ⟨e1.trans e2, none, rfl⟩) (fun i σ H' _ ⟨e, _⟩ => sq_of (e _ _ hl)) (fun i x σ H2 hx hP => ?_) (fun σ H2 hP => ?_)
    · obtain ⟨e2, y, hσ⟩ := hP
      subst hσ
      rw [List.getElem?_map] at hx
      cases hk : ns[i]? with
      | none =>
        rw [hk] at hx
        cases hx
      | some k =>
        rw [hk] at hx
        cases Option.some.inj hx
        have small : plc n (ns.take i) ≤ 1000 := by
          have a := plc_low (n := n) (ns := ns.take i) (fun k h => low k (List.mem_of_mem_take h)) (by rw [List.length_take]; omega)
          have b : n ^ (ns.take i).length ≤ 6 ^ (ns.take i).length := Nat.pow_le_pow_left n6 _
          have c : 6 ^ (ns.take i).length ≤ 6 ^ 2 := Nat.pow_le_pow_right (by decide) (by rw [List.length_take]; omega)
          omega
        refine s_asg (v := vi (plc n (ns.take (i + 1)))) (ev_is (ev_addN (ev_mulN (ev_var rfl) (ev_var rfl) small (by omega)) (ev_var rfl)) (by rw [plc_take hk])) fun H3 e3 => ?_
        exact ⟨e2.trans e3, _, rfl⟩
    · obtain ⟨e2, y, hσ⟩ := hP
      subst hσ
      rw [List.length_map, List.take_length]
      exact s_ret (ev_var rfl) fun H3 e3 => q _ H3 (e2.trans e3) rfl
def sp_is_row (K : PySem.W.Frag) : Sp := spX (fun (p : Nat × List Nat) vs H => (∃ v, vs = [v, vi p.2.length, vi p.1] ∧ Nats K H v p.2) ∧ (∀ k ∈ p.2, k < p.1) ∧ p.2.length ≤ 1000) (fun _ v _ => v = .bl true)
theorem c_is_row (T : Txt mg) (D : Df K mg "is_row" s_is_row ["thing", "many", "size"]) (c_is_below : Cl P w K mg base 2 "is_below" sp_is_below) : Cl P w K mg base 3 "is_row" (sp_is_row K) := by
  refine cl_of (k := 2) D sc_is_row (fun vs H Q E h => ?_) (fun f cdv A outer s H vs Q E hr h => ?_)
  · obtain ⟨p, ⟨⟨v, rfl, _⟩, _⟩, _⟩ := h
    rfl
  · obtain ⟨⟨n, ns⟩, ⟨⟨v, rfl, a, rfl, ha⟩, low, few⟩, q⟩ := h
    refine ⟨_, (pss_one (ps_ret (pe_and (pe_callB call_isi (by rfl) T.z_isinstance (by decide +kernel) (pa_cons (pv 0) (pa_cons (pe_ty "tuple" (by rfl) T.z_tuple (by decide +kernel)) pa_nil))) (pe_and (pe_cmpR op_eq (pe_callB call_len_seq (by rfl) T.z_len PySem.boot_len (pa_cons (pv 0) pa_nil)) (pv 1) (nomark _)) (pe_one (pe_callB (cr_all rfl) (by rfl) T.z_all (by decide +kernel) (pa_cons (pe_lc (own := [("number", 3)]) (g := (gName 3)) (by rfl) sc_is_row.nd (pi_tup (pv 0)) (blkOk_by (own := [("number", 3)]) (N := ["thing", "many", "size", "number"]) (sc := (defScope s_is_row)) (by decide +kernel)) (fun _ _ _ _ _ => (pg_name (i := 3) sc_is_row.nd rfl (.inl rfl))) (fun _ _ _ _ _ => pts_nil) (fun _ _ _ _ _ => (pe_cl c_is_below hr (by first | decide | omega) (by rfl) (pa_cons (pv 3) (pa_cons (pv 2) pa_nil))))) pa_nil))))))), ?_⟩
    replace ha : SqT K H a (ns.map vi) := ha
    replace low : ∀ k ∈ ns, k < n := low
    replace few : ns.length ≤ 1000 := few
    refine s_ret (v := .bl true) (ev_is (ev_andV (a := true) (ev_isi (ev_var rfl) ev_c (.ty _) (fun _ e => tyx_tup (ex_t e ha)) kit_tt) (fun _ => ev_andV (ev_op (ev_lenT (ev_var rfl) ha) (ev_var rfl) (rv_eq rfl)) (fun _ => ev_all (bs := List.replicate ns.length true) ?_))) ?_) fun H1 e1 => q _ H1 e1 rfl
    · have z := el_lcT (K := K) (tl := tVar 0) (te := tCall sp_is_below [] E0 (tCons (tVar 3) (tCons (tVar 2) tNil))) (σ := [some (.ref a), some (vi ns.length), some (vi n), none]) (j := 3) (vs := [3]) (ev_var rfl) ha (fun _ => V.bl true) (by rw [List.length_map]; omega) (fun _ => rfl) (fun i x H1 e1 hx => by
        rw [List.getElem?_map] at hx
        cases hk : ns[i]? with
        | none =>
          rw [hk] at hx
          cases hx
        | some k =>
          rw [hk] at hx
          cases Option.some.inj hx
          have lk := low k (List.mem_iff_getElem?.mpr ⟨i, hk⟩)
          exact ev_callV (v := .bl true) (((k : Nat) : Int), ((n : Nat) : Int)) (ea_cons (ev_var rfl) (ea_cons (ev_var rfl) ea_nil)) (fun _ _ => ⟨rfl, by show (0 : Int) ≤ (k : Int); omega, by show (k : Int) < (n : Int); omega⟩) (fun _ _ p => p))
      have e : (List.range (ns.map vi).length).map (fun _ => V.bl true) = (List.replicate ns.length true).map V.bl := by
        rw [List.length_map, List.map_replicate, List.map_const', List.length_range]
      rw [e] at z
      exact z
    · rw [List.length_map]
      simp
end
end K72
end
section
namespace K72
open PySem PySem.Spec PyProof.Rows L2 Evl RZ Dw M20 M25 CL
section
variable {P : Program} {w : World} {K : PySem.W.Frag} {mg : Str → Option Value} {base : Heap}
/-! ### rising lists -/
/-! ### arguments among numbers -/
theorem all_map {α : Type} (f : α → Bool) : ∀ l : List α, (l.map f).all id = l.all f
  | [] => rfl
  | x :: l => by rw [List.map_cons, List.all_cons, List.all_cons, all_map f l]; rfl
/-! ### the cells with their worths -/
def CellV (K : PySem.W.Frag) (H : Hp) (v : V) (c : Str × List Nat × Nat) : Prop := ∃ b x, v = .ref b ∧ SqT K H b [.str c.1, x, vi c.2.2] ∧ Nats K H x c.2.1
theorem CellV.et {H H' : Hp} {v : V} {c : Str × List Nat × Nat} (e : ET K H H') (h : CellV K H v c) : CellV K H' v c := let ⟨b, x, q, s, n⟩ := h; ⟨b, x, q, e _ _ s, n.et e⟩
/-- a list of cells -/
def CellsL (K : PySem.W.Frag) (H : Hp) (v : V) (cs : List (Str × List Nat × Nat)) : Prop := ∃ a vs, v = .ref a ∧ H a = some (.lst vs) ∧ Paired (CellV K H) vs cs
theorem CellsL.ex {H H' : Hp} {v : V} {cs : List (Str × List Nat × Nat)} (e : Ex H H') (h : CellsL K H v cs) : CellsL K H' v cs := let ⟨a, vs, q, s, p⟩ := h; ⟨a, vs, q, e _ _ s, paired_imp (fun _ _ z => CellV.et (Dw.Ex.et e) z) p⟩
abbrev MArg := List (Str × Nat) × Nat × List (List Nat)
def blk (n : Nat) (x : (Str × Nat) × List Nat) : List (Str × List Nat × Nat) := ((rows n x.1.2).zip x.2).map fun y => (x.1.1, y.1, y.2)
theorem blk_len {n : Nat} {x : (Str × Nat) × List Nat} (h : Tab n x.1.2 x.2) : (blk n x).length = n ^ x.1.2 := by
  unfold blk
  rw [List.length_map, List.length_zip, rows_len', h.len, Nat.min_self]
theorem pow_36 {n p : Nat} (n6 : n ≤ 6) (p2 : p ≤ 2) : n ^ p ≤ 36 := by
  have h1 : n ^ p ≤ 6 ^ p := Nat.pow_le_pow_left n6 p
  have h2 : 6 ^ p ≤ 6 ^ 2 := Nat.pow_le_pow_right (by decide) p2
  omega
theorem cws_few {n : Nat} {sg : List (Str × Nat)} {ts : List (List Nat)} (so : SigOk sg) (m : MdlOk sg n ts) (i : Nat) : (((sg.zip ts).take i).flatMap (blk n)).length ≤ 36 * i ∧ (((sg.zip ts).take i).flatMap (blk n)).length ≤ 144 := by
  have one : ∀ l : List ((Str × Nat) × List Nat), (∀ x ∈ l, x ∈ sg.zip ts) → (l.flatMap (blk n)).length ≤ 36 * l.length := fun l => by
    induction l with
    | nil => exact fun _ => Nat.zero_le _
    | cons x l ih =>
      intro h
      rw [List.flatMap_cons, List.length_append, List.length_cons]
      have a := ih fun y hy => h y (List.mem_cons_of_mem _ hy)
      obtain ⟨j, hj⟩ := List.mem_iff_getElem?.mp (h x (List.mem_cons_self ..))
      rw [List.getElem?_zip_eq_some] at hj
      obtain ⟨h1, e1⟩ := List.getElem?_eq_some_iff.mp hj.1
      obtain ⟨h2, e2⟩ := List.getElem?_eq_some_iff.mp hj.2
      have tb := m.tab j h1 h2
      rw [e1, e2] at tb
      have b := blk_len tb
      have c := pow_36 m.n6 (so.pl _ (List.mem_iff_getElem?.mpr ⟨j, hj.1⟩))
      omega
  have a := one ((sg.zip ts).take i) fun x hx => List.mem_of_mem_take hx
  have l4 := so.l4
  have lt : ((sg.zip ts).take i).length ≤ i := by rw [List.length_take]; omega
  have lz : ((sg.zip ts).take i).length ≤ 4 := by rw [List.length_take, List.length_zip]; omega
  constructor
  · exact Nat.le_trans a (Nat.mul_le_mul_left 36 lt)
  · exact Nat.le_trans a (Nat.mul_le_mul_left 36 lz)
def sp_cells (K : PySem.W.Frag) : Sp := spF (fun (p : MArg) vs H => (∃ u v, vs = [u, v] ∧ Sig K H u p.1 ∧ Mdl K H v p.2.1 p.2.2) ∧ SigOk p.1 ∧ MdlOk p.1 p.2.1 p.2.2) (fun p v H => CellsL K H v (cws p.2.1 p.1 p.2.2))
theorem c_cells_with_worths (T : Txt mg) (D : Df K mg "cells_with_worths" s_cells_with_worths ["signature", "model"]) (c_rows_below : Cl P w K mg base 1 "rows_below" (sp_rows_below K)) : Cl P w K mg base 2 "cells_with_worths" (sp_cells K) := by
  refine cl_of (k := 1) D sc_cells_with_worths (fun vs H Q E h => ?_) (fun f cdv A outer s H vs Q E hr h => ?_)
  · obtain ⟨p, ⟨⟨u, v, rfl, _⟩, _⟩, _⟩ := h
    rfl
  · obtain ⟨⟨sg, n, ts⟩, ⟨⟨u, v, rfl, hG, hM⟩, sok, mok⟩, q⟩ := h
    refine ⟨_, (pss_cons (ps_set (i := 2) sc_cells_with_worths.nd rfl (.inl rfl) (pe_lst pa_nil))
      (pss_cons (ps_for PassesOwn.never (by rfl) (pi_zipA (by rfl) T.z_zip (pa_cons (pv 0) (pa_cons (pe_ix ix_tup (pv 1) pe_int (fun _ _ => rfl)) pa_nil))) (pg_tup (by rfl) (pgs_cons (pg_tup (by rfl) (pgs_cons (pg_name (i := 3) sc_cells_with_worths.nd rfl (.inl rfl)) (pgs_cons (pg_name (i := 4) sc_cells_with_worths.nd rfl (.inl rfl)) pgs_nil))) (pgs_cons (pg_name (i := 5) sc_cells_with_worths.nd rfl (.inl rfl)) pgs_nil)))
        (pss_one (ps_for PassesOwn.never (by rfl) (pi_zipM (by rfl) T.z_zip (pa_cons (pe_cl c_rows_below hr (by first | decide | omega) (by rfl) (pa_cons (pe_ix ix_tup (pv 1) pe_int (fun _ _ => rfl)) (pa_cons (pv 4) pa_nil))) (pa_cons (pv 5) pa_nil))) (pg_tup (by rfl) (pgs_cons (pg_name (i := 6) sc_cells_with_worths.nd rfl (.inl rfl)) (pgs_cons (pg_name (i := 7) sc_cells_with_worths.nd rfl (.inl rfl)) pgs_nil)))
          (pss_one (ps_expr (pe_bm PySem.F.plainAttrs_list PySem.F.slot_list_append PySem.F.type_list_append mt_append (pv 2) (pa_cons (pe_tup (pa_cons (pv 3) (pa_cons (pv 6) (pa_cons (pv 7) pa_nil)))) pa_nil)))))))
      (pss_one (ps_ret (pv 2))))), ?_⟩
    replace sok : SigOk sg := sok
    replace mok : MdlOk sg n ts := mok
    have n6 := mok.n6
    obtain ⟨a, us, rfl, hS, hP⟩ := id hG
    obtain ⟨z, tv, rfl, hZ, hT⟩ := id hM
    obtain ⟨b, tvs, rfl, hB, hR⟩ := id hT
    replace hZ : SqT K H z [vi n, .ref b] := hZ
    replace hP : Paired (Deed K H) us sg := hP
    replace hR : Paired (Nats K H) tvs ts := hR
    have lS : us.length = sg.length := paired_len hP
    have lT : tvs.length = ts.length := paired_len hR
    have lM : ts.length = sg.length := mok.len
    refine q_asgL (el_lst ea_nil (Nat.zero_le _)) fun m H1 nm e1 hm => ?_
    refine q_zipT (ea_cons (ev_var rfl) (ea_cons (ev_op (ev_var rfl) ev_c (rv_ixT (K := K) (ex_t e1 hZ) (atI_vi (k := 1) rfl))) ea_nil)) (ex_t e1 hS) (ex_t e1 hB) (by rw [lS, lT, lM]) (fun i σ H' => Ex H H' ∧ (∃ ws, H' m = some (.lst ws) ∧ Paired (CellV K H') ws (((sg.zip ts).take i).flatMap (blk n))) ∧ ∃ y3 y4 y5 y6 y7, σ = [some (.ref a), some (.ref z), some (.ref m), y3, y4, y5, y6, y7])
      (fun H2 e2 => ⟨e1.trans e2, ⟨[], e2 _ _ hm, .nil⟩, none, none, none, none, none, rfl⟩) (fun i σ H' _ ⟨e, _⟩ => ⟨ex_t e hS, ex_t e hB⟩) (fun i d tv p σ H2 hd ht ⟨e2, ⟨ws, hws, pws⟩, y3, y4, y5, y6, y7, hσ⟩ np => ?_) (fun σ H2 ⟨e2, ⟨ws, hws, pws⟩, y3, y4, y5, y6, y7, hσ⟩ => ?_)
    · subst hσ
      have hi : i < sg.length := by rw [← lS]; exact (List.getElem?_eq_some_iff.mp hd).1
      have hi2 : i < ts.length := by rw [lM]; exact hi
      obtain ⟨d', ed', c, hc, dc⟩ := paired_get hP (List.getElem?_eq_getElem hi)
      have : d' = d := Option.some.inj (ed'.symm.trans hd)
      subst this
      subst hc
      obtain ⟨t', et', r, hr', nt⟩ := paired_get hR (List.getElem?_eq_getElem hi2)
      have : t' = tv := Option.some.inj (et'.symm.trans ht)
      subst this
      subst hr'
      have e3 : Ex H2 (upd H2 p (.tup [.ref c, .ref r])) := Ex.new np
      have e03 : Ex H (upd H2 p (.tup [.ref c, .ref r])) := e2.trans e3
      have p2 : sg[i].2 ≤ 2 := sok.pl _ (List.getElem_mem hi)
      have tab := mok.tab i hi hi2
      refine ⟨p, _, rfl, st_of upd_same, rfl, _, _, rfl, ⟨c, _, rfl, ex_t e03 dc, rfl, _, _, rfl, _, _, rfl, rfl, ?_⟩⟩
      refine ⟨_, _, rfl, rfl, ?_⟩
      have hzip : (sg.zip ts)[i]? = some (sg[i], ts[i]) := List.getElem?_zip_eq_some.mpr ⟨List.getElem?_eq_getElem hi, List.getElem?_eq_getElem hi2⟩
      have fw := (cws_few sok mok i).2
      have lws : ws.length ≤ 144 := by rw [paired_len pws]; exact fw
      refine s_zipM (do_cons (do_evP (ep_callF (n, sg[i].2) (ea_cons (ev_op (ev_var rfl) ev_c (rv_ixT (K := K) (ex_t e03 hZ) (atI_vi (k := 0) rfl))) (ea_cons (ev_var rfl) ea_nil)) (fun _ _ => ⟨rfl, n6, p2⟩)) fun rv H4 e4 ⟨⟨ra, rvs, hra, hrl, prs⟩, nra⟩ => do_cons (do_ev (ev_var rfl) fun H5 e5 => do_nil ?_)))
      subst hra
      replace prs : Paired (Nats K H4) rvs (rows n sg[i].2) := prs
      have e35 := e4.trans e5
      have lr : rvs.length = n ^ sg[i].2 := by rw [paired_len prs, rows_len']
      have big := pow_36 n6 p2
      refine ⟨ra, r, rvs, _, rfl, sq_of (e5 _ _ hrl), ex_t (e03.trans e35) nt, ?_⟩
      refine loops_zipM (by rw [List.length_map, lr, tab.len]) (fun j σ H' => Ex H H' ∧ H' ra = some (.lst rvs) ∧ Paired (Nats K H') rvs (rows n sg[i].2) ∧ (∃ ws2, H' m = some (.lst ws2) ∧ Paired (CellV K H') ws2 (((sg.zip ts).take i).flatMap (blk n) ++ (blk n (sg[i], ts[i])).take j)) ∧ ∃ y6 y7, σ = [some (.ref a), some (.ref z), some (.ref m), some (.str sg[i].1), some (vi sg[i].2), some (.ref r), y6, y7])
        ⟨e03.trans e35, e5 _ _ hrl, paired_imp (fun _ _ z => z.ex e5) prs, ⟨ws, (e3.trans e35) _ _ hws, by
          rw [List.take_zero, List.append_nil]
          exact paired_imp (fun _ _ z => CellV.et (Dw.Ex.et (e3.trans e35)) z) pws⟩, _, _, rfl⟩ (fun j σ' H' _ ⟨e, hr, _⟩ => ⟨sq_of hr, ex_t e nt⟩) (fun j x y T σ' H6 hx hy ⟨e6, hr6, pr6, ⟨ws2, hw2, pw2⟩, y6, y7, hσ⟩ nT => ?_) (fun σ' H6 ⟨e6, hr6, pr6, ⟨ws2, hw2, pw2⟩, y6, y7, hσ⟩ => ?_)
      · subst hσ
        have hj : j < n ^ sg[i].2 := by rw [← lr]; exact (List.getElem?_eq_some_iff.mp hx).1
        obtain ⟨row, hrow, xa, rfl, hxa⟩ := paired_at pr6 hx
        rw [List.getElem?_map] at hy
        cases hw : ts[i][j]? with
        | none => rw [hw] at hy; cases hy
        | some wv =>
        rw [hw] at hy
        cases Option.some.inj hy
        have e7 : Ex H6 (upd H6 T (.tup [.ref xa, vi wv])) := Ex.new nT
        have hblk : (blk n (sg[i], ts[i]))[j]? = some (sg[i].1, row, wv) := by
          unfold blk
          rw [List.getElem?_map, show ((rows n sg[i].2).zip ts[i])[j]? = some (row, wv) from List.getElem?_zip_eq_some.mpr ⟨hrow, hw⟩]
          rfl
        refine ⟨T, _, rfl, st_of upd_same, rfl, _, _, rfl, _, _, rfl, rfl, ?_⟩
        refine s_appP (e7 _ _ hw2) (ev_var rfl) (tv_tup (K := K) (ea_cons (ev_var rfl) (ea_cons (ev_var rfl) (ea_cons (ev_var rfl) ea_nil))) (by show 3 ≤ 100000; decide)) ?_ (fun v H8 e8 hv => ?_)
        · rw [paired_len pw2, List.length_append, List.length_take]
          omega
        · obtain ⟨va, rfl, hva⟩ := hv
          have e78 := e7.trans e8
          have hm8 : H8 m = some (.lst ws2) := e78 _ _ hw2
          have et : ET K H8 (upd H8 m (.lst (ws2 ++ [.ref va]))) := ET.refl.upd hm8
          have mra : ra ≠ m := fun zz => by
            have := nra _ rfl
            rw [zz, e3 _ _ hws] at this
            cases this
          refine ⟨(e6.trans e78).mut nm, by rw [upd_ne mra]; exact e78 _ _ hr6, paired_imp (fun _ _ z => (z.ex e78).et et) pr6, ⟨ws2 ++ [.ref va], upd_same, ?_⟩, _, _, rfl⟩
          rw [List.take_add_one, hblk]
          show Paired _ _ (_ ++ (_ ++ [(sg[i].1, row, wv)]))
          rw [← List.append_assoc]
          exact paired_snoc' (R := CellV K (upd H8 m (.lst (ws2 ++ [.ref va])))) (x := .ref va) (y := (sg[i].1, row, wv)) ⟨va, .ref xa, rfl, et _ _ hva, xa, rfl, et _ _ (ex_t e78 hxa)⟩ (paired_imp (fun _ _ z => CellV.et (ET.trans (Dw.Ex.et e78) et) z) pw2)
      · subst hσ
        refine ⟨e6, ⟨ws2, hw2, ?_⟩, _, _, _, _, _, rfl⟩
        rw [List.take_add_one, hzip, List.flatMap_append]
        have full : (blk n (sg[i], ts[i])).take rvs.length = blk n (sg[i], ts[i]) := List.take_of_length_le (by rw [blk_len tab, lr]; exact Nat.le_refl _)
        rw [full] at pw2
        show Paired _ _ (_ ++ (Option.toList (some (sg[i], ts[i]))).flatMap (blk n))
        rw [show (Option.toList (some (sg[i], ts[i]))).flatMap (blk n) = blk n (sg[i], ts[i]) from by simp [Option.toList]]
        exact pw2
    · subst hσ
      have full : (sg.zip ts).take us.length = sg.zip ts := List.take_of_length_le (by rw [List.length_zip]; omega)
      rw [full] at pws
      exact s_ret (ev_var rfl) fun H3 e3 => q _ H3 (e2.trans e3) ⟨m, ws, rfl, e3 _ _ hws, paired_imp (fun _ _ z => CellV.et (Dw.Ex.et e3) z) pws⟩ fun d z => V.ref.inj z ▸ nm
end
end K72
end
section
namespace K72
open PySem PySem.Spec PyProof.Rows L2 Evl RZ Dw M20 M25 CL
section
variable {P : Program} {w : World} {K : PySem.W.Frag} {mg : Str → Option Value} {base : Heap}
/-! ### closed lists -/
/-- a model and its signature as they are handed in -/
def MA (K : PySem.W.Frag) (H : Hp) (u v : V) (p : MArg) : Prop := Sig K H u p.1 ∧ Mdl K H v p.2.1 p.2.2
theorem MA.ex {H H' : Hp} {u v : V} {p : MArg} (e : Ex H H') (h : MA K H u v p) : MA K H' u v p := ⟨h.1.ex e, h.2.ex e⟩
theorem MA.et {H H' : Hp} {u v : V} {p : MArg} (e : ET K H H') (h : MA K H u v p) : MA K H' u v p := ⟨h.1.et e, h.2.et e⟩
def MOk (p : MArg) : Prop := SigOk p.1 ∧ MdlOk p.1 p.2.1 p.2.2
def cwm (p : MArg) : List (Str × List Nat × Nat) := cws p.2.1 p.1 p.2.2
theorem MOk.cells {p : MArg} (h : MOk p) : ∀ c ∈ cwm p, c.2.1.length ≤ 2 ∧ (∀ a ∈ c.2.1, a < p.2.1) ∧ c.2.2 < p.2.1 := fun c hc => by
  obtain ⟨i, d, t, j, r, h1, h2, h3, h4, h5, h6⟩ := cws_mem.mp hc
  have rr := rows_of (List.mem_iff_getElem?.mpr ⟨j, h3⟩)
  have p2 := h.1.pl d (List.mem_iff_getElem?.mpr ⟨i, h1⟩)
  have tt := h.2.low t (List.mem_iff_getElem?.mpr ⟨i, h2⟩)
  rw [h6]
  exact ⟨by rw [rr.1]; exact p2, rr.2, tt _ (List.mem_iff_getElem?.mpr ⟨j, h4⟩)⟩
theorem MOk.few {p : MArg} (h : MOk p) : (cwm p).length ≤ 144 := by
  have := (cws_few h.1 h.2 (p.1.zip p.2.2).length).2
  rw [List.take_length] at this
  exact this
end
end K72
end
section
namespace K72
open PySem PySem.Spec PyProof.Rows L2 Evl RZ Dw M20 M25 CL
section
variable {P : Program} {w : World} {K : PySem.W.Frag} {mg : Str → Option Value} {base : Heap}
theorem kit_ll : PySem.W.kitOne K (.type "list") (.type "list") = some true := kit_ty (by decide +kernel)
/-! ### building -/
abbrev Steps := List (Nat × Option (Str × List Nat))
def StepV (K : PySem.W.Frag) (H : Hp) (v : V) (s : Nat × Option (Str × List Nat)) : Prop := ∃ b x, v = .ref b ∧ SqT K H b [vi s.1, x] ∧ ((s.2 = none ∧ x = .non) ∨ ∃ nm r p y, s.2 = some (nm, r) ∧ x = .ref p ∧ SqT K H p [.str nm, y] ∧ Nats K H y r)
theorem StepV.et {H H' : Hp} {v : V} {s : Nat × Option (Str × List Nat)} (e : ET K H H') (h : StepV K H v s) : StepV K H' v s := let ⟨b, x, q, s, c⟩ := h; ⟨b, x, q, e _ _ s, c.imp id fun ⟨nm, r, p, y, a, b, c, d⟩ => ⟨nm, r, p, y, a, b, e _ _ c, d.et e⟩⟩
def StepsL (K : PySem.W.Frag) (H : Hp) (a : Addr) (st : Steps) : Prop := ∃ vs, H a = some (.lst vs) ∧ Paired (StepV K H) vs st
theorem StepsL.ex {H H' : Hp} {a : Addr} {st : Steps} (e : Ex H H') (h : StepsL K H a st) : StepsL K H' a st := let ⟨vs, s, p⟩ := h; ⟨vs, e _ _ s, paired_imp (fun _ _ z => StepV.et (Dw.Ex.et e) z) p⟩
end
end K72
end
section
namespace K72
open PySem PySem.Spec PyProof.Rows L2 Evl RZ Dw M20 M25 CL
section
variable {P : Program} {w : World} {K : PySem.W.Frag} {mg : Str → Option Value} {base : Heap}
/-! ### made by some numbers -/
/-! ### parts -/
end
end K72
end
section
namespace K72
open PySem PySem.Spec PyProof.Rows L2 Evl RZ Dw M20 M25 CL
section
variable {P : Program} {w : World} {K : PySem.W.Frag} {mg : Str → Option Value} {base : Heap}
end
end K72
end
section
namespace K72
open PySem PySem.Spec PyProof.Rows L2 Evl RZ Dw M20 M25 CL
theorem Off.seq {K : PySem.W.Frag} {H H' : Hp} {p c l : Addr} {t : Nat} {xs : List V} (o : Off H H' p c) (pu : Pur H p c t) (h1 : l ≠ p) (h2 : l ≠ c) (h : SqL K H l xs ∨ SqT K H l xs) : SqL K H' l xs ∨ SqT K H' l xs := h.imp (o.sql h1 h2) (o.et pu l xs)
section
variable {P : Program} {w : World} {K : PySem.W.Frag} {mg : Str → Option Value} {base : Heap}
/-! ### pick -/
def sp_pick (K : PySem.W.Frag) : Sp := fun vs H Q _ => ∃ (p c : Addr) (t : Nat), Pur H p c t ∧ t ≤ 90000 ∧
  ((∃ z : Str, vs = [.ref p, .str z] ∧ 1 ≤ z.length ∧ z.length ≤ 1000 ∧ ∀ (k d : Nat) H', z.cps[k]? = some d → Off H H' p c → Pur H' p c (t + 1) → Q (.str ⟨#[d]⟩) H') ∨
   (∃ (l : Addr) (xs : List V), vs = [.ref p, .ref l] ∧ (SqL K H l xs ∨ SqT K H l xs) ∧ l ≠ p ∧ l ≠ c ∧ 1 ≤ xs.length ∧ xs.length ≤ 1000 ∧ ∀ (k : Nat) x H', xs[k]? = some x → Off H H' p c → Pur H' p c (t + 1) → Q x H'))
theorem c_pick (T : Txt mg) (D : Df K mg "_law_pick" s_pick ["_law_purse_here", "_law_some"]) (c_draw : Cl P w K mg base 1 "_law_draw" sp_draw) : Cl P w K mg base 2 "_law_pick" (sp_pick K) := by
  refine cl_of (k := 1) D sc_pick (fun vs H Q E h => ?_) (fun f cdv A outer s H vs Q E hr h => ?_)
  · obtain ⟨p, c, t, _, _, ⟨z, rfl, _⟩ | ⟨l, xs, rfl, _⟩⟩ := h <;> rfl
  · obtain ⟨p, c, t, pu, t1, h⟩ := h
    refine ⟨_, (pss_one (ps_ret (pe_ix (ix_or (ix_or ix_tup ix_list) ix_str) (pv 1) (pe_cl c_draw hr (by first | decide | omega) (by rfl) (pa_cons (pv 0) (pa_cons (pe_callB (call_or call_len_seq call_len_str) (by rfl) T.z_len PySem.boot_len (pa_cons (pv 1) pa_nil)) pa_nil))) (fun _ _ => rfl)))), ?_⟩
    rcases h with ⟨z, rfl, z1, z2, q⟩ | ⟨l, xs, rfl, hx, lp, lc, x1, x2, q⟩
    · refine do_ret (do_op (do_ev (ev_var rfl) fun H1 e1 => do_draw (n := z.length) (ev_var rfl) (fun H2 e2 Q2 q2 => ev_var rfl H2 (Ex.refl _) _ fun H3 e3 => .inr ⟨z, rfl, sz_of (by omega), q2 H3 e3⟩) (pu.ex e1) (by omega) z1 z2 fun k H2 hk o2 pu2 => ?_))
      have hz : z.cps[k]? = some z.cps[k] := Array.getElem?_eq_getElem hk
      exact .inr ⟨z, (k : Int), z.cps[k], rfl, rfl, sz_of (by omega), atI_nat (by rw [Array.getElem?_toList]; exact hz), q k _ H2 hz ((Off.of_ex e1).trans o2) pu2⟩
    · refine do_ret (do_op (do_ev (ev_var rfl) fun H1 e1 => do_draw (n := xs.length) (ev_var rfl) (fun H2 e2 Q2 q2 => ev_var rfl H2 (Ex.refl _) _ fun H3 e3 => .inl ⟨l, xs, rfl, hx.imp (ex_l ((e1.trans e2).trans e3)) (ex_t ((e1.trans e2).trans e3)), q2 H3 e3⟩) (pu.ex e1) (by omega) x1 x2 fun k H2 hk o2 pu2 => ?_))
      have hk' : xs[k]? = some xs[k] := List.getElem?_eq_getElem hk
      have o02 := (Off.of_ex e1).trans o2
      have got := q k _ H2 hk' o02 pu2
      rcases o02.seq pu lp lc hx with a | a
      · exact .inl (.inr ⟨l, xs, (k : Int), xs[k], rfl, rfl, a, atI_nat hk', got⟩)
      · exact .inl (.inl ⟨l, xs, (k : Int), xs[k], rfl, rfl, a, atI_nat hk', got⟩)
end
section
variable {K : PySem.W.Frag} {σ : L2.St} {H H' : Hp} {R : V → Hp → Prop} {n m t : Nat} {p c : Addr} {ta : TA} {te : TE}
/-! a new list of things of one kind; a pick out of it -/
def EvAs (R : V → Hp → Prop) (n : Nat) (ta : TA) (σ : L2.St) (H : Hp) : Prop := ∀ H1, Ex H H1 → ∀ Q : List V → Hp → Prop, (∀ vs H2, Ex H1 H2 → vs.length = n → (∀ x ∈ vs, R x H2) → Q vs H2) → ta σ H1 Q
theorem eas_nil : EvAs R 0 tNil σ H := fun H1 _ Q q => q [] H1 (Ex.refl _) rfl (fun x hx => by cases hx)
theorem eas_cons (st : ∀ v H H', Ex H H' → R v H → R v H') (h : EvP te σ H R) (hr : EvAs R n ta σ H) : EvAs R (n + 1) (tCons te ta) σ H := fun H1 e Q q => do_cons (h H1 e _ fun v H2 e2 hv => hr H2 (e.trans e2) _ fun vs H3 e3 ln hvs => q _ H3 (e2.trans e3) (by rw [List.length_cons, ln]) (fun x hx => by
  rcases List.mem_cons.mp hx with z | z
  · rw [z]
    exact st _ _ _ e3 hv
  · exact hvs x z))
def LsR (R : V → Hp → Prop) (p c : Addr) (n : Nat) (v : V) (H : Hp) : Prop := ∃ (l : Addr) (xs : List V), v = .ref l ∧ H l = some (.lst xs) ∧ l ≠ p ∧ l ≠ c ∧ xs.length = n ∧ ∀ x ∈ xs, R x H
theorem LsR.ex (st : ∀ v H H', Ex H H' → R v H → R v H') (e : Ex H H') (h : LsR R p c n v H) : LsR R p c n v H' := let ⟨l, xs, q, hx, a, b, ln, all⟩ := h; ⟨l, xs, q, e _ _ hx, a, b, ln, fun x hx => st _ _ _ e (all x hx)⟩
theorem ep_lstR (st : ∀ v H H', Ex H H' → R v H → R v H') (h : EvAs R n ta σ H) (l : n ≤ 1000) (pu : Pur H p c m) : EvP (tLst ta) σ H (LsR R p c n) := fun H1 e Q q => do_lst (h H1 e _ fun vs H2 e2 ln hv => ⟨sz_of (by omega), fun a na => by
  obtain ⟨ap, ac⟩ := (pu.ex (e.trans e2)).fresh na
  exact q _ _ (e2.trans (Ex.new na)) ⟨a, vs, rfl, upd_same, ap, ac, ln, fun x hx => st _ _ _ (Ex.new na) (hv x hx)⟩⟩)
/-- the one list behind the other -/
theorem ep_catR {t1 t2 : TE} {n1 n2 : Nat} (st : ∀ v H H', Ex H H' → R v H → R v H') (h1 : EvP t1 σ H (LsR R p c n1)) (h2 : EvP t2 σ H (LsR R p c n2)) (l : n1 + n2 ≤ 1000) (pu : Pur H p c m) : EvP (tOp rCat t1 t2) σ H (LsR R p c (n1 + n2)) := fun H1 e Q q => do_op (h1 H1 e _ fun v H2 e2 hv => h2 H2 (e.trans e2) _ fun u H3 e3 hu => by
  obtain ⟨l1, xs, rfl, hx, _, _, ln, all⟩ := LsR.ex st e3 hv
  obtain ⟨l2, ys, rfl, hy, _, _, ln2, all2⟩ := hu
  refine ⟨l1, l2, xs, ys, rfl, rfl, hx, hy, sz_of (by omega), fun r nr => ?_⟩
  obtain ⟨ap, ac⟩ := (pu.ex ((e.trans e2).trans e3)).fresh nr
  refine q _ _ ((e2.trans e3).trans (Ex.new nr)) ⟨r, xs ++ ys, rfl, upd_same, ap, ac, by rw [List.length_append, ln, ln2], fun x hx => ?_⟩
  rcases List.mem_append.mp hx with z | z
  · exact st _ _ _ (Ex.new nr) (all x z)
  · exact st _ _ _ (Ex.new nr) (all2 x z))
/-- a pick out of a list -/
theorem do_pickR {tp tl : TE} {Q : VK} (hp : Ev tp σ H (.ref p)) (pu : Pur H p c t) (l9 : t ≤ 90000) (hl : EvP tl σ H (LsR R p c n)) (n1 : 1 ≤ n) (n2 : n ≤ 1000) (so : ∀ v H2 H', Pur H2 p c t → Off H2 H' p c → R v H2 → R v H')
    (q : ∀ v H', Off H H' p c → Pur H' p c (t + 1) → R v H' → Q v H') : tCall (sp_pick K) [] E0 (tCons tp (tCons tl tNil)) σ H Q :=
  do_cons (hp H (Ex.refl _) _ fun H1 e1 => do_cons (hl H1 e1 _ fun v H2 e2 hv => do_nil (by
    obtain ⟨l, xs, rfl, hx, lp, lc, ln, all⟩ := hv
    have pu2 := pu.ex (e1.trans e2)
    exact ⟨p, c, t, pu2, l9, .inr ⟨l, xs, rfl, .inl (sq_of hx), lp, lc, by omega, by omega, fun k x H3 hk o3 pu3 => q x H3 ((Off.of_ex (e1.trans e2)).trans o3) pu3 (so _ _ _ pu2 o3 (all x (List.mem_of_getElem? hk)))⟩⟩)))
/-- the name's worth set where something is so -/
theorem q_mayset {i : Nat} {C : V → Prop} {v0 : V} {b : Bool} {tt : TT} {tz : TS} {D : Ends} (h : EvT tt σ H b) (hv : C v0) (h0 : σ.set i (some v0) = σ) (he : b = true → ∀ H1, Ex H H1 → EvP te σ H1 (fun v _ => C v)) (k : ∀ v H1, Ex H H1 → C v → tz D (σ.set i (some v)) H1) : tSeq (tIfS tt (tAsg te (gName i)) tNext) tz D σ H :=
  q_when h (fun hb H1 e1 => he hb H1 e1 H1 (Ex.refl _) _ fun v H2 e2 c => k v H2 (e1.trans e2) c) fun _ H1 e1 => by
    have := k v0 H1 e1 hv
    rw [h0] at this
    exact this
end
end K72
end
section
namespace K72
open PySem PySem.Spec PyProof.Rows L2 Evl RZ Dw M20 M25 CL
/-! ### a signature picked -/
def SgV (K : PySem.W.Frag) (v : V) (H : Hp) : Prop := ∃ sg, Sig K H v sg ∧ SigOk sg
theorem SgV.et {K : PySem.W.Frag} {v : V} {H H' : Hp} (e : ET K H H') (h : SgV K v H) : SgV K v H' := let ⟨sg, a, b⟩ := h; ⟨sg, a.et e, b⟩
theorem st_sg {K : PySem.W.Frag} : ∀ v H H', Ex H H' → SgV K v H → SgV K v H' := fun _ _ _ e h => h.et (Dw.Ex.et e)
def sigOkB (sg : List (Str × Nat)) : Bool := decide (1 ≤ sg.length) && decide (sg.length ≤ 4) && sg.all (fun p => decide (1 ≤ p.1.length) && decide (p.1.length ≤ 4) && p.1.cps.toList.all (fun c => decide (c ∈ letters.cps.toList)) && decide (p.2 ≤ 2)) && decide ((sg.map (·.1)).Nodup)
theorem sigOk_of {sg : List (Str × Nat)} (h : sigOkB sg = true) : SigOk sg := by
  unfold sigOkB at h
  simp only [Bool.and_eq_true, decide_eq_true_eq, List.all_eq_true] at h
  obtain ⟨⟨⟨a, b⟩, c⟩, d⟩ := h
  exact ⟨a, b, fun p hp => ⟨(c p hp).1.1.1, (c p hp).1.1.2, (c p hp).1.2⟩, fun p hp => (c p hp).2, d⟩
def EvDs (K : PySem.W.Frag) (sg : List (Str × Nat)) (ta : TA) (σ : L2.St) (H : Hp) : Prop := ∀ H1, Ex H H1 → ∀ Q : List V → Hp → Prop, (∀ vs H2, Ex H1 H2 → Paired (Deed K H2) vs sg → Q vs H2) → ta σ H1 Q
section
variable {K : PySem.W.Frag} {σ : L2.St} {H : Hp} {ta : TA}
theorem eds_nil : EvDs K [] tNil σ H := fun H1 _ Q q => q [] H1 (Ex.refl _) .nil
theorem eds_cons {z : Str} {k : Nat} {sg : List (Str × Nat)} (h : EvDs K sg ta σ H) : EvDs K ((z, k) :: sg) (tCons (tTup (tCons (tC (.str z)) (tCons (tC (.int (k : Int))) tNil))) ta) σ H := fun H1 e Q q =>
  do_cons (tv_tup (K := K) (xs := [.str z, vi k]) (ea_cons ev_c (ea_cons ev_c ea_nil)) (by show 2 ≤ 100000; decide) H1 e _ fun v H2 e2 ⟨b, hv, hb⟩ => h H2 (e.trans e2) _ fun vs H3 e3 hvs => q _ H3 (e2.trans e3) (.cons ⟨b, hv, ex_t e3 hb⟩ hvs))
theorem ep_sgT {sg : List (Str × Nat)} (h : EvDs K sg ta σ H) (l : sg.length ≤ 100000) (ok : sigOkB sg = true) : EvP (tTup ta) σ H (SgV K) := fun H1 e Q q =>
  do_tup (h H1 e _ fun vs H2 e2 hvs => ⟨by rw [paired_len hvs]; exact sz_of l, fun p np => q _ _ (e2.trans (Ex.new np)) ⟨sg, ⟨p, vs, rfl, st_of upd_same, paired_imp (fun _ _ z => Deed.et (Dw.Ex.et (Ex.new np)) z) hvs⟩, sigOk_of ok⟩⟩)
end
section
variable {P : Program} {w : World} {K : PySem.W.Frag} {mg : Str → Option Value} {base : Heap}
def sp_signature (K : PySem.W.Frag) : Sp := fun vs H Q _ => ∃ (p c : Addr) (t : Nat), vs = [.ref p] ∧ Pur H p c t ∧ t ≤ 80000 ∧ ∀ v sg H', Off H H' p c → Pur H' p c (t + 1) → Sig K H' v sg → SigOk sg → Q v H'
/-! ### ways -/
def sp_ways (K : PySem.W.Frag) : Sp := spF (fun (p : Nat × Nat) vs _ => vs = [vi p.2, vi p.1] ∧ p.1 ≤ 6 ∧ p.2 ≤ 4) (fun p v H => RowsL K H v (rows p.1 p.2))
theorem c_ways (T : Txt mg) (D : Df K mg "_law_ways" s_ways ["_law_many", "_law_size"]) : Cl P w K mg base 1 "_law_ways" (sp_ways K) := by
  refine cl_of (k := 0) D sc_ways (fun vs H Q E h => ?_) (fun f cdv A outer s H vs Q E hr h => ?_)
  · obtain ⟨p, ⟨rfl, _⟩, _⟩ := h
    rfl
  · obtain ⟨⟨n, m⟩, ⟨rfl, hn, hm⟩, q⟩ := h
    refine ⟨_, (pss_cons (ps_set (i := 2) sc_ways.nd rfl (.inl rfl) (pe_lst (pa_cons (pe_tup pa_nil) pa_nil)))
      (pss_cons (ps_for PassesOwn.never (by rfl) (pi_range1 (by rfl) T.z_range (pa_cons (pv 0) pa_nil)) (pg_name (i := 3) sc_ways.nd rfl (.inl rfl))
        (pss_cons (ps_set (i := 4) sc_ways.nd rfl (.inl rfl) (pe_lst pa_nil))
        (pss_cons (ps_for PassesOwn.never (by rfl) (pi_list (pv 2)) (pg_name (i := 5) sc_ways.nd rfl (.inr rfl))
          (pss_one (ps_set (i := 4) sc_ways.nd rfl (.inl rfl) (pe_op op_cat (pv 4) (pe_lc (own := [("_law_number", 6)]) (g := (gName 6)) (by rfl) sc_ways.nd (pi_range1 (by rfl) T.z_range (pa_cons (pv 1) pa_nil)) (blkOk_by (own := [("_law_number", 6)]) (N := ["_law_many", "_law_size", "_law_found", "_law_k", "_law_longer", "_law_way_here", "_law_number"]) (sc := (defScope s_ways)) (by decide +kernel)) (fun _ _ _ _ _ => (pg_name (i := 6) sc_ways.nd rfl (.inl rfl))) (fun _ _ _ _ _ => pts_nil) (fun _ _ _ _ _ => (pe_op (op_catAK K) (pv 5) (pe_tup (pa_cons (pv 6) pa_nil)))))))))
        (pss_one (ps_set (i := 2) sc_ways.nd rfl (.inl rfl) (pv 4))))))
      (pss_one (ps_ret (pv 2))))), ?_⟩
    replace hn : n ≤ 6 := hn
    replace hm : m ≤ 4 := hm
    refine do_set (do_lst (do_cons (do_tup (do_nil ⟨Nat.zero_le _, fun r nr => do_nil ⟨by show 1 ≤ sizeLine; decide, fun f0 nf0 => ?_⟩⟩))))
    have e1 : Ex H (upd (upd H r (.tup [])) f0 (.lst [.ref r])) := (Ex.new nr).trans (Ex.new nf0)
    have nfH : H f0 = none := fresh_back (Ex.new nr) nf0
    have hf0 : (upd (upd H r (.tup [])) f0 (.lst [.ref r])) f0 = some (.lst [.ref r]) := upd_same
    have hr0 : (upd (upd H r (.tup [])) f0 (.lst [.ref r])) r = some (.tup []) := Ex.new nf0 _ _ upd_same
    generalize upd (upd H r (.tup [])) f0 (.lst [.ref r]) = H1 at *
    refine q_forR1 (n := (m : Int)) (ea_cons (ev_var rfl) ea_nil) ⟨by omega, by omega⟩ (fun i σ H' => Ex H H' ∧ ∃ (v : V) (y3 y4 y5 : Option V), RowsL K H' v (rows n i) ∧ (∀ d, v = .ref d → H d = none) ∧ σ = [some (vi m), some (vi n), some v, y3, y4, y5, none])
      (fun H2 e2 => ⟨e1.trans e2, .ref f0, none, none, none, ⟨f0, [.ref r], rfl, e2 _ _ hf0, .cons ⟨r, rfl, st_of (e2 _ _ hr0)⟩ .nil⟩, (fun d z => V.ref.inj z ▸ nfH), rfl⟩) (fun i σ H2 hi ⟨e2, v, y3, y4, y5, hv, hnv, hσ⟩ => ?_) (fun σ H2 ⟨e2, v, y3, y4, y5, hv, hnv, hσ⟩ => ?_)
    · subst hσ
      obtain ⟨a, us, rfl, ha, pus⟩ := hv
      have hi' : i < m := by omega
      have li : us.length = n ^ i := by rw [paired_len pus, rows_length]
      have b36 : n ^ i ≤ 216 := by
        have h1 : n ^ i ≤ 6 ^ i := Nat.pow_le_pow_left hn i
        have h2 : 6 ^ i ≤ 6 ^ 3 := Nat.pow_le_pow_right (by decide) (by omega)
        omega
      refine q_asgL (el_lst ea_nil (Nat.zero_le _)) fun lo H3 nlo e3 hlo => ?_
      refine q_forLs (do_ev (ev_var rfl) fun H4 e4 => ⟨a, rfl, ⟨us, sq_of ((e3.trans e4) _ _ ha)⟩, ?_⟩)
      have e24 := e3.trans e4
      refine qloops_list (K := K) (xs := us) (fun j σ H' => Ex H2 H' ∧ ∃ (l : Addr) (ws : List V) (y5 : Option V), H' l = some (.lst ws) ∧ H2 l = none ∧ Paired (Nats K H') ws (((rows n i).take j).flatMap fun r => (List.range n).map fun k => r ++ [k]) ∧ σ = [some (vi m), some (vi n), some (.ref a), some (vi i), some (.ref l), y5, none])
        ⟨e24, lo, [], y5, e4 _ _ hlo, nlo, .nil, rfl⟩ (fun j σ' H' _ ⟨e, _⟩ => sq_of (e _ _ ha)) (fun j x σ' H5 hx ⟨e5, l, ws, y5', hl, nl, pw, hσ⟩ => ?_) (fun σ' H5 ⟨e5, l, ws, y5', hl, nl, pw, hσ⟩ => ?_)
      · subst hσ
        obtain ⟨row, hrow, xa, rfl, hxa⟩ := paired_at pus hx
        have hj := (List.getElem?_eq_some_iff.mp hx).1
        have lr : row.length = i := (rows_of (List.mem_iff_getElem?.mpr ⟨j, hrow⟩)).1
        have lw : ws.length ≤ 216 * 6 := by
          rw [paired_len pw]
          have : ∀ L : List (List Nat), (L.flatMap fun r => (List.range n).map fun k => r ++ [k]).length = L.length * n := fun L => by
            induction L with
            | nil => simp
            | cons r L ih => rw [List.flatMap_cons, List.length_append, ih, List.length_map, List.length_range, List.length_cons, Nat.add_mul, Nat.one_mul, Nat.add_comm]
          rw [this, List.length_take]
          exact Nat.mul_le_mul (by omega) hn
        refine s_asgLP (elp_cat (ta := tVar 4) (ev_var rfl) hl (elp_lcR (n := n) (ea_cons (ev_var rfl) ea_nil) (by omega) (fun _ => true) (fun v k H' => Nats K H' v (row ++ [k])) (stb_nats (K := K) _) (fun _ => rfl) (fun k H6 hk e6 => ⟨et_yes, fun _ => tv_nats (tv_is (tv_cat (tv_ev (ev_var rfl) (ex_t (e5.trans e6) hxa)) (tv_tup (ea_cons (ev_var rfl) ea_nil) (by show 1 ≤ 100000; decide)) (by rw [List.length_map, lr]; show i + 1 ≤ 100000; omega)) (by rw [List.map_append]; rfl))⟩)) (fun ws2 H' p2 => by have := paired_len p2; rw [range_all, List.length_range] at this; omega) (fun ws2 H6 H7 e6 p2 => paired_imp (fun _ _ z => z.ex e6) p2)) fun l2 us2 H6 nl2 e6 hl2 ⟨ws2, hu2, p2⟩ => ?_
        subst hu2
        refine ⟨e5.trans e6, l2, ws ++ ws2, _, hl2, fresh_back e5 nl2, ?_, rfl⟩
        rw [List.take_add_one, hrow, List.flatMap_append]
        rw [range_all] at p2
        show Paired _ _ (_ ++ ([row].flatMap fun r => (List.range n).map fun k => r ++ [k]))
        rw [List.flatMap_singleton]
        exact paired_app (paired_imp (fun _ _ z => z.ex e6) pw) (paired_map (S := Nats K H6) (f := fun k => row ++ [k]) (fun _ _ z => z) p2)
      · subst hσ
        have full : (rows n i).take us.length = rows n i := List.take_of_length_le (by rw [paired_len pus]; exact Nat.le_refl _)
        rw [full] at pw
        refine s_asg (ev_var rfl) fun H6 e6 => ⟨e2.trans (e5.trans e6), .ref l, _, _, _, ⟨l, ws, rfl, e6 _ _ hl, paired_imp (fun _ _ z => z.ex e6) pw⟩, (fun d z => V.ref.inj z ▸ fresh_back e2 nl), rfl⟩
    · subst hσ
      rw [Int.toNat_natCast] at hv
      exact s_ret (ev_var rfl) fun H3 e3 => q _ H3 (e2.trans e3) (hv.ex e3) hnv
end
end K72
end
section
namespace K72
open PySem PySem.Spec PyProof.Rows L2 Evl RZ Dw M20 M25 CL
section
variable {P : Program} {w : World} {K : PySem.W.Frag} {mg : Str → Option Value} {base : Heap}
/-! ### a table -/
theorem tab_of {n pl : Nat} {ks : List Nat} (h1 : ks.length = n ^ pl) (h2 : ∀ k ∈ ks, k < n) : Tab n pl ks := ⟨h1, fun k hk => h2 _ (List.mem_iff_getElem?.mpr ⟨k, g_eq (by rw [h1]; exact hk)⟩)⟩
theorem mem_low {n x : Nat} {row : List Nat} (hx : x < n) (h : ∀ k ∈ row, k < n) : ∀ k ∈ x :: row, k < n := fun k hk => by
  rcases List.mem_cons.mp hk with z | z
  · omega
  · exact h k z
def sp_table (K : PySem.W.Frag) : Sp := fun vs H Q _ => ∃ (p c : Addr) (t n m : Nat), vs = [.ref p, vi m, vi n] ∧ Pur H p c t ∧ t ≤ 80000 ∧ 1 ≤ n ∧ n ≤ 6 ∧ m ≤ 2 ∧ ∀ v tb t' H', Off H H' p c → Pur H' p c t' → t' ≤ t + 100 → Nats K H' v tb → Tab n m tb → Q v H'
theorem c_table (T : Txt mg) (D : Df K mg "_law_table" s_table ["_law_purse_here", "_law_many", "_law_size"]) (c_draw : Cl P w K mg base 1 "_law_draw" sp_draw) (c_ways : Cl P w K mg base 1 "_law_ways" (sp_ways K)) : Cl P w K mg base 2 "_law_table" (sp_table K) := by
  refine cl_of (k := 1) D sc_table (fun vs H Q E h => ?_) (fun f cdv A outer s H vs Q E hr h => ?_)
  · obtain ⟨p, c, t, n, m, rfl, _⟩ := h
    rfl
  · obtain ⟨p, c, t, n, m, rfl, pu, t1, n1, n6, m2, q⟩ := h
    refine ⟨_, (pss_cons (ps_set (i := 3) sc_table.nd rfl (.inl rfl) (pe_cl c_draw hr (by first | decide | omega) (by rfl) (pa_cons (pv 0) (pa_cons pe_int pa_nil))))
      (pss_cons (ps_set (i := 4) sc_table.nd rfl (.inl rfl) (pe_cl c_draw hr (by first | decide | omega) (by rfl) (pa_cons (pv 0) (pa_cons (pv 2) pa_nil))))
      (pss_cons (ps_set (i := 5) sc_table.nd rfl (.inl rfl) (pe_lst pa_nil))
      (pss_cons (ps_for PassesOwn.never (by rfl) (pi_list (pe_cl c_ways hr (by first | decide | omega) (by rfl) (pa_cons (pv 1) (pa_cons (pv 2) pa_nil)))) (pg_name (i := 6) sc_table.nd rfl (.inl rfl))
        (pss_cons (ps_set (i := 7) sc_table.nd rfl (.inl rfl) (pe_cl c_draw hr (by first | decide | omega) (by rfl) (pa_cons (pv 0) (pa_cons (pv 2) pa_nil))))
        (pss_cons (ps_if (pt_cmpR op_eq (pv 3) pe_int (nomark _))
          (pss_one (ps_set (i := 7) sc_table.nd rfl (.inl rfl) (pv 4)))
          pss_nil)
        (pss_cons (ps_if (pt_cmpR op_eq (pv 3) pe_int (nomark _))
          (pss_one (ps_set (i := 7) sc_table.nd rfl (.inl rfl) (pe_op op_mod (pe_op op_add (pe_callB (cr_sumT rfl) (by rfl) T.z_sum (by decide +kernel) (pa_cons (pv 6) pa_nil)) (pv 4)) (pv 2))))
          pss_nil)
        (pss_cons (ps_if (pt_cmpR op_eq (pv 3) pe_int (nomark _))
          (pss_one (ps_set (i := 7) sc_table.nd rfl (.inl rfl) (pe_callB (cr_maxT rfl hr) (by rfl) T.z_max (by decide +kernel) (pa_cons (pe_op op_catA (pe_tup (pa_cons pe_int pa_nil)) (pv 6)) pa_nil))))
          pss_nil)
        (pss_cons (ps_if (pt_cmpR op_eq (pv 3) pe_int (nomark _))
          (pss_one (ps_set (i := 7) sc_table.nd rfl (.inl rfl) (pe_callB (cr_minT rfl hr) (by rfl) T.z_min (by decide +kernel) (pa_cons (pe_op op_catA (pe_tup (pa_cons (pe_op op_sub (pv 2) pe_int) pa_nil)) (pv 6)) pa_nil))))
          pss_nil)
        (pss_cons (ps_if (PW.pt (pw_and (pt_cmpR op_eq (pv 3) pe_int (nomark _)) (pw_and1 (pt_cmpR op_gt (pv 1) pe_int (nomark _)))))
          (pss_one (ps_set (i := 7) sc_table.nd rfl (.inl rfl) (pe_ix ix_tup (pv 6) (pe_un un_neg pe_int) (fun _ _ => rfl))))
          pss_nil)
        (pss_cons (ps_if (pt_cmpR op_eq (pv 3) pe_int (nomark _))
          (pss_one (ps_set (i := 7) sc_table.nd rfl (.inl rfl) (pe_op op_mod (pe_op op_add (pe_op op_mul pe_int (pe_callB (cr_sumT rfl) (by rfl) T.z_sum (by decide +kernel) (pa_cons (pv 6) pa_nil))) (pv 4)) (pv 2))))
          pss_nil)
        (pss_one (ps_expr (pe_bm PySem.F.plainAttrs_list PySem.F.slot_list_append PySem.F.type_list_append mt_append (pv 5) (pa_cons (pv 7) pa_nil))))))))))))
      (pss_one (ps_ret (pe_callTy call_tuple_of (by rfl) T.z_tuple (by decide +kernel) (pa_cons (pv 5) pa_nil)))))))), ?_⟩
    refine do_set (do_draw (ev_var rfl) (ev_c (v := vi 8)) pu (by omega) (by decide) (by decide) fun wy H1 hw o1 pu1 => ?_)
    refine do_set (do_draw (ev_var rfl) (ev_var rfl) pu1 (by omega) n1 (by omega) fun b H2 hb o2 pu2 => ?_)
    have o02 := o1.trans o2
    refine q_asgL (el_lst ea_nil (Nat.zero_le _)) fun fo H3 nfo e3 hfo => ?_
    have pu3 := pu2.ex e3
    obtain ⟨fp, fc⟩ := pu2.fresh nfo
    refine q_forLs (ea_cons (ev_var rfl) (ea_cons (ev_var rfl) ea_nil) H3 (Ex.refl _) _ fun H4 e4 => ⟨(n, m), ⟨rfl, n6, by show m ≤ 4; omega⟩, fun v H5 e5 ⟨ra, rvs, hra, hrl, prs⟩ nra => ⟨ra, hra, ⟨rvs, sq_of hrl⟩, ?_⟩⟩)
    subst hra
    have e35 := e4.trans e5
    replace prs : Paired (Nats K H5) rvs (rows n m) := prs
    have lrv := paired_len prs
    rw [rows_len'] at lrv
    have big := pow_36 n6 m2
    have nra4 := nra _ rfl
    have raf : ra ≠ fo := fun z => by rw [z, e4 _ _ hfo] at nra4; cases nra4
    have pu5 := pu3.ex e35
    obtain ⟨rp, rc⟩ := (pu3.ex e4).fresh nra4
    have nfoH : H fo = none := o02.back fp fc nfo
    have o05 : Off H H5 p c := o02.trans (.of_ex (e3.trans e35))
    refine qloops_list (K := K) (xs := rvs) (fun j σ H' => Off H H' p c ∧ Pur H' p c (t + 2 + j) ∧ H' ra = some (.lst rvs) ∧ (∃ ks : List Nat, H' fo = some (.lst (ks.map vi)) ∧ ks.length = j ∧ ∀ k ∈ ks, k < n) ∧ Paired (Nats K H') rvs (rows n m) ∧ ∃ y6 y7, σ = [some (.ref p), some (vi m), some (vi n), some (vi wy), some (vi b), some (.ref fo), y6, y7])
      ⟨o05, pu5, hrl, ⟨[], e35 _ _ hfo, rfl, fun _ z => nomatch z⟩, prs, none, none, rfl⟩ (fun j σ' H' _ ⟨_, _, hr, _⟩ => sq_of hr) (fun j x σ' H6 hx ⟨o6, pu6, hr6, ⟨ks, hks, lks, low⟩, pr6, y6, y7, hσ⟩ => ?_) (fun σ' H6 ⟨o6, pu6, hr6, ⟨ks, hks, lks, low⟩, pr6, y6, y7, hσ⟩ => ?_)
    · subst hσ
      obtain ⟨row, hrow, xa, rfl, hxa⟩ := paired_at pr6 hx
      obtain ⟨lr, rl⟩ := rows_of (List.mem_iff_getElem?.mpr ⟨j, hrow⟩)
      have hj := (List.getElem?_eq_some_iff.mp hx).1
      show tSeq _ _ _ [some (.ref p), some (vi m), some (vi n), some (vi wy), some (vi b), some (.ref fo), some (.ref xa), y7] H6
      refine do_set (do_draw (ev_var rfl) (ev_var rfl) pu6 (by omega) n1 (by omega) fun w0 H7 hw0 o7 pu7 => ?_)
      show tSeq _ _ _ [some (.ref p), some (vi m), some (vi n), some (vi wy), some (vi b), some (.ref fo), some (.ref xa), some (vi w0)] H7
      have hxa7 : SqT K H7 xa (row.map vi) := o7.et pu6 _ _ hxa
      refine q_mayset (C := fun v => ∃ k, k < n ∧ v = vi k) (et_test (ev_op (ev_var rfl) ev_c (rv_eq rfl))) ⟨w0, hw0, rfl⟩ rfl (fun _ H8 e8 => ep_ev (ev_var rfl) fun _ _ => ⟨b, hb, rfl⟩) fun v1 H8 e8 ⟨w1, hw1, hv1⟩ => ?_
      subst hv1
      have sumE : ∀ (v : Option V) H9, Ex H7 H9 → Ev (tCB (rSumT K) (tCons (tVar 6) tNil)) [some (.ref p), some (vi m), some (vi n), some (vi wy), some (vi b), some (.ref fo), some (.ref xa), v] H9 (vi row.sum) := fun v H9 e9 => ep_sumT (P := fun v H' => Nats K H' v row) (ep_ev (ev_var rfl) fun H1 e => ⟨xa, rfl, ex_t (e9.trans e) hxa7⟩) (fun _ _ h => h)
      show tSeq _ _ _ [some (.ref p), some (vi m), some (vi n), some (vi wy), some (vi b), some (.ref fo), some (.ref xa), some (vi w1)] H8
      refine q_mayset (C := fun v => ∃ k, k < n ∧ v = vi k) (et_test (ev_op (ev_var rfl) ev_c (rv_eq rfl))) ⟨w1, hw1, rfl⟩ rfl (fun _ H9 e9 => ep_ev (ev_modM (ev_addM (sumE _ H9 (e8.trans e9)) (ev_var rfl)) (ev_var rfl) n1) fun _ _ => ⟨_, Nat.mod_lt _ n1, rfl⟩) fun v2 H9 e9 ⟨w2, hw2, hv2⟩ => ?_
      subst hv2
      show tSeq _ _ _ [some (.ref p), some (vi m), some (vi n), some (vi wy), some (vi b), some (.ref fo), some (.ref xa), some (vi w2)] H9
      have e79 := e8.trans e9
      refine q_mayset (C := fun v => ∃ k, k < n ∧ v = vi k) (et_test (ev_op (ev_var rfl) ev_c (rv_eq rfl))) ⟨w2, hw2, rfl⟩ rfl (fun _ Ha ea => (ep_maxT (K := K) (ns := 0 :: row) (tv_nats (tv_is (tv_cat (tv_tup (xs := [vi 0]) (ea_cons ev_c ea_nil) (by show 1 ≤ 100000; decide)) (tv_ev (ev_var rfl) (ex_t (e79.trans ea) hxa7)) (by rw [List.length_map, lr]; show 1 + m ≤ 100000; omega)) rfl)) (by simp)).imp fun v H' _ ⟨k, hk, hv⟩ => ⟨k, mem_low n1 rl k hk, hv⟩) fun v3 Ha ea ⟨w3, hw3, hv3⟩ => ?_
      subst hv3
      show tSeq _ _ _ [some (.ref p), some (vi m), some (vi n), some (vi wy), some (vi b), some (.ref fo), some (.ref xa), some (vi w3)] Ha
      have e7a := e79.trans ea
      refine q_mayset (C := fun v => ∃ k, k < n ∧ v = vi k) (et_test (ev_op (ev_var rfl) ev_c (rv_eq rfl))) ⟨w3, hw3, rfl⟩ rfl (fun _ Hb eb => (ep_minT (K := K) (ns := (n - 1) :: row) (tv_nats (tv_is (tv_cat (tv_tup (xs := [vi (n - 1)]) (ea_cons (ev_subM (b := 1) (ev_var rfl) ev_c n1) ea_nil) (by show 1 ≤ 100000; decide)) (tv_ev (ev_var rfl) (ex_t (e7a.trans eb) hxa7)) (by rw [List.length_map, lr]; show 1 + m ≤ 100000; omega)) rfl)) (by simp)).imp fun v H' _ ⟨k, hk, hv⟩ => ⟨k, mem_low (by omega) rl k hk, hv⟩) fun v4 Hb eb ⟨w4, hw4, hv4⟩ => ?_
      subst hv4
      show tSeq _ _ _ [some (.ref p), some (vi m), some (vi n), some (vi wy), some (vi b), some (.ref fo), some (.ref xa), some (vi w4)] Hb
      have e7b := e7a.trans eb
      refine q_mayset (C := fun v => ∃ k, k < n ∧ v = vi k) (et_and (et_test (ev_op (ev_var rfl) ev_c (rv_eq rfl))) (fun _ => et_test (ev_op (ev_var rfl) ev_c rv_I0))) ⟨w4, hw4, rfl⟩ rfl (fun hbb Hc ec => ?_) fun v5 Hc ec ⟨w5, hw5, hv5⟩ => ?_
      · rw [Bool.and_eq_true] at hbb
        have m0 : 0 < m := by
          have := of_decide_eq_true hbb.2
          omega
        have ne : row ≠ [] := fun z => by rw [z] at lr; have : (0 : Nat) = m := lr; omega
        have eL : row.map vi = (row.dropLast.map vi) ++ [vi (row.getLast ne)] := by
          conv => lhs; rw [← List.dropLast_concat_getLast ne, List.map_append]
          rfl
        exact ep_ev (ev_op (ev_var rfl) (ev_un ev_c ru_neg) (rv_ixT (K := K) (ex_t (e7b.trans ec) hxa7) (by rw [eL]; exact atI_last _ _))) fun _ _ => ⟨_, rl _ (List.getLast_mem ne), rfl⟩
      subst hv5
      show tSeq _ _ _ [some (.ref p), some (vi m), some (vi n), some (vi wy), some (vi b), some (.ref fo), some (.ref xa), some (vi w5)] Hc
      have e7c := e7b.trans ec
      refine q_mayset (C := fun v => ∃ k, k < n ∧ v = vi k) (et_test (ev_op (ev_var rfl) ev_c (rv_eq rfl))) ⟨w5, hw5, rfl⟩ rfl (fun _ Hd ed => ep_ev (ev_modM (ev_addM (ev_mulM (a := 2) ev_c (sumE _ Hd (e7c.trans ed)) (by decide)) (ev_var rfl)) (ev_var rfl) n1) fun _ _ => ⟨_, Nat.mod_lt _ n1, rfl⟩) fun v6 Hd ed ⟨w6, hw6, hv6⟩ => ?_
      subst hv6
      show tDrop _ _ [some (.ref p), some (vi m), some (vi n), some (vi wy), some (vi b), some (.ref fo), some (.ref xa), some (vi w6)] Hd
      have e7d := e7c.trans ed
      have fo7 := o7 _ _ fp fc hks
      refine s_app (e7d _ _ fo7) (ev_var rfl) (ev_var rfl) (by rw [List.length_map]; omega) fun He ee => ?_
      have e7e := e7d.trans ee
      have o6e : Off H6 He p c := o7.trans (.of_ex e7e)
      have et : ET K He (upd He fo (.lst (ks.map vi ++ [vi w6]))) := ET.refl.upd (e7e _ _ fo7)
      refine ⟨(o6.trans o6e).upd nfoH, (pu7.ex e7e).upd fp fc, by rw [upd_ne raf]; exact o6e _ _ rp rc hr6, ⟨ks ++ [w6], by rw [upd_same, List.map_append]; rfl, by rw [List.length_append, lks]; rfl, fun k hk => ?_⟩, paired_imp (fun _ _ z => z.et ((o6e.et pu6).trans et)) pr6, _, _, rfl⟩
      rcases List.mem_append.mp hk with z | z
      · exact low k z
      · rw [List.mem_singleton.mp z]; exact hw6
    · subst hσ
      refine s_retU (eu_tupL (K := K) (ev_var rfl) (sq_of hks)) fun r H7 nr e7 hr7 => q _ ks _ H7 (o6.trans (.of_ex e7)) (pu6.ex e7) (by rw [lrv]; omega) ⟨r, rfl, st_of hr7⟩ (tab_of (by rw [lks, lrv]) low)
/-! ### a model drawn -/
def sp_model (K : PySem.W.Frag) : Sp := fun vs H Q _ => ∃ (p c : Addr) (t n : Nat) (u : V) (sg : List (Str × Nat)), vs = [.ref p, u, vi n] ∧ Pur H p c t ∧ t ≤ 70000 ∧ 1 ≤ n ∧ n ≤ 6 ∧ Sig K H u sg ∧ SigOk sg ∧ ∀ v ts t' H', Off H H' p c → Pur H' p c t' → t' ≤ t + 400 → Mdl K H' v n ts → MdlOk sg n ts → Q v H'
theorem c_model (T : Txt mg) (D : Df K mg "_law_model" s_mdl ["_law_purse_here", "_law_signature_here", "_law_size"]) (c_table : Cl P w K mg base 2 "_law_table" (sp_table K)) : Cl P w K mg base 3 "_law_model" (sp_model K) := by
  refine cl_of (k := 2) D sc_mdl (fun vs H Q E h => ?_) (fun f cdv A outer s H vs Q E hr h => ?_)
  · obtain ⟨p, c, t, n, u, sg, rfl, _⟩ := h
    rfl
  · obtain ⟨p, c, t, n, u, sg, rfl, pu, t1, n1, n6, hG, sok, q⟩ := h
    refine ⟨_, (pss_one (ps_ret (pe_tup (pa_cons (pv 2) (pa_cons (pe_callTy call_tuple_of (by rfl) T.z_tuple (by decide +kernel) (pa_cons (pe_lc (own := [("_law_name", 3), ("_law_many", 4)]) (g := (gTup _ 2 (gCons (gName 3) (gCons (gName 4) gNil)))) (by rfl) sc_mdl.nd (pi_tup (pv 1)) (blkOk_by (own := [("_law_name", 3), ("_law_many", 4)]) (N := ["_law_purse_here", "_law_signature_here", "_law_size", "_law_name", "_law_many"]) (sc := (defScope s_mdl)) (by decide +kernel)) (fun _ _ _ _ _ => (pg_tup (by rfl) (pgs_cons (pg_name (i := 3) sc_mdl.nd rfl (.inl rfl)) (pgs_cons (pg_name (i := 4) sc_mdl.nd rfl (.inl rfl)) pgs_nil)))) (fun _ _ _ _ _ => pts_nil) (fun _ _ _ _ _ => (pe_cl c_table hr (by first | decide | omega) (by rfl) (pa_cons (pv 0) (pa_cons (pv 4) (pa_cons (pv 2) pa_nil)))))) pa_nil)) pa_nil))))), ?_⟩
    obtain ⟨a, us, rfl, hS, hP⟩ := id hG
    have lS : us.length = sg.length := paired_len hP
    have l4 := sok.l4
    refine do_ret (do_tup (do_cons (do_ev (ev_var rfl) fun H1 e1 => do_cons (do_cb (do_cons ?_)))))
    have hS1 : SqT K H1 a us := ex_t e1 hS
    have pu1 := pu.ex e1
    refine do_lcIt walk_tup (fun R r => w_tup (K := K) (ev_var rfl) hS1 H1 (Ex.refl _) R r) (fun Dl i H' => H1 Dl = none ∧ Off H1 H' p c ∧ (∃ t', Pur H' p c t' ∧ t' ≤ t + 100 * i) ∧ ∃ ws ts, H' Dl = some (.lst ws) ∧ Paired (Nats K H') ws ts ∧ ts.length = i ∧ ∀ (j : Nat) d tb, sg[j]? = some d → ts[j]? = some tb → Tab n d.2 tb)
      (fun Dl H2 e2 nD => ⟨fresh_back e2 nD, .of_ex (e2.trans (Ex.new nD)), ⟨t, pu1.ex (e2.trans (Ex.new nD)), by omega⟩, [], [], upd_same, .nil, rfl, fun j d tb _ h2 => by rw [List.getElem?_nil] at h2; cases h2⟩) (fun Dl i H' _ ⟨_, o, _⟩ => o.et pu1 _ _ hS1) (fun Dl i x H2 H3 hi ⟨nD, o2, ⟨t', pu2, lt'⟩, ws, ts, hws, pws, lts, tabs⟩ y => ?_) (fun Dl H2 ⟨nD, o2, ⟨t', pu2, lt'⟩, ws, ts, hws, pws, lts, tabs⟩ => ?_)
    · obtain ⟨rfl, hx⟩ := y
      have hi2 : i < sg.length := by rw [← lS]; exact hi
      obtain ⟨x', ex', b, hb, db⟩ := paired_get hP (List.getElem?_eq_getElem hi2)
      have : x' = x := Option.some.inj (ex'.symm.trans hx)
      subst this
      subst hb
      obtain ⟨Dp1, Dc1⟩ := pu1.fresh nD
      have db3 : SqT K H3 b [.str sg[i].1, vi sg[i].2] := o2.et pu1 _ _ (ex_t e1 db)
      refine ⟨b, _, rfl, db3, rfl, _, _, rfl, _, _, rfl, rfl, rfl, iteT ?_⟩
      refine ea_cons (ev_var rfl) (ea_cons (ev_var rfl) (ea_cons (ev_var rfl) ea_nil)) H3 (Ex.refl H3) _ fun H4 e4 => ⟨p, c, t', n, sg[i].2, rfl, pu2.ex e4, by omega, n1, n6, sok.pl _ (List.getElem_mem hi2), fun v tb t2 H5 o5 pu5 l5 nt tt => ?_⟩
      have o35 : Off H3 H5 p c := (Off.of_ex e4).trans o5
      have hws5 : H5 Dl = some (.lst ws) := o35 _ _ Dp1 Dc1 hws
      have lw : ws.length = i := by rw [paired_len pws, lts]
      have et : ET K H5 (upd H5 Dl (.lst (ws ++ [v]))) := ET.refl.upd hws5
      refine ⟨ws, hws5, sz_lt (by omega), nD, (o2.trans o35).upd nD, ⟨t2, pu5.upd Dp1 Dc1, by omega⟩, ws ++ [v], ts ++ [tb], upd_same, paired_snoc (nt.et et) (paired_imp (fun _ _ z => z.et ((o35.et pu2).trans et)) pws), by rw [List.length_append, lts]; rfl, fun j d tb' h1 h2 => ?_⟩
      by_cases hj : j < ts.length
      · rw [List.getElem?_append_left hj] at h2
        exact tabs j d tb' h1 h2
      · have hj2 : j < (ts ++ [tb]).length := (List.getElem?_eq_some_iff.mp h2).1
        rw [List.length_append, List.length_singleton] at hj2
        have ej : j = ts.length := by omega
        subst ej
        rw [List.getElem?_append_right (Nat.le_refl _), Nat.sub_self] at h2
        cases Option.some.inj h2
        rw [lts, List.getElem?_eq_getElem hi2] at h1
        cases Option.some.inj h1
        exact tt
    · refine ⟨Dl, ws, rfl, .inl ⟨sq_of hws, fun r nr => ⟨by show 2 ≤ sizeLine; decide, fun m nm => ?_⟩⟩⟩
      have e24 : Ex H2 (upd (upd H2 r (.tup ws)) m (.tup [vi n, .ref r])) := (Ex.new nr).trans (Ex.new nm)
      refine q _ ts t' _ (((Off.of_ex e1).trans o2).trans (.of_ex e24)) (pu2.ex e24) (by omega) ⟨m, .ref r, rfl, st_of upd_same, r, ws, rfl, st_of (Ex.new nm _ _ upd_same), paired_imp (fun _ _ z => z.ex e24) pws⟩ ?_
      exact { len := by rw [lts, lS], n1 := n1, n6 := n6, tab := fun i h1 h2 => tabs i _ _ (List.getElem?_eq_getElem h1) (List.getElem?_eq_getElem h2) }
end
end K72
end
section
namespace K72
open PySem PySem.Spec PyProof.Rows L2 Evl RZ Dw M20 M25 CL
section
variable {P : Program} {w : World} {K : PySem.W.Frag} {mg : Str → Option Value} {base : Heap}
/-! ### what a cell comes to -/
def sp_did (K : PySem.W.Frag) : Sp := spX (fun (p : MArg × (Str × Nat) × Nat × List Nat) vs H => (∃ u v x, vs = [u, v, .str p.2.1.1, x] ∧ MA K H u v p.1 ∧ Nats K H x p.2.2.2) ∧ MOk p.1 ∧ p.1.1[p.2.2.1]? = some p.2.1 ∧ p.2.2.2.length = p.2.1.2 ∧ ∀ k ∈ p.2.2.2, k < p.1.2.1)
  (fun p v _ => v = vi (g (p.1.2.2.getD p.2.2.1 []) (plc p.1.2.1 p.2.2.2)))
theorem c_did (T : Txt mg) (D : Df K mg "_law_did" s_did ["_law_signature_here", "_law_model_here", "_law_name", "_law_args"]) : Cl P w K mg base 1 "_law_did" (sp_did K) := by
  refine cl_of (k := 0) D sc_did (fun vs H Q E h => ?_) (fun f cdv A outer s H vs Q E hr h => ?_)
  · obtain ⟨p, ⟨⟨u, v, x, rfl, _⟩, _⟩, _⟩ := h
    rfl
  · obtain ⟨⟨⟨sg, n, ts⟩, d, i, r⟩, ⟨⟨u, v, x, rfl, ⟨hG, hM⟩, hx⟩, ok, hi, lr, low⟩, q⟩ := h
    refine ⟨_, (pss_cons (ps_asg (pv 1) (pg_tup (by rfl) (pgs_cons (pg_name (i := 4) sc_did.nd rfl (.inl rfl)) (pgs_cons (pg_name (i := 5) sc_did.nd rfl (.inl rfl)) pgs_nil))))
      (pss_cons (ps_set (i := 6) sc_did.nd rfl (.inl rfl) (pe_bm PySem.F.plainAttrs_list PySem.F.slot_list_index PySem.F.type_list_index mt_index (pe_lc (own := [("_law_word", 9), ("_law_many", 10)]) (g := (gTup _ 2 (gCons (gName 9) (gCons (gName 10) gNil)))) (by rfl) sc_did.nd (pi_tup (pv 0)) (blkOk_by (own := [("_law_word", 9), ("_law_many", 10)]) (N := ["_law_signature_here", "_law_model_here", "_law_name", "_law_args", "_law_size", "_law_tables_here", "_law_k", "_law_at", "_law_arg", "_law_word", "_law_many"]) (sc := (defScope s_did)) (by decide +kernel)) (fun _ _ _ _ _ => (pg_tup (by rfl) (pgs_cons (pg_name (i := 9) sc_did.nd rfl (.inl rfl)) (pgs_cons (pg_name (i := 10) sc_did.nd rfl (.inl rfl)) pgs_nil)))) (fun _ _ _ _ _ => pts_nil) (fun _ _ _ _ _ => (pv 9))) (pa_cons (pv 2) pa_nil)))
      (pss_cons (ps_set (i := 7) sc_did.nd rfl (.inl rfl) pe_int)
      (pss_cons (ps_for PassesOwn.never (by rfl) (pi_tup (pv 3)) (pg_name (i := 8) sc_did.nd rfl (.inl rfl))
        (pss_one (ps_set (i := 7) sc_did.nd rfl (.inl rfl) (pe_op op_add (pe_op op_mul (pv 7) (pv 4)) (pv 8)))))
      (pss_one (ps_ret (pe_ix ix_tup (pe_ix ix_tup (pv 5) (pv 6) (fun _ _ => rfl)) (pv 7) (fun _ _ => rfl)))))))), ?_⟩
    replace ok : MOk (sg, n, ts) := ok
    replace hi : sg[i]? = some d := hi
    replace lr : r.length = d.2 := lr
    replace low : ∀ k ∈ r, k < n := low
    have sok : SigOk sg := ok.1
    have mok : MdlOk sg n ts := ok.2
    have n6 : n ≤ 6 := mok.n6
    obtain ⟨il, ed⟩ := List.getElem?_eq_some_iff.mp hi
    have il2 : i < ts.length := by rw [mok.len]; exact il
    have p2 := sok.pl d (List.mem_iff_getElem?.mpr ⟨i, hi⟩)
    obtain ⟨a, us, rfl, hS, hP⟩ := id hG
    obtain ⟨z, tv, rfl, hZ, hT⟩ := id hM
    obtain ⟨b, tvs, rfl, hB, hR⟩ := id hT
    obtain ⟨xa, rfl, hxa⟩ := id hx
    replace hZ : SqT K H z [vi n, .ref b] := hZ
    replace hP : Paired (Deed K H) us sg := hP
    replace hR : Paired (Nats K H) tvs ts := hR
    replace hxa : SqT K H xa (r.map vi) := hxa
    have lS : us.length = sg.length := paired_len hP
    have l4 := sok.l4
    refine ⟨.ref z, rfl, z, _, rfl, hZ, rfl, _, _, rfl, _, _, rfl, rfl, ?_⟩
    have names : ∀ H1, Ex H H1 → EvL (tLc (iTup K (tVar 0)) (gTup K 2 (gCons (gName 9) (gCons (gName 10) gNil))) tYes (tVar 9) [9, 10]) [some (.ref a), some (.ref z), some (.str d.1), some (.ref xa), some (vi n), some (.ref b), none, none, none, none, none] H1 ((sg.map (·.1)).map V.str) := fun H1 e1 H2 e2 Q' q' => by
      refine (elp_lcTg (K := K) (ev_var rfl) (ex_t (e1.trans e2) hS) (by omega) (fun _ => true) (fun v i _ => v = .str ((sg.map (·.1)).getD i "")) (fun _ _ _ _ _ z => z) (fun j y H3 e3 hy Φ kk => ?_)) H2 (Ex.refl _) _ fun l ws H3 nl e3 hl pw => q' l H3 nl e3 ?_
      · obtain ⟨dd, hdd, c, rfl, hc⟩ := paired_at hP hy
        refine ⟨c, _, rfl, ex_t ((e1.trans e2).trans e3) hc, rfl, _, _, rfl, _, _, rfl, rfl, kk _ rfl et_yes fun _ => ep_ev (ev_var rfl) fun _ _ => ?_⟩
        rw [List.getD_eq_getElem?_getD, List.getElem?_map, hdd]
        rfl
      · rw [range_all] at pw
        rw [hl, paired_eqs pw]
        congr 2
        apply List.ext_getElem?
        intro j
        rw [lS]
        by_cases hj : j < sg.length
        · rw [List.getElem?_map, List.getElem?_range hj, List.getElem?_map, List.getElem?_map, List.getElem?_eq_getElem hj]
          show some (V.str ((sg.map _).getD j "")) = _
          rw [List.getD_eq_getElem?_getD, List.getElem?_map, List.getElem?_eq_getElem hj]
          rfl
        · rw [List.getElem?_eq_none_iff.mpr (by simp; omega), List.getElem?_eq_none_iff.mpr (by simp; omega)]
    have mem : d.1 ∈ sg.map (·.1) := List.mem_map.mpr ⟨d, List.mem_iff_getElem?.mpr ⟨i, hi⟩, rfl⟩
    have idx : (sg.map (·.1)).idxOf d.1 = i := by
      have h1 : (sg.map (·.1))[i]? = some d.1 := by rw [List.getElem?_map, hi]; rfl
      have h2 := List.getElem_idxOf (List.idxOf_lt_length_iff.mpr mem)
      obtain ⟨h3, h4⟩ := List.getElem?_eq_some_iff.mp h1
      exact (List.getElem_inj sok.nd).mp (h2.trans h4.symm)
    refine q_asg (v := vi i) (ev_is (ev_sindex (K := K) (names H (Ex.refl _)) (ev_var rfl) mem) (by rw [idx])) fun H1 e1 => ?_
    refine q_asg (v := vi 0) ev_c fun H2 e2 => ?_
    have e02 := e1.trans e2
    refine q_forT (K := K) (ev_var rfl) (ex_t e02 hxa) (fun j σ H' => Ex H H' ∧ ∃ y, σ = [some (.ref a), some (.ref z), some (.str d.1), some (.ref xa), some (vi n), some (.ref b), some (vi i), some (vi (plc n (r.take j))), y, none, none]) (fun H3 e3 => ⟨e02.trans e3, none, rfl⟩) (fun j σ' H' _ ⟨e, _⟩ => ex_t e hxa) (fun j y σ' H3 hy ⟨e3, y8, hσ⟩ => ?_) (fun σ' H3 ⟨e3, y8, hσ⟩ => ?_)
    · subst hσ
      rw [List.getElem?_map] at hy
      cases hk : r[j]? with
      | none => rw [hk] at hy; cases hy
      | some k =>
      rw [hk] at hy
      cases Option.some.inj hy
      have small : plc n (r.take j) ≤ 1000 := by
        have a := plc_low (n := n) (ns := r.take j) (fun k h => low k (List.mem_of_mem_take h)) (by rw [List.length_take]; omega)
        have b := pow_36 (p := (r.take j).length) n6 (by rw [List.length_take]; omega)
        omega
      refine s_asg (v := vi (plc n (r.take (j + 1)))) (ev_is (ev_addN (ev_mulN (ev_var rfl) (ev_var rfl) small (by omega)) (ev_var rfl)) (by rw [plc_take hk])) fun H4 e4 => ⟨e3.trans e4, _, rfl⟩
    · subst hσ
      rw [List.length_map, List.take_length]
      have pl := plc_low low (by rw [lr]; exact p2)
      rw [lr] at pl
      have tb := mok.tab i il il2
      obtain ⟨t', et', ta, rfl, hta⟩ := paired_get hR (List.getElem?_eq_getElem il2)
      have egd : ts.getD i [] = ts[i] := by rw [List.getD_eq_getElem?_getD, List.getElem?_eq_getElem il2]; rfl
      refine s_ret (ev_op (ev_op (ev_var rfl) (ev_var rfl) (rv_ixT (K := K) (ex_t e3 hB) (atI_vi (k := i) et'))) (ev_var rfl) (rv_ixT (K := K) (ex_t e3 hta) (atI_vi (k := plc n r) (v := vi (g ts[i] (plc n r))) (by rw [List.getElem?_map, g_eq (show plc n r < ts[i].length by rw [tb.len, ed]; exact pl)]; rfl)))) fun H4 e4 => q _ H4 (e3.trans e4) ?_
      show _ = vi (g (ts.getD i []) (plc n r))
      rw [egd]
/-! ### all cells of a signature -/
def allc (n : Nat) (sg : List (Str × Nat)) : List (Str × List Nat) := sg.flatMap fun d => (rows n d.2).map fun r => (d.1, r)
abbrev Fnd := Int × Nat × Str × List Nat
def FndV (K : PySem.W.Frag) (v : V) (c : Fnd) (H : Hp) : Prop := ∃ b x, v = .ref b ∧ SqT K H b [.int c.1, vi c.2.1, x, .str c.2.2.1] ∧ Nats K H x c.2.2.2
theorem FndV.et {v : V} {c : Fnd} {H H' : Hp} (e : ET K H H') (h : FndV K v c H) : FndV K v c H' := let ⟨b, x, q, s, n⟩ := h; ⟨b, x, q, e _ _ s, n.et e⟩
def dF (c : Fnd) : PyData := .tuple [.int c.1, .int (c.2.1 : Int), dN c.2.2.2, .str c.2.2.1]
theorem FndV.dp {v : V} {c : Fnd} {H : Hp} (h : FndV K v c H) : Dp K H v (dF c) := let ⟨b, x, q, s, n⟩ := h; by
  subst q
  exact .tup s (.cons (.int _) (.cons (.int _) (.cons n.dp (.cons (.str _) .nil))))
def ArgV (K : PySem.W.Frag) (H : Hp) (v : V) (c : Str × List Nat) : Prop := ∃ b x, v = .ref b ∧ SqT K H b [.str c.1, x] ∧ Nats K H x c.2
theorem ArgV.et {v : V} {c : Str × List Nat} {H H' : Hp} (e : ET K H H') (h : ArgV K H v c) : ArgV K H' v c := let ⟨b, x, q, s, n⟩ := h; ⟨b, x, q, e _ _ s, n.et e⟩
def sp_lcells (K : PySem.W.Frag) : Sp := fun vs H Q _ => ∃ (sg : List (Str × Nat)) (n : Nat) (u : V), vs = [u, vi n] ∧ Sig K H u sg ∧ SigOk sg ∧ n ≤ 6 ∧ ∀ a cs vs' H', Ex H H' → H a = none → H' a = some (.lst vs') → Paired (ArgV K H') vs' cs → cs.Perm (allc n sg) → Q (.ref a) H'
theorem allc_few {n : Nat} {sg : List (Str × Nat)} (n6 : n ≤ 6) (so : SigOk sg) (i : Nat) : (allc n (sg.take i)).length ≤ 144 := by
  have one : ∀ l : List (Str × Nat), (∀ d ∈ l, d.2 ≤ 2) → (allc n l).length ≤ 36 * l.length := fun l => by
    induction l with
    | nil => exact fun _ => Nat.zero_le _
    | cons d l ih =>
      intro h
      have a := ih fun x hx => h x (List.mem_cons_of_mem _ hx)
      have b := pow_36 n6 (h d (List.mem_cons_self ..))
      unfold allc at a ⊢
      rw [List.flatMap_cons, List.length_append, List.length_map, rows_len', List.length_cons]
      omega
  have a := one (sg.take i) fun d hd => so.pl d (List.mem_of_mem_take hd)
  have l4 := so.l4
  have lt : (sg.take i).length ≤ 4 := by rw [List.length_take]; omega
  exact Nat.le_trans a (Nat.mul_le_mul_left 36 lt)
end
end K72
end
section
namespace K72
open PySem PySem.Spec PyProof.Rows L2 Evl RZ Dw M20 M25 CL PySem.W
section
variable {P : Program} {w : World} {K : PySem.W.Frag} {mg : Str → Option Value} {base : Heap}
theorem low_letters {z : Str} (h : Name z) : ∀ c ∈ z.cps.toList, c < 0x110000 := fun c hc => by
  have all : ∀ c ∈ letters.cps.toList, c < 0x110000 := by decide
  exact all c (h.abc c hc)
theorem dF_al (a b : Fnd) : alike (dF a) (dF b) = true := by
  have e : ∀ l : List Nat, dN l = .tuple ((ia l).map .int) := fun l => by
    unfold dN ia
    rw [List.map_map]
    rfl
  unfold dF
  rw [e, e]
  simp [alike, alikeAll, alike_ints]
theorem dF_dep (a : Fnd) : (dF a).depth ≤ 40 := by
  have : ∀ l : List Nat, PyData.depthAll (l.map fun n => PyData.int ((n : Nat) : Int)) ≤ 0 := fun l => by
    induction l with
    | nil => simp [PyData.depthAll]
    | cons x l ih =>
      rw [List.map_cons, PyData.depthAll, PyData.depth]
      omega
  have h := this a.2.2.2
  unfold dF dN
  simp only [PyData.depth, PyData.depthAll]
  omega
theorem c_cells (T : Txt mg) (D : Df K mg "_law_cells" s_cells ["_law_signature_here", "_law_size"]) (c_ways : Cl P w K mg base 1 "_law_ways" (sp_ways K)) : Cl P w K mg base 2 "_law_cells" (sp_lcells K) := by
  refine cl_of (k := 1) D sc_cells (fun vs H Q E h => ?_) (fun f cdv A outer s H vs Q E hr h => ?_)
  · obtain ⟨sg, n, u, rfl, _⟩ := h
    rfl
  · obtain ⟨sg, n, u, rfl, hG, sok, n6, q⟩ := h
    refine ⟨_, (pss_cons (ps_set (i := 2) sc_cells.nd rfl (.inl rfl) (pe_lst pa_nil))
      (pss_cons (ps_for PassesOwn.never (by rfl) (pi_enumT (by rfl) T.z_enumerate (pa_cons (pv 0) pa_nil)) (pg_tup (by rfl) (pgs_cons (pg_name (i := 3) sc_cells.nd rfl (.inl rfl)) (pgs_cons (pg_tup (by rfl) (pgs_cons (pg_name (i := 4) sc_cells.nd rfl (.inl rfl)) (pgs_cons (pg_name (i := 5) sc_cells.nd rfl (.inl rfl)) pgs_nil))) pgs_nil)))
        (pss_one (ps_for PassesOwn.never (by rfl) (pi_list (pe_cl c_ways hr (by first | decide | omega) (by rfl) (pa_cons (pv 5) (pa_cons (pv 1) pa_nil)))) (pg_name (i := 6) sc_cells.nd rfl (.inl rfl))
          (pss_one (ps_expr (pe_bm PySem.F.plainAttrs_list PySem.F.slot_list_append PySem.F.type_list_append mt_append (pv 2) (pa_cons (pe_tup (pa_cons (pe_callB (cr_maxT rfl hr) (by rfl) T.z_max (by decide +kernel) (pa_cons (pe_op op_catA (pe_tup (pa_cons (pe_un un_neg pe_int) pa_nil)) (pv 6)) pa_nil)) (pa_cons (pv 3) (pa_cons (pv 6) (pa_cons (pv 4) pa_nil))))) pa_nil)))))))
      (pss_one (ps_ret (pe_lc (own := [("_law_greatest", 7), ("_law_k", 3), ("_law_args", 6), ("_law_name", 4)]) (g := (gTup _ 4 (gCons (gName 7) (gCons (gName 3) (gCons (gName 6) (gCons (gName 4) gNil)))))) (by rfl) sc_cells.nd (pi_list (pe_callB (cr_sortD hr) (by rfl) T.z_sorted (by decide +kernel) (pa_cons (pv 2) pa_nil))) (blkOk_by (own := [("_law_greatest", 7), ("_law_k", 3), ("_law_args", 6), ("_law_name", 4)]) (N := ["_law_signature_here", "_law_size", "_law_found", "_law_k", "_law_name", "_law_many", "_law_args", "_law_greatest"]) (sc := (defScope s_cells)) (by decide +kernel)) (fun _ _ _ _ _ => (pg_tup (by rfl) (pgs_cons (pg_name (i := 7) sc_cells.nd rfl (.inl rfl)) (pgs_cons (pg_name (i := 3) sc_cells.nd rfl (.inl rfl)) (pgs_cons (pg_name (i := 6) sc_cells.nd rfl (.inl rfl)) (pgs_cons (pg_name (i := 4) sc_cells.nd rfl (.inl rfl)) pgs_nil)))))) (fun _ _ _ _ _ => pts_nil) (fun _ _ _ _ _ => (pe_tup (pa_cons (pv 4) (pa_cons (pv 6) pa_nil))))))))), ?_⟩
    obtain ⟨a, us, rfl, hS, hP⟩ := id hG
    have lS : us.length = sg.length := paired_len hP
    refine q_asgL (el_lst ea_nil (Nat.zero_le _)) fun m H1 nm e1 hm => ?_
    refine q_enumTs (ea_cons (ev_var rfl) ea_nil H1 (Ex.refl _) _ fun H2 e2 => ⟨a, us, rfl, ex_t (e1.trans e2) hS, ?_⟩)
    have e02 := e1.trans e2
    refine qloops_enumT (K := K) (fun i σ H' => Ex H H' ∧ (∃ ws L, H' m = some (.lst ws) ∧ Paired (fun v c => FndV K v c H') ws L ∧ L.map (fun c : Fnd => (c.2.2.1, c.2.2.2)) = allc n (sg.take i)) ∧ ∃ y3 y4 y5 y6, σ = [some (.ref a), some (vi n), some (.ref m), y3, y4, y5, y6, none])
      ⟨e02, ⟨[], [], e2 _ _ hm, .nil, rfl⟩, none, none, none, none, rfl⟩ (fun i σ' H' _ ⟨e, _⟩ => ex_t e hS) (fun i x t σ' H3 hx ⟨e3, ⟨ws, L, hws, pw, hL⟩, y3, y4, y5, y6, hσ⟩ nt => ?_) (fun σ' H3 ⟨e3, ⟨ws, L, hws, pw, hL⟩, y3, y4, y5, y6, hσ⟩ => ?_)
    · subst hσ
      obtain ⟨d, hd, b, rfl, hb⟩ := paired_at hP hx
      have mem := List.mem_iff_getElem?.mpr ⟨i, hd⟩
      have p2 := sok.pl d mem
      have nx : Ex H3 (upd H3 t (.tup [vi i, .ref b])) := Ex.new nt
      have e03 := e3.trans nx
      refine ⟨t, _, rfl, st_of upd_same, rfl, _, _, rfl, _, _, rfl, ⟨b, _, rfl, ex_t e03 hb, rfl, _, _, rfl, _, _, rfl, rfl, rfl, ?_⟩⟩
      refine s_forLs (ea_cons (ev_var rfl) (ea_cons (ev_var rfl) ea_nil) _ (Ex.refl _) _ fun H4 e4 => ⟨(n, d.2), ⟨rfl, n6, by show d.2 ≤ 4; omega⟩, fun v H5 e5 ⟨ra, rvs, hra, hrl, prs⟩ nra => ⟨ra, hra, ⟨rvs, sq_of hrl⟩, ?_⟩⟩)
      subst hra
      replace prs : Paired (Nats K H5) rvs (rows n d.2) := prs
      have lrv := paired_len prs
      rw [rows_len'] at lrv
      have big := pow_36 n6 p2
      have e35 := (nx.trans e4).trans e5
      have ram : ra ≠ m := fun zz => by have := nra _ rfl; rw [zz, (nx.trans e4) _ _ hws] at this; cases this
      have lL := paired_len pw
      have fw := allc_few n6 sok i
      rw [← hL, List.length_map] at fw
      refine loops_list (K := K) (xs := rvs) (fun j σ H' => Ex H H' ∧ H' ra = some (.lst rvs) ∧ Paired (Nats K H') rvs (rows n d.2) ∧ (∃ ws2 L2, H' m = some (.lst ws2) ∧ Paired (fun v c => FndV K v c H') ws2 L2 ∧ ws2.length = ws.length + j ∧ L2.map (fun c : Fnd => (c.2.2.1, c.2.2.2)) = allc n (sg.take i) ++ ((rows n d.2).take j).map fun r => (d.1, r)) ∧ ∃ y6, σ = [some (.ref a), some (vi n), some (.ref m), some (vi i), some (.str d.1), some (vi d.2), y6, none])
        ⟨e03.trans (e4.trans e5), hrl, prs, ⟨ws, L, e35 _ _ hws, paired_imp (fun _ _ z => FndV.et (Dw.Ex.et e35) z) pw, rfl, by rw [hL, List.take_zero]; simp⟩, _, rfl⟩ (fun j σ' H' _ ⟨_, hr, _⟩ => sq_of hr) (fun j y σ' H6 hy ⟨e6, hr6, pr6, ⟨ws2, L2, hw2, pw2, lw2, hL2⟩, y6', hσ⟩ => ?_) (fun σ' H6 ⟨e6, hr6, pr6, ⟨ws2, L2, hw2, pw2, lw2, hL2⟩, y6', hσ⟩ => ?_)
      · subst hσ
        obtain ⟨row, hrow, xa, rfl, hxa⟩ := paired_at pr6 hy
        have hj := (List.getElem?_eq_some_iff.mp hy).1
        obtain ⟨lr, rl⟩ := rows_of (List.mem_iff_getElem?.mpr ⟨j, hrow⟩)
        have mx : ∀ H7, Ex H6 H7 → EvP (tCB (rMaxT K) (tCons (tOp (rCatA K) (tTup (tCons (tUn (rU fun i => .int (-i)) (tC (.int 1))) tNil)) (tVar 6)) tNil)) [some (.ref a), some (vi n), some (.ref m), some (vi i), some (.str d.1), some (vi d.2), some (.ref xa), none] H7 (fun v _ => ∃ k : Int, v = .int k) := fun H7 e7 => by
          refine (ep_maxI (K := K) (xs := (-1) :: row.map fun k => ((k : Nat) : Int)) (tv_is (tv_cat (tv_tup (xs := [.int (-1)]) (ea_cons (ev_un ev_c ru_neg) ea_nil) (by show 1 ≤ 100000; decide)) (tv_ev (ev_var rfl) (ex_t e7 hxa)) (by rw [List.length_map, lr]; show 1 + d.2 ≤ 100000; omega)) (by rw [List.map_cons, List.map_map]; rfl)) (by simp)).imp fun v H' _ ⟨k, _, hv⟩ => ⟨k, hv⟩
        refine do_app hw2 (ev_var rfl) fun H7 e7 => do_tup (do_cons (do_evP (mx H7 e7) fun v H8 e8 ⟨k, hk⟩ => do_cons (do_ev (ev_var rfl) fun H9 e9 => do_cons (do_ev (ev_var rfl) fun Ha ea => do_cons (do_ev (ev_var rfl) fun Hb eb => do_nil ⟨by show 4 ≤ sizeLine; decide, fun r2 nr2 => ?_⟩)))))
        subst hk
        have e6b := (e7.trans (e8.trans (e9.trans (ea.trans eb)))).trans (Ex.new (o := .tup [.int k, vi i, .ref xa, .str d.1]) nr2)
        have hm9 := e6b _ _ hw2
        have hr2 : (upd Hb r2 (.tup [.int k, vi i, .ref xa, .str d.1])) r2 = some (.tup [.int k, vi i, .ref xa, .str d.1]) := upd_same
        generalize (upd Hb r2 (.tup [.int k, vi i, .ref xa, .str d.1])) = Hc at *
        refine ⟨m, ws2, .ref r2, rfl, rfl, hm9, sz_lt (by omega), ?_⟩
        have et : ET K Hc (upd Hc m (.lst (ws2 ++ [.ref r2]))) := ET.refl.upd hm9
        refine ⟨(e6.trans e6b).mut nm, by rw [upd_ne ram]; exact e6b _ _ hr6, paired_imp (fun _ _ z => (z.ex e6b).et et) pr6, ⟨ws2 ++ [.ref r2], L2 ++ [(k, i, d.1, row)], upd_same, paired_snoc' (R := fun v c => FndV K v c (upd Hc m (.lst (ws2 ++ [.ref r2])))) (x := .ref r2) (y := (k, i, d.1, row)) ⟨r2, .ref xa, rfl, et _ _ (st_of hr2), xa, rfl, et _ _ (ex_t e6b hxa)⟩ (paired_imp (fun _ _ z => FndV.et (ET.trans (Dw.Ex.et e6b) et) z) pw2), by rw [List.length_append, lw2]; rfl, ?_⟩, _, rfl⟩
        rw [List.map_append, hL2, List.take_add_one, hrow, List.append_assoc]
        congr 1
        rw [List.map_append]
        rfl
      · subst hσ
        refine ⟨e6, ⟨ws2, L2, hw2, pw2, ?_⟩, _, _, _, _, rfl⟩
        rw [hL2, show (rows n d.2).take rvs.length = rows n d.2 from List.take_of_length_le (by rw [lrv, rows_len']; exact Nat.le_refl _), List.take_add_one, hd]
        unfold allc
        rw [List.flatMap_append]
        simp
    · subst hσ
      rw [lS, List.take_of_length_le (Nat.le_refl _)] at hL
      have fw := allc_few n6 sok sg.length
      rw [List.take_of_length_le (Nat.le_refl _), ← hL, List.length_map] at fw
      refine do_ret (lc_src (cb1_src (do_ev (ev_var rfl) fun H4 e4 => ?_)))
      refine do_sortP (K := K) (R := FndV K) (f := dF) (e4 _ _ hws) (paired_imp (fun _ _ z => FndV.et (Dw.Ex.et e4) z) pw) (fun v b h => h.dp) (AllAlike.of fun b b' => dF_al b b') (Sortable.tuples fun b => ⟨_, _, rfl⟩) (fun b _ => dF_dep b) (fun v b H1 e h => FndV.et (Dw.Ex.et e) h) fun p vs' L' H5 np e5 hp pm pv => ?_
      have lv := paired_len pv
      have lp := pm.length_eq
      refine do_elp (elp_lcLg (K := K) (ev_c) (sq_of hp) (by omega) (fun _ => true) (fun v i H' => ArgV K H' v ((L'.map (fun c : Fnd => (c.2.2.1, c.2.2.2))).getD i ("", []))) (fun v b H H' e h => ArgV.et e.et h) (fun i x H6 e6 hx Φ kk => ?_)) fun tA us2 H6 nT e6 hT pT => ?_
      · obtain ⟨c, hc, b, xa, rfl, hb, hxa⟩ := paired_at pv hx
        refine ⟨b, _, rfl, ex_t e6 hb, rfl, _, _, rfl, _, _, rfl, _, _, rfl, _, _, rfl, rfl, kk _ rfl et_yes fun _ => ?_⟩
        rw [List.getD_eq_getElem?_getD, List.getElem?_map, hc]
        exact (tv_tup (K := K) (ea_cons (ev_var rfl) (ea_cons (ev_var rfl) ea_nil)) (by show 2 ≤ 100000; decide)).imp fun v H' e7 ⟨b2, hb2, sb⟩ => ⟨b2, xa, hb2, sb, hxa.ex (e6.trans e7)⟩
      · rw [range_all] at pT
        have e46 := (e4.trans e5).trans e6
        refine q tA (L'.map (fun c : Fnd => (c.2.2.1, c.2.2.2))) us2 H6 (e3.trans e46) (fresh_back (e3.trans (e4.trans e5)) nT) hT ?_ (by rw [← hL]; exact pm.map _)
        have eqM : (List.range vs'.length).map (fun i => (L'.map (fun c : Fnd => (c.2.2.1, c.2.2.2))).getD i ("", [])) = L'.map (fun c : Fnd => (c.2.2.1, c.2.2.2)) := by
          apply List.ext_getElem?
          intro i
          rw [lv]
          by_cases hi : i < L'.length
          · rw [List.getElem?_map, List.getElem?_range hi, List.getElem?_map, List.getElem?_eq_getElem hi]
            show some ((L'.map _).getD i _) = _
            rw [List.getD_eq_getElem?_getD, List.getElem?_map, List.getElem?_eq_getElem hi]
            rfl
          · rw [List.getElem?_eq_none_iff.mpr (by simp; omega), List.getElem?_eq_none_iff.mpr (by simp; omega)]
        rw [← eqM]
        exact paired_map (S := ArgV K H6) (fun _ _ z => z) pT
/-! ### closed, as the law looks -/
end
end K72
end
section
namespace K72
open PySem PySem.Spec PyProof.Rows L2 Evl RZ Dw M20 M25 CL
section
variable {P : Program} {w : World} {K : PySem.W.Frag} {mg : Str → Option Value} {base : Heap}
theorem sig_at {p : MArg} (ok : MOk p) {c : Str × List Nat} (h : c ∈ allc p.2.1 p.1) : ∃ (i : Nat) (d : Str × Nat), p.1[i]? = some d ∧ c.1 = d.1 ∧ c.2 ∈ rows p.2.1 d.2 := by
  unfold allc at h
  obtain ⟨d, hd, hc⟩ := List.mem_flatMap.mp h
  obtain ⟨i, hi⟩ := List.mem_iff_getElem?.mp hd
  obtain ⟨r, hr, rfl⟩ := List.mem_map.mp hc
  exact ⟨i, d, hi, rfl, hr⟩
theorem sig_one {p : MArg} (ok : MOk p) {i j : Nat} {d e : Str × Nat} (hi : p.1[i]? = some d) (hj : p.1[j]? = some e) (h : d.1 = e.1) : i = j ∧ d = e := by
  obtain ⟨il, ed⟩ := List.getElem?_eq_some_iff.mp hi
  obtain ⟨jl, ee⟩ := List.getElem?_eq_some_iff.mp hj
  have : i = j := (List.getElem_inj (h₀ := by rw [List.length_map]; exact il) (h₁ := by rw [List.length_map]; exact jl) ok.1.nd).mp (by rw [List.getElem_map, List.getElem_map, ed, ee]; exact h)
  subst this
  exact ⟨rfl, by rw [← ed, ← ee]⟩
/-! ### all lists of numbers, sorted -/
end
end K72
end
section
namespace K72
open PySem PySem.Spec PyProof.Rows L2 Evl RZ Dw M20 M25 CL
section
variable {P : Program} {w : World} {K : PySem.W.Frag} {mg : Str → Option Value} {base : Heap}
/-! ### the least of them about some numbers -/
/-! ### the part, as the law makes it -/
/-! ### something put behind a list -/
end
end K72
end
section
namespace K72
open PySem PySem.Spec PyProof.Rows L2 Evl RZ Dw M20 M25 CL LD
/-! ### the table of a deed -/
def tbOf : List (Str × Nat) → List (List Nat) → Str → List Nat
  | d :: sg, tb :: tbs, f => if d.1 = f then tb else tbOf sg tbs f
  | _, _, _ => []
theorem tbOf_at : ∀ {sg : List (Str × Nat)} {tbs : List (List Nat)} {f : Str} {i : Nat} (h1 : i < sg.length) (h2 : i < tbs.length), sg[i].1 = f → (∀ j (h : j < sg.length), j < i → sg[j].1 ≠ f) → tbOf sg tbs f = tbs[i]
  | d :: sg, tb :: tbs, f, 0, _, _, e, _ => by
    rw [tbOf, if_pos (show d.1 = f from e)]
    rfl
  | d :: sg, tb :: tbs, f, i + 1, h1, h2, e, no => by
    rw [tbOf, if_neg (show ¬ d.1 = f from no 0 (Nat.zero_lt_succ _) (Nat.zero_lt_succ _))]
    exact tbOf_at (sg := sg) (tbs := tbs) (i := i) (Nat.lt_of_succ_lt_succ h1) (Nat.lt_of_succ_lt_succ h2) e fun j h lt => no (j + 1) (Nat.succ_lt_succ h) (Nat.succ_lt_succ lt)
section
variable {P : Program} {w : World} {K : PySem.W.Frag} {mg : Str → Option Value} {base : Heap}
def sp_table_of (K : PySem.W.Frag) : Sp := spX (fun (p : List (Str × Nat) × Nat × List (List Nat) × Str × Nat) vs H => (∃ u v, vs = [u, v, .str p.2.2.2.1] ∧ Sig K H u p.1 ∧ Tabs K H v p.2.2.1) ∧ p.2.2.1.length = p.1.length ∧ (p.2.2.2.1, p.2.2.2.2) ∈ p.1) (fun p v H => Nats K H v (tbOf p.1 p.2.2.1 p.2.2.2.1))
theorem c_table_of (T : Txt mg) (D : Df K mg "table_of" s_table_of ["signature", "tables", "name"]) : Cl P w K mg base 1 "table_of" (sp_table_of K) := by
  refine cl_of (k := 0) D sc_table_of (fun vs H Q E h => ?_) (fun f cdv A outer s H vs Q E hr h => ?_)
  · obtain ⟨p, ⟨⟨u, v, rfl, _⟩, _⟩, _⟩ := h
    rfl
  · obtain ⟨⟨sg, n, tbs, f, k⟩, ⟨⟨u, v, rfl, hG, hT⟩, lM, mem⟩, q⟩ := h
    refine ⟨_, (pss_cons (ps_for PassesOwn.never (by rfl) (pi_zipA (by rfl) T.z_zip (pa_cons (pv 0) (pa_cons (pv 1) pa_nil))) (pg_tup (by rfl) (pgs_cons (pg_name (i := 3) sc_table_of.nd rfl (.inl rfl)) (pgs_cons (pg_name (i := 4) sc_table_of.nd rfl (.inl rfl)) pgs_nil)))
        (pss_one (ps_if (pt_cmpR op_eq (pe_ix ix_tup (pv 3) pe_int (fun _ _ => rfl)) (pv 2) (nomark _))
          (pss_one (ps_ret (pv 4)))
          pss_nil)))
      (pss_one (ps_ret pe_non))), ?_⟩
    replace lM : tbs.length = sg.length := lM
    replace mem : (f, k) ∈ sg := mem
    obtain ⟨a, us, rfl, hS, hP⟩ := id hG
    obtain ⟨b, tvs, rfl, hB, hR⟩ := id hT
    replace hP : Paired (Deed K H) us sg := hP
    replace hR : Paired (Nats K H) tvs tbs := hR
    have lS : us.length = sg.length := paired_len hP
    have lT : tvs.length = tbs.length := paired_len hR
    refine q_zipT (ea_cons (ev_var rfl) (ea_cons (ev_var rfl) ea_nil)) hS hB (by rw [lS, lT, lM]) (fun i σ H' => Ex H H' ∧ (∀ j (h : j < sg.length), j < i → sg[j].1 ≠ f) ∧ ∃ y3 y4, σ = [some (.ref a), some (.ref b), some (.str f), y3, y4])
      (fun H2 e2 => ⟨e2, fun j _ z => absurd z (Nat.not_lt_zero _), none, none, rfl⟩) (fun i σ H' _ ⟨e, _⟩ => ⟨ex_t e hS, ex_t e hB⟩) (fun i d tv p σ H2 hd ht hPv np => ?_) (fun σ H2 hPv => ?_)
    · obtain ⟨e2, no, y3, y4, hσ⟩ := hPv
      subst hσ
      have hi : i < sg.length := by rw [← lS]; exact (List.getElem?_eq_some_iff.mp hd).1
      have hi2 : i < tbs.length := by rw [lM]; exact hi
      obtain ⟨d', ed', c, hc, dc⟩ := paired_get hP (List.getElem?_eq_getElem hi)
      have : d' = d := Option.some.inj (ed'.symm.trans hd)
      subst this
      subst hc
      obtain ⟨t', et', nt⟩ := paired_get hR (List.getElem?_eq_getElem hi2)
      have : t' = tv := Option.some.inj (et'.symm.trans ht)
      subst this
      have e3 : Ex H2 (upd H2 p (.tup [.ref c, t'])) := Ex.new np
      have e03 : Ex H (upd H2 p (.tup [.ref c, t'])) := e2.trans e3
      refine ⟨p, _, rfl, st_of upd_same, rfl, _, _, rfl, _, _, rfl, rfl, ?_⟩
      show tIfS _ _ _ _ [some (.ref a), some (.ref b), some (.str f), some (.ref c), some t'] (upd H2 p (.tup [.ref c, t']))
      refine s_when (et_test (ev_op (ev_op (ev_var rfl) ev_c (rv_ixT (K := K) (ex_t e03 dc) (atI_vi (k := 0) rfl))) (ev_var rfl) (rv_eq rfl))) (fun hb H4 e4 => ?_) (fun hb H4 e4 => ?_)
      · have isF : sg[i].1 = f := V.str.inj (of_decide_eq_true hb)
        refine s_ret (ev_var rfl) fun H5 e5 => q _ H5 (e03.trans (e4.trans e5)) ?_
        show Nats K H5 t' (tbOf sg tbs f)
        rw [tbOf_at hi hi2 isF no]
        exact nt.ex (e03.trans (e4.trans e5))
      · have notF : sg[i].1 ≠ f := fun z => by
          rw [z] at hb
          exact absurd rfl (of_decide_eq_false hb)
        refine ⟨e03.trans e4, fun j h lt => ?_, _, _, rfl⟩
        by_cases e : j < i
        · exact no j h e
        · have : j = i := by omega
          subst this
          exact notF
    · obtain ⟨e2, no, y3, y4, hσ⟩ := hPv
      obtain ⟨i, hi⟩ := List.mem_iff_getElem?.mp mem
      have il : i < sg.length := (List.getElem?_eq_some_iff.mp hi).1
      rw [List.getElem?_eq_getElem il] at hi
      exact absurd (by rw [Option.some.inj hi]) (no i il (by rw [lS]; exact il))
/-! ### leads -/
def sp_need_two (K : PySem.W.Frag) : Sp := spX (fun (p : MArg × MArg) vs H => (∃ u v w, vs = [u, v, w] ∧ MA K H u v p.1 ∧ Mdl K H w p.2.2.1 p.2.2.2) ∧ MOk p.1 ∧ MOk p.2 ∧ p.2.1 = p.1.1) (fun _ v _ => v = .non)
theorem c_need_two_models (T : Txt mg) (D : Df K mg "need_two_models" s_need_two_models ["signature", "one", "other"]) (c_need_model : Cl P w K mg base 7 "need_model" (sp_need_model K)) : Cl P w K mg base 8 "need_two_models" (sp_need_two K) := by
  refine cl_of (k := 7) D sc_need_two_models (fun vs H Q E h => ?_) (fun f cdv A outer s H vs Q E hr h => ?_)
  · obtain ⟨p, ⟨⟨u, v, w, rfl, _⟩, _⟩, _⟩ := h
    rfl
  · obtain ⟨⟨p, p2⟩, ⟨⟨u, v, w, rfl, hm, hw⟩, ok, ok2, es⟩, q⟩ := h
    refine ⟨_, (pss_cons (ps_expr (pe_cl c_need_model hr (by first | decide | omega) (by rfl) (pa_cons (pv 0) (pa_cons (pv 1) pa_nil))))
      (pss_one (ps_expr (pe_cl c_need_model hr (by first | decide | omega) (by rfl) (pa_cons (pv 0) (pa_cons (pv 2) pa_nil)))))), ?_⟩
    replace hm : MA K H u v p := hm
    replace es : p2.1 = p.1 := es
    refine q_drop (v := .non) (ev_callV p (ea_cons (ev_var rfl) (ea_cons (ev_var rfl) ea_nil)) (fun H1 e1 => ⟨⟨_, _, rfl, hm.1.ex e1, hm.2.ex e1⟩, ok.1, ok.2⟩) (fun _ _ p => p)) fun H1 e1 => ?_
    exact s_drop (v := .non) (ev_callV p2 (ea_cons (ev_var rfl) (ea_cons (ev_var rfl) ea_nil)) (fun H2 e2 => ⟨⟨_, _, rfl, by rw [es]; exact hm.1.ex (e1.trans e2), hw.ex (e1.trans e2)⟩, ok2.1, ok2.2⟩) (fun _ _ p => p)) fun H2 e2 => q _ H2 (e1.trans e2) rfl
def LcV (K : PySem.W.Frag) (H : Hp) (v : V) (c : LC) : Prop := ∃ b x y, v = .ref b ∧ SqT K H b [x, vi c.2.1, y] ∧ Nats K H x c.1 ∧ Nats K H y c.2.2
theorem LcV.et {H H' : Hp} {v : V} {c : LC} (e : ET K H H') (h : LcV K H v c) : LcV K H' v c := let ⟨b, x, y, q, s, n, m⟩ := h; ⟨b, x, y, q, e _ _ s, n.et e, m.et e⟩
/-- a cell that fits images -/
structure GdC (n2 : Nat) (f : List Nat) (c : LC) : Prop where
  l2 : c.1.length ≤ 2
  ar : ∀ x ∈ c.1, x < f.length
  wr : c.2.1 < f.length
  tb : c.2.2.length = n2 ^ c.1.length
def sp_leads_on (K : PySem.W.Frag) : Sp := spX (fun (p : List LC × Nat × List Nat) vs H => (∃ b ws a, vs = [.ref b, vi p.2.1, .ref a] ∧ H b = some (.lst ws) ∧ Paired (LcV K H) ws p.1 ∧ SqL K H a (p.2.2.map vi)) ∧ p.2.1 ≤ 6 ∧ (∀ y ∈ p.2.2, y < p.2.1) ∧ ∀ c ∈ p.1, GdC p.2.1 p.2.2 c) (fun p v _ => v = .bl (allOk p.2.1 p.1 p.2.2))
theorem c_leads_on (T : Txt mg) (D : Df K mg "leads_on" s_leads_on ["cells", "size", "images"]) (c_place_of_row : Cl P w K mg base 1 "place_of_row" (sp_place_of_row K)) : Cl P w K mg base 2 "leads_on" (sp_leads_on K) := by
  refine cl_of (k := 1) D sc_leads_on (fun vs H Q E h => ?_) (fun f cdv A outer s H vs Q E hr h => ?_)
  · obtain ⟨p, ⟨⟨b, ws, a, rfl, _⟩, _⟩, _⟩ := h
    rfl
  · obtain ⟨⟨cs, n2, F⟩, ⟨⟨b, ws, a, rfl, hb, pw, ha⟩, n6, low, gd⟩, q⟩ := h
    refine ⟨_, (pss_cons (ps_for PassesOwn.never (by rfl) (pi_list (pv 0)) (pg_tup (by rfl) (pgs_cons (pg_name (i := 3) sc_leads_on.nd rfl (.inl rfl)) (pgs_cons (pg_name (i := 4) sc_leads_on.nd rfl (.inl rfl)) (pgs_cons (pg_name (i := 5) sc_leads_on.nd rfl (.inl rfl)) pgs_nil))))
        (pss_one (ps_if (pt_cmpR op_ne (pe_ix ix_list (pv 2) (pv 4) (fun _ _ => rfl)) (pe_ix ix_tup (pv 5) (pe_cl c_place_of_row hr (by first | decide | omega) (by rfl) (pa_cons (pv 1) (pa_cons (pe_lc (own := [("arg", 6)]) (g := (gName 6)) (by rfl) sc_leads_on.nd (pi_tup (pv 3)) (blkOk_by (own := [("arg", 6)]) (N := ["cells", "size", "images", "args", "worth", "table", "arg"]) (sc := (defScope s_leads_on)) (by decide +kernel)) (fun _ _ _ _ _ => (pg_name (i := 6) sc_leads_on.nd rfl (.inl rfl))) (fun _ _ _ _ _ => pts_nil) (fun _ _ _ _ _ => (pe_ix (ix_listK K) (pv 2) (pv 6) (fun _ _ => rfl)))) pa_nil))) (fun _ _ => rfl)) (nomark _))
          (pss_one (ps_ret pe_bl))
          pss_nil)))
      (pss_one (ps_ret pe_bl))), ?_⟩
    replace hb : H b = some (.lst ws) := hb
    replace pw : Paired (LcV K H) ws cs := pw
    replace ha : SqL K H a (F.map vi) := ha
    replace n6 : n2 ≤ 6 := n6
    replace low : ∀ y ∈ F, y < n2 := low
    replace gd : ∀ c ∈ cs, GdC n2 F c := gd
    refine q_forLs (do_ev (ev_var rfl) fun H1 e1 => ⟨b, rfl, ⟨ws, sq_of (e1 _ _ hb)⟩, ?_⟩)
    refine qloops_list (K := K) (xs := ws) (fun i σ H' => Ex H H' ∧ (cs.take i).all (okC n2 F) = true ∧ ∃ y3 y4 y5, σ = [some (.ref b), some (vi n2), some (.ref a), y3, y4, y5, none]) ⟨e1, by rw [List.take_zero]; rfl, none, none, none, rfl⟩ (fun i σ' H' _ ⟨e, _⟩ => sq_of (e _ _ hb)) (fun i x σ' H2 hx ⟨e2, al, y3, y4, y5, hσ⟩ => ?_) (fun σ' H2 ⟨e2, al, y3, y4, y5, hσ⟩ => ?_)
    · subst hσ
      obtain ⟨c, hc, t, x1, y1, rfl, ht, ⟨xa, rfl, hxa⟩, ⟨ya, rfl, hya⟩⟩ := paired_at pw hx
      have mem := List.mem_iff_getElem?.mpr ⟨i, hc⟩
      obtain ⟨l2, ar, wr, tb⟩ := gd c mem
      have im : ∀ k ∈ c.1.map (g F), k < n2 := fun k hk => by
        obtain ⟨j, hj, rfl⟩ := List.mem_map.mp hk
        exact low _ (M25.g_mem (ar j hj))
      have pl := plc_low im (by rw [List.length_map]; exact l2)
      rw [List.length_map, ← tb] at pl
      refine ⟨t, _, rfl, ex_t e2 ht, rfl, _, _, rfl, _, _, rfl, _, _, rfl, rfl, ?_⟩
      have place : Ev (tCall (sp_place_of_row K) [] E0 (tCons (tVar 1) (tCons (tLc (iTup K (tVar 3)) (gName 6) tYes (tOp (rIxL K) (tVar 2) (tVar 6)) [6]) tNil))) [some (.ref b), some (vi n2), some (.ref a), some (.ref xa), some (vi c.2.1), some (.ref ya), none] H2 (vi (plc n2 (c.1.map (g F)))) := fun H7 e7 Q' q' =>
        do_cons (do_ev (ev_var rfl) fun H8 e8 => do_cons (el_getS (K := K) (row := c.1) (S := F) (i := 3) (j := 6) (k := 2) (fun _ => rfl) rfl (fun _ => rfl) (fun _ => rfl) (ex_t (e2.trans (e7.trans e8)) hxa) (ex_l (e2.trans (e7.trans e8)) ha) ar (by omega) H8 (Ex.refl _) _ fun l H9 nl e9 hl => do_nil ⟨(n2, c.1.map (g F)), ⟨⟨l, rfl, hl⟩, n6, by rw [List.length_map]; exact l2, im⟩, fun v H10 e10 hv => by rw [hv]; exact q' H10 ((e8.trans e9).trans e10)⟩))
      refine s_when (b := !decide (vi (g F c.2.1) = vi (g c.2.2 (plc n2 (c.1.map (g F)))))) (et_test (ev_op (ev_op (ev_var rfl) (ev_var rfl) (rv_ixL (K := K) (ex_l e2 ha) (atI_vi (k := c.2.1) (v := vi (g F c.2.1)) (by rw [List.getElem?_map, g_eq wr]; rfl)))) (ev_op (ev_var rfl) place (rv_ixT (K := K) (ex_t e2 hya) (atI_vi (k := plc n2 (c.1.map (g F))) (v := vi (g c.2.2 (plc n2 (c.1.map (g F))))) (by rw [List.getElem?_map, g_eq pl]; rfl)))) (rv_ne rfl))) (fun ho H3 e3 => s_ret ev_c fun H4 e4 => q _ H4 ((e2.trans e3).trans e4) ?_) (fun ho H3 e3 => ⟨e2.trans e3, ?_, _, _, _, rfl⟩)
      · show V.bl false = V.bl (allOk n2 cs F)
        cases ha : allOk n2 cs F with
        | false => rfl
        | true =>
          have := List.all_eq_true.mp ha c mem
          have z := of_decide_eq_true this
          rw [z, decide_eq_true rfl] at ho
          cases ho
      · rw [List.take_add_one, hc, List.all_append, al]
        show (true && ([c].all _)) = true
        rw [List.all_cons, List.all_nil, Bool.and_true, Bool.true_and]
        have : vi (g F c.2.1) = vi (g c.2.2 (plc n2 (c.1.map (g F)))) := by
          rw [Bool.not_eq_false'] at ho
          exact of_decide_eq_true ho
        have z := V.int.inj this
        exact decide_eq_true (by omega)
    · subst hσ
      have full : cs.take ws.length = cs := List.take_of_length_le (by rw [paired_len pw]; exact Nat.le_refl _)
      rw [full] at al
      refine s_ret ev_c fun H3 e3 => q _ H3 (e2.trans e3) ?_
      show V.bl true = V.bl (allOk n2 cs F)
      rw [show allOk n2 cs F = true from al]
end
end K72
end
section
namespace K72
open PySem PySem.Spec PyProof.Rows L2 Evl RZ Dw M20 M25 CL LD
section
variable {P : Program} {w : World} {K : PySem.W.Frag} {mg : Str → Option Value} {base : Heap}
/-- the cells of the one with the tables of the other -/
def lcs (p p2 : MArg) : List LC := (cwm p).map fun c => (c.2.1, c.2.2, tbOf p.1 p2.2.2 c.1)
theorem tbOf_sig {p2 : MArg} {p : MArg} (ok : MOk p) (ok2 : MOk p2) (es : p2.1 = p.1) {i : Nat} {d : Str × Nat} (hi : p.1[i]? = some d) : ∃ h : i < p2.2.2.length, tbOf p.1 p2.2.2 d.1 = p2.2.2[i] ∧ Tab p2.2.1 d.2 p2.2.2[i] := by
  obtain ⟨il, ed⟩ := List.getElem?_eq_some_iff.mp hi
  have il2 : i < p2.2.2.length := by rw [ok2.2.len, es]; exact il
  have il3 : i < p2.1.length := by rw [es]; exact il
  refine ⟨il2, ?_, ?_⟩
  · refine tbOf_at il il2 (by rw [ed]) fun j h lt e => ?_
    have := (sig_one ok (List.getElem?_eq_getElem h) hi e).1
    omega
  · have := ok2.2.tab i il3 il2
    rw [show p2.1[i] = d from by rw [← ed]; simp only [es]] at this
    exact this
theorem lcs_gd {p p2 : MArg} (ok : MOk p) (ok2 : MOk p2) (es : p2.1 = p.1) {f : List Nat} (lf : f.length = p.2.1) : ∀ c ∈ lcs p p2, GdC p2.2.1 f c := fun c hc => by
  obtain ⟨c0, hc0, rfl⟩ := List.mem_map.mp hc
  obtain ⟨l2, ar, wr⟩ := ok.cells c0 hc0
  obtain ⟨i, d, t, j, r, h1, h2, h3, h4, h5, h6⟩ := cws_mem.mp hc0
  obtain ⟨il, e1, tb⟩ := tbOf_sig ok ok2 es h1
  refine ⟨l2, fun x hx => by rw [lf]; exact ar x hx, by rw [lf]; exact wr, ?_⟩
  show (tbOf p.1 p2.2.2 c0.1).length = _
  rw [h5, e1, tb.len, h6, (rows_of (List.mem_iff_getElem?.mpr ⟨j, h3⟩)).1]
theorem lcs_grt {p p2 : MArg} (ok : MOk p) : ∀ c ∈ lcs p p2, grt c < p.2.1 := fun c hc => by
  obtain ⟨c0, hc0, rfl⟩ := List.mem_map.mp hc
  obtain ⟨l2, ar, wr⟩ := ok.cells c0 hc0
  exact grt_low ar wr
/-- lists of cells by their greatest -/
structure CgL (K : PySem.W.Frag) (H0 H : Hp) (a : Addr) (bs : List Addr) (f : Nat → List LC) (n : Nat) : Prop where
  at_ : H a = some (.lst (bs.map V.ref))
  new : H0 a = none
  len : bs.length = n
  each : ∀ (k : Nat) (b : Addr), bs[k]? = some b → H0 b = none ∧ ∃ ws, H b = some (.lst ws) ∧ Paired (LcV K H) ws (f k)
  nd : bs.Nodup
  ne : a ∉ bs
theorem CgL.ex {H0 H H' : Hp} {a : Addr} {bs : List Addr} {f : Nat → List LC} {n : Nat} (e : Ex H H') (h : CgL K H0 H a bs f n) : CgL K H0 H' a bs f n := ⟨e _ _ h.at_, h.new, h.len, fun k b hb => let ⟨z, ws, q, p⟩ := h.each k b hb; ⟨z, ws, e _ _ q, paired_imp (fun _ _ y => LcV.et (Dw.Ex.et e) y) p⟩, h.nd, h.ne⟩
def grp (cs : List LC) (k : Nat) : List LC := cs.filter fun c => decide (grt c = k)
def sp_by_greatest (K : PySem.W.Frag) : Sp := fun vs H Q _ => ∃ (p p2 : MArg) (u v w : V), vs = [u, v, w] ∧ MA K H u v p ∧ Mdl K H w p2.2.1 p2.2.2 ∧ MOk p ∧ MOk p2 ∧ p2.1 = p.1 ∧ ∀ a bs H', Ex H H' → CgL K H H' a bs (grp (lcs p p2)) p.2.1 → Q (.ref a) H'
theorem ep_lc {σ : L2.St} {H : Hp} {t1 t2 : TE} {t3 : TE} {x : V} {c : LC} (h1 : Ev t1 σ H x) (h2 : Ev t2 σ H (vi c.2.1)) (h3 : EvP t3 σ H (fun y H' => Nats K H' y c.2.2)) (hx : Nats K H x c.1) : EvP (tTup (tCons t1 (tCons t2 (tCons t3 tNil)))) σ H (fun v H' => LcV K H' v c) := fun H1 e1 Q q =>
  do_tup (do_cons (h1 H1 e1 _ fun H2 e2 => do_cons (h2 H2 (e1.trans e2) _ fun H3 e3 => do_cons (h3 H3 ((e1.trans e2).trans e3) _ fun y H4 e4 hy => do_nil ⟨by show 3 ≤ sizeLine; decide, fun p np => q _ _ (((e2.trans e3).trans e4).trans (Ex.new np)) ⟨p, x, y, rfl, st_of upd_same, (hx.ex (((e1.trans e2).trans e3).trans e4)).ex (Ex.new np), hy.ex (Ex.new np)⟩⟩))))
theorem c_cells_by_greatest (T : Txt mg) (D : Df K mg "cells_by_greatest" s_cells_by_greatest ["signature", "one", "other"]) (c_cells_with_worths : Cl P w K mg base 2 "cells_with_worths" (sp_cells K)) (c_table_of : Cl P w K mg base 1 "table_of" (sp_table_of K)) : Cl P w K mg base 3 "cells_by_greatest" (sp_by_greatest K) := by
  refine cl_of (k := 2) D sc_cells_by_greatest (fun vs H Q E h => ?_) (fun f cdv A outer s H vs Q E hr h => ?_)
  · obtain ⟨p, p2, u, v, w, rfl, _⟩ := h
    rfl
  · obtain ⟨p, p2, u, v, w, rfl, hm, hw, ok, ok2, es, q⟩ := h
    refine ⟨_, (pss_cons (ps_setLc (i := 3) (own := [("number", 7)]) (g := (gName 7)) (by rfl) sc_cells_by_greatest.nd rfl rfl (sw_true rfl rfl rfl (by decide +kernel)) (pi_range1 (by rfl) T.z_range (pa_cons (pe_ix ix_tup (pv 1) pe_int (fun _ _ => rfl)) pa_nil)) (blkOk_by (own := [("number", 7)]) (N := ["signature", "one", "other", "told", "name", "args", "worth", "number"]) (sc := (defScope s_cells_by_greatest)) (by decide +kernel)) (fun _ _ _ _ _ => (pg_name (i := 7) sc_cells_by_greatest.nd rfl (.inl rfl))) (fun _ _ _ _ _ => pts_nil) (fun _ _ _ _ _ => (pe_lst pa_nil)))
      (pss_cons (ps_for PassesOwn.never (by rfl) (pi_list (pe_cl c_cells_with_worths hr (by first | decide | omega) (by rfl) (pa_cons (pv 0) (pa_cons (pv 1) pa_nil)))) (pg_tup (by rfl) (pgs_cons (pg_name (i := 4) sc_cells_by_greatest.nd rfl (.inl rfl)) (pgs_cons (pg_name (i := 5) sc_cells_by_greatest.nd rfl (.inl rfl)) (pgs_cons (pg_name (i := 6) sc_cells_by_greatest.nd rfl (.inl rfl)) pgs_nil))))
        (pss_one (ps_expr (pe_bm PySem.F.plainAttrs_list PySem.F.slot_list_append PySem.F.type_list_append mt_append (pe_ix ix_list (pv 3) (pe_callB (cr_maxT rfl hr) (by rfl) T.z_max (by decide +kernel) (pa_cons (pe_op op_catA (pv 5) (pe_tup (pa_cons (pv 6) pa_nil))) pa_nil)) (fun _ _ => rfl)) (pa_cons (pe_tup (pa_cons (pv 5) (pa_cons (pv 6) (pa_cons (pe_cl c_table_of hr (by first | decide | omega) (by rfl) (pa_cons (pv 0) (pa_cons (pe_ix ix_tup (pv 2) pe_int (fun _ _ => rfl)) (pa_cons (pv 4) pa_nil)))) pa_nil)))) pa_nil)))))
      (pss_one (ps_ret (pv 3))))), ?_⟩
    obtain ⟨z, tv, rfl, hZ, hT⟩ := id hm.2
    obtain ⟨z2, tv2, rfl, hZ2, hT2⟩ := id hw
    have n6 := ok.2.n6
    have hG2 : Sig K H u p.1 := hm.1
    refine do_set (do_lcNewR (n := p.2.1) (u := fun _ => []) (σ := [some u, some (.ref z), some (.ref z2), none, none, none, none, none]) (ea_cons (ev_op (ev_var rfl) ev_c (rv_ixT (K := K) hZ (atI_vi (k := 0) rfl))) ea_nil) (by omega) (fun _ => rfl) (fun i H1 e1 hi => el_lst ea_nil (Nat.zero_le _)) (fun a bs H1 e1 ll => ?_))
    have lb : bs.length = p.2.1 := by rw [ll.len, List.length_map, List.length_range]
    have cg1 : CgL K H H1 a bs (fun k => grp ((lcs p p2).take 0) k) p.2.1 := ⟨ll.at_, ll.new, lb, fun k b hb => by
      obtain ⟨ns, hns, q1, q2⟩ := paired_at ll.each hb
      refine ⟨q2, [], ?_, ?_⟩
      · rw [q1]
        have : ns = [] := by
          rw [List.getElem?_map] at hns
          cases hr : (List.range p.2.1)[k]? with
          | none => rw [hr] at hns; cases hns
          | some j => rw [hr] at hns; exact (Option.some.inj hns).symm
        rw [this]
        rfl
      · exact .nil, ll.nd, ll.ne⟩
    show tSeq _ _ _ [some u, some (.ref z), some (.ref z2), some (.ref a), none, none, none, none] H1
    refine q_forLs (do_evP (ep_callF p (ea_cons (ev_var rfl) (ea_cons (ev_var rfl) ea_nil)) (fun H2 e2 => ⟨⟨_, _, rfl, hm.1.ex (e1.trans e2), hm.2.ex (e1.trans e2)⟩, ok.1, ok.2⟩)) fun cv H2 e2 ⟨⟨c, cvs, hc, hl, pc⟩, nc⟩ => ⟨c, hc, ⟨cvs, sq_of hl⟩, ?_⟩)
    subst hc
    replace pc : Paired (CellV K H2) cvs (cwm p) := pc
    have nc1 := nc _ rfl
    have ca : c ≠ a := fun zz => by rw [zz, ll.at_] at nc1; cases nc1
    have cb : c ∉ bs := fun zz => by
      obtain ⟨_, _, q1, _⟩ := ll.some zz
      rw [q1] at nc1
      cases nc1
    have e02 := e1.trans e2
    refine qloops_list (K := K) (xs := cvs) (fun i σ H' => Ex H H' ∧ H' c = some (.lst cvs) ∧ Paired (CellV K H') cvs (cwm p) ∧ CgL K H H' a bs (fun k => grp ((lcs p p2).take i) k) p.2.1 ∧ ∃ y4 y5 y6, σ = [some u, some (.ref z), some (.ref z2), some (.ref a), y4, y5, y6, none]) ⟨e02, hl, pc, cg1.ex e2, none, none, none, rfl⟩ (fun i σ' H' _ ⟨_, hc', _⟩ => sq_of hc') (fun i x σ' H3 hx ⟨e3, hc3, pc3, cg3, y4, y5, y6, hσ⟩ => ?_) (fun σ' H3 ⟨e3, hc3, pc3, cg3, y4, y5, y6, hσ⟩ => ?_)
    · subst hσ
      obtain ⟨cl, hcl, b, xa, rfl, hb, hxa⟩ := paired_at pc3 hx
      obtain ⟨xaa, rfl, hxaa⟩ := id hxa
      have mem := List.mem_iff_getElem?.mpr ⟨i, hcl⟩
      obtain ⟨l2, ar, wr⟩ := ok.cells cl mem
      obtain ⟨j0, d, t, j, r, h1, h2, h3, h4, h5, h6⟩ := cws_mem.mp mem
      obtain ⟨il, et1, tb⟩ := tbOf_sig ok ok2 es h1
      have hlc : (lcs p p2)[i]? = some (cl.2.1, cl.2.2, tbOf p.1 p2.2.2 cl.1) := by
        unfold lcs
        rw [List.getElem?_map, hcl]
        rfl
      have gl : grt (cl.2.1, cl.2.2, tbOf p.1 p2.2.2 cl.1) < p.2.1 := grt_low ar wr
      generalize hk : grt (cl.2.1, cl.2.2, tbOf p.1 p2.2.2 cl.1) = k at gl
      obtain ⟨bk, hbk⟩ : ∃ bk, bs[k]? = some bk := ⟨_, List.getElem?_eq_getElem (by rw [cg3.len]; exact gl)⟩
      obtain ⟨nbk, ws, hws, pws⟩ := cg3.each k bk hbk
      refine ⟨b, _, rfl, hb, rfl, _, _, rfl, _, _, rfl, _, _, rfl, rfl, ?_⟩
      have hmx : Ev (tOp (rIxL K) (tVar 3) (tCB (rMaxT K) (tCons (tOp (rCatA K) (tVar 5) (tTup (tCons (tVar 6) tNil))) tNil))) [some u, some (.ref z), some (.ref z2), some (.ref a), some (.str cl.1), some (.ref xaa), some (vi cl.2.2), none] H3 (.ref bk) := by
        refine ev_op (ev_var rfl) (ev_maxP (K := K) (row := cl.2.1 ++ [cl.2.2]) (tv_nats (tv_is (tv_cat (tv_ev (ev_var rfl) hxaa) (tv_tup (xs := [vi cl.2.2]) (ea_cons (ev_var rfl) ea_nil) (by show 1 ≤ 100000; decide)) (by rw [List.length_map]; show cl.2.1.length + 1 ≤ 100000; omega)) (by rw [List.map_append]; rfl))) (by simp)) (rv_ixL (K := K) (sq_of cg3.at_) ?_)
        have e : need (cl.2.1 ++ [cl.2.2]) - 1 = k := hk
        rw [e]
        exact atI_vi (by rw [List.getElem?_map, hbk]; rfl)
      have lws : ws.length ≤ 144 := by
        rw [paired_len pws]
        have a := List.length_filter_le (fun c => decide (grt c = k)) ((lcs p p2).take i)
        have b : ((lcs p p2).take i).length ≤ 144 := by
          rw [List.length_take]
          unfold lcs
          rw [List.length_map]
          have := ok.few
          omega
        exact Nat.le_trans a b
      refine s_appP hws hmx (ep_lc (K := K) (c := (cl.2.1, cl.2.2, tbOf p.1 p2.2.2 cl.1)) (ev_var rfl) (ev_var rfl) (ep_call (p.1, p2.2.1, p2.2.2, cl.1, d.2) (ea_cons (ev_var rfl) (ea_cons (ev_op (ev_var rfl) ev_c (rv_ixT (K := K) (ex_t e3 hZ2) (atI_vi (k := 1) rfl))) (ea_cons (ev_var rfl) ea_nil))) (fun H4 e4 => ⟨⟨_, _, rfl, hG2.ex (e3.trans e4), hT2.ex (e3.trans e4)⟩, by rw [ok2.2.len, es], by show (cl.1, d.2) ∈ p.1; rw [h5]; exact List.mem_iff_getElem?.mpr ⟨j0, h1⟩⟩)) ⟨xaa, rfl, hxaa⟩) (by omega) fun v H4 e4 hv => ?_
      have hb4 := e4 _ _ hws
      have et : ET K H4 (upd H4 bk (.lst (ws ++ [v]))) := ET.refl.upd hb4
      have bkm := List.mem_iff_getElem?.mpr ⟨k, hbk⟩
      have nbH := nbk
      refine ⟨(e3.trans e4).mut nbH, by rw [upd_ne (fun zz => cb (by rw [zz]; exact bkm))]; exact e4 _ _ hc3, paired_imp (fun _ _ zz => CellV.et (ET.trans (Dw.Ex.et e4) et) zz) pc3, ⟨by rw [upd_ne (fun zz => cg3.ne (by rw [zz]; exact bkm))]; exact e4 _ _ cg3.at_, cg3.new, cg3.len, fun k' b' hb' => ?_, cg3.nd, cg3.ne⟩, _, _, _, rfl⟩
      obtain ⟨nb', ws', hws', pws'⟩ := cg3.each k' b' hb'
      refine ⟨nb', ?_⟩
      by_cases hkk : k' = k
      · subst hkk
        rw [hbk] at hb'
        cases Option.some.inj hb'
        rw [hws] at hws'
        cases HO.lst.inj (Option.some.inj hws')
        refine ⟨ws ++ [v], upd_same, ?_⟩
        unfold grp
        rw [List.take_add_one, hlc, List.filter_append]
        show Paired _ _ (_ ++ [(cl.2.1, cl.2.2, tbOf p.1 p2.2.2 cl.1)].filter _)
        rw [List.filter_cons_of_pos (by rw [hk]; exact decide_eq_true rfl), List.filter_nil]
        exact paired_snoc' (R := LcV K (upd H4 bk (.lst (ws ++ [v])))) (x := v) (y := (cl.2.1, cl.2.2, tbOf p.1 p2.2.2 cl.1)) (LcV.et et hv) (paired_imp (fun _ _ zz => LcV.et (ET.trans (Dw.Ex.et e4) et) zz) pws')
      · have nbb : b' ≠ bk := fun zz => hkk (by
          obtain ⟨i1, e1'⟩ := List.getElem?_eq_some_iff.mp hb'
          obtain ⟨i2, e2'⟩ := List.getElem?_eq_some_iff.mp hbk
          exact (List.getElem_inj cg3.nd).mp (e1'.trans (zz.trans e2'.symm)))
        refine ⟨ws', by rw [upd_ne nbb]; exact e4 _ _ hws', ?_⟩
        unfold grp
        rw [List.take_add_one, hlc, List.filter_append]
        show Paired _ _ (_ ++ [(cl.2.1, cl.2.2, tbOf p.1 p2.2.2 cl.1)].filter _)
        rw [List.filter_cons_of_neg (by rw [hk, decide_eq_true_iff]; exact fun zz => hkk zz.symm), List.filter_nil, List.append_nil]
        exact paired_imp (fun _ _ zz => LcV.et (ET.trans (Dw.Ex.et e4) et) zz) pws'
    · subst hσ
      have full : (lcs p p2).take cvs.length = lcs p p2 := List.take_of_length_le (by unfold lcs; rw [List.length_map, paired_len pc3]; exact Nat.le_refl _)
      rw [full] at cg3
      exact s_ret (ev_var rfl) fun H4 e4 => q a bs H4 (e3.trans e4) (cg3.ex e4)
end
end K72
end
section
namespace K72
open PySem PySem.Spec PyProof.Rows L2 Evl RZ Dw M20 M25 CL LD
section
variable {P : Program} {w : World} {K : PySem.W.Frag} {mg : Str → Option Value} {base : Heap}
def sp_leads (K : PySem.W.Frag) : Sp := fun vs H Q _ => ∃ (p p2 : MArg) (u v w : V), vs = [u, v, w] ∧ MA K H u v p ∧ Mdl K H w p2.2.1 p2.2.2 ∧ MOk p ∧ MOk p2 ∧ p2.1 = p.1 ∧ (∀ k, k < p.2.1 → (lvl p2.2.1 (lcs p p2) k).length ≤ 1600) ∧ ∀ a as H', Ex H H' → LLs H H' a as (lvl p2.2.1 (lcs p p2) p.2.1) → Q (.ref a) H'
theorem lvl_low {n2 : Nat} {cs : List LC} {k : Nat} {f : List Nat} (h : f ∈ lvl n2 cs k) : f.length = k ∧ ∀ y ∈ f, y < n2 := by
  rw [lvl_eq] at h
  exact rows_of (List.mem_filter.mp h).1
theorem c_leads (T : Txt mg) (D : Df K mg "leads" s_leads ["signature", "one", "other"]) (c_need_two_models : Cl P w K mg base 8 "need_two_models" (sp_need_two K)) (c_cells_by_greatest : Cl P w K mg base 3 "cells_by_greatest" (sp_by_greatest K)) (c_leads_on : Cl P w K mg base 2 "leads_on" (sp_leads_on K)) : Cl P w K mg base 9 "leads" (sp_leads K) := by
  refine cl_of (k := 8) D sc_leads (fun vs H Q E h => ?_) (fun f cdv A outer s H vs Q E hr h => ?_)
  · obtain ⟨p, p2, u, v, w, rfl, _⟩ := h
    rfl
  · obtain ⟨p, p2, u, v, w, rfl, hm, hw, ok, ok2, es, few, q⟩ := h
    refine ⟨_, (pss_cons (ps_expr (pe_cl c_need_two_models hr (by first | decide | omega) (by rfl) (pa_cons (pv 0) (pa_cons (pv 1) (pa_cons (pv 2) pa_nil)))))
      (pss_cons (ps_set (i := 3) sc_leads.nd rfl (.inr rfl) (pe_ix ix_tup (pv 2) pe_int (fun _ _ => rfl)))
      (pss_cons (ps_set (i := 4) sc_leads.nd rfl (.inl rfl) (pe_lst (pa_cons (pe_lst pa_nil) pa_nil)))
      (pss_cons (ps_for PassesOwn.never (by rfl) (pi_list (pe_cl c_cells_by_greatest hr (by first | decide | omega) (by rfl) (pa_cons (pv 0) (pa_cons (pv 1) (pa_cons (pv 2) pa_nil))))) (pg_name (i := 5) sc_leads.nd rfl (.inr rfl))
        (pss_cons (ps_setLc2 (i := 6) (own := [("images", 7), ("number", 8)]) (g := (gName 7)) (g1 := (gName 8)) (vs1 := [8]) (by rfl) sc_leads.nd rfl rfl (sw_true rfl rfl rfl (by decide +kernel)) (pi_list (pv 4)) (blkOk_by (own := [("images", 7), ("number", 8)]) (N := ["signature", "one", "other", "size", "begins", "cells", "longer", "images", "number"]) (sc := (defScope s_leads)) (by decide +kernel)) (by decide) (fun _ _ _ _ _ => (pg_name (i := 7) sc_leads.nd rfl (.inl rfl))) (fun _ _ _ _ _ => pts_nil) (fun _ _ _ _ _ => (pi_range1 (by rfl) T.z_range (pa_cons (pv 3) pa_nil))) (fun _ _ _ _ _ => (pg_name (i := 8) sc_leads.nd rfl (.inl rfl))) (fun _ _ _ _ _ => pts_nil) (fun _ _ _ _ _ => (pe_op op_cat (pv 7) (pe_lst (pa_cons (pv 8) pa_nil)))))
        (pss_one (ps_setLc (i := 4) (own := [("images", 7)]) (g := (gName 7)) (by rfl) sc_leads.nd rfl rfl (sw_true rfl rfl rfl (by decide +kernel)) (pi_list (pv 6)) (blkOk_by (own := [("images", 7)]) (N := ["signature", "one", "other", "size", "begins", "cells", "longer", "images", "number"]) (sc := (defScope s_leads)) (by decide +kernel)) (fun _ _ _ _ _ => (pg_name (i := 7) sc_leads.nd rfl (.inl rfl))) (fun _ _ _ _ _ => (pts_one (pt_val (pe_cl c_leads_on hr (by first | decide | omega) (by rfl) (pa_cons (pv 5) (pa_cons (pv 3) (pa_cons (pv 7) pa_nil))))))) (fun _ _ _ _ _ => (pv 7))))))
      (pss_one (ps_ret (pv 4))))))), ?_⟩
    obtain ⟨z2, tv2, rfl, hZ2, hT2⟩ := id hw
    have n6 := ok.2.n6
    have n26 := ok2.2.n6
    refine q_drop (v := .non) (ev_callV (p, p2) (ea_cons (ev_var rfl) (ea_cons (ev_var rfl) (ea_cons (ev_var rfl) ea_nil))) (fun H1 e1 => ⟨⟨_, _, _, rfl, hm.ex e1, hw.ex e1⟩, ok, ok2, es⟩) (fun _ _ p => p)) fun H1 e1 => ?_
    refine q_asg (v := vi p2.2.1) (ev_op (ev_var rfl) ev_c (rv_ixT (K := K) (ex_t e1 hZ2) (atI_vi (k := 0) rfl))) fun H2 e2 => ?_
    have e02 := e1.trans e2
    refine do_set (do_lst (do_cons (do_lst (do_nil ⟨Nat.zero_le _, fun r nr => do_nil ⟨by show 1 ≤ sizeLine; decide, fun f0 nf0 => ?_⟩⟩))))
    have e3 : Ex H2 (upd (upd H2 r (.lst [])) f0 (.lst [.ref r])) := (Ex.new nr).trans (Ex.new nf0)
    have rf : r ≠ f0 := fun z => by rw [z, upd_same] at nf0; cases nf0
    have ll1 : LLs H2 (upd (upd H2 r (.lst [])) f0 (.lst [.ref r])) f0 [r] (lvl p2.2.1 (lcs p p2) 0) := ⟨upd_same, by
      have := nf0
      rw [upd_ne (Ne.symm rf)] at this
      exact this, .cons ⟨by rw [upd_ne rf, upd_same]; rfl, nr⟩ .nil, List.pairwise_singleton _ _, fun z => rf (List.mem_singleton.mp z).symm⟩
    replace ll1 := ll1.low e02
    generalize upd (upd H2 r (.lst [])) f0 (.lst [.ref r]) = H3 at *
    have e03 := e02.trans e3
    show tSeq _ _ _ [some u, some v, some (.ref z2), some (vi p2.2.1), some (.ref f0), none, none, none, none] H3
    refine q_forLs (ea_cons (ev_var rfl) (ea_cons (ev_var rfl) (ea_cons (ev_var rfl) ea_nil)) H3 (Ex.refl _) _ fun H4 e4 => ⟨p, p2, u, v, .ref z2, rfl, hm.ex (e03.trans e4), hw.ex (e03.trans e4), ok, ok2, es, fun a bs H5 e5 cg => ⟨a, rfl, ⟨_, sq_of cg.at_⟩, ?_⟩⟩)
    have e35 := e4.trans e5
    refine qloops_list (K := K) (xs := bs.map V.ref) (fun k σ H' => Ex H5 H' ∧ ∃ b as y5 y6, LLs H H' b as (lvl p2.2.1 (lcs p p2) k) ∧ σ = [some u, some v, some (.ref z2), some (vi p2.2.1), some (.ref b), y5, y6, none, none]) ⟨Ex.refl _, f0, [r], none, none, ll1.ex e35, rfl⟩ (fun k σ' H' _ ⟨e, _⟩ => sq_of (e _ _ cg.at_)) (fun k x σ' H6 hx ⟨e6, b, as, y5, y6, ll, hσ⟩ => ?_) (fun σ' H6 ⟨e6, b, as, y5, y6, ll, hσ⟩ => ?_)
    · subst hσ
      rw [List.getElem?_map] at hx
      cases hbk : bs[k]? with
      | none => rw [hbk] at hx; cases hx
      | some bk =>
      rw [hbk] at hx
      cases Option.some.inj hx
      obtain ⟨_, ws, hws, pws⟩ := cg.each k bk hbk
      have hk : k < p.2.1 := by rw [← cg.len]; exact (List.getElem?_eq_some_iff.mp hbk).1
      have fk := few k hk
      have la := ll.len
      have e06 : Ex H H6 := e03.trans (e35.trans e6)
      show tSeq _ _ _ [some u, some v, some (.ref z2), some (vi p2.2.1), some (.ref b), some (.ref bk), y6, none, none] H6
      refine do_set (do_lc2New (K := K) (a := b) (xs := as.map V.ref) (L := lvl p2.2.1 (lcs p p2) k) (u := fun ns x => ns ++ [x]) (m := p2.2.1) (ev_var rfl) (sq_of ll.at_) (by rw [List.length_map, la]) (fun x H7 e7 => ea_cons (ev_var rfl) ea_nil) (by rw [List.length_map]; omega) (by omega) (fun _ => rfl) (fun _ _ => rfl) (fun i x ns kk H7 e7 hx hns hkk => ?_) (fun b2 as2 H7 e7 l2 => ?_))
      · rw [List.getElem?_map] at hx
        cases hb : as[i]? with
        | none => rw [hb] at hx; cases hx
        | some bb =>
          rw [hb] at hx
          cases Option.some.inj hx
          obtain ⟨ms, hms, qq, _⟩ := paired_at ll.each hb
          rw [hms] at hns
          cases Option.some.inj hns
          show EvL _ _ H7 ((ns ++ [kk]).map vi)
          rw [List.map_append]
          have lm := (lvl_low (List.mem_iff_getElem?.mpr ⟨i, hms⟩)).1
          intro H8 e8 Q' q'
          refine do_op (do_ev (v := .ref bb) (ev_var rfl) fun H9 e9 => do_evL (el_lst (ea_cons (ev_var rfl) ea_nil) (by show 1 ≤ 100000; decide)) fun r2 H10 nr2 e10 hr2 => ?_)
          exact ⟨bb, r2, ns.map vi, [vi kk], rfl, rfl, (e7.trans (e8.trans (e9.trans e10))) _ _ qq, hr2, by rw [List.length_map]; exact sz_of (by show ns.length + 1 ≤ 100000; omega), fun l nl => q' l _ (fresh_back (e9.trans e10) nl) ((e9.trans e10).trans (Ex.new nl)) upd_same⟩
      · have e07 := e06.trans e7
        have lfl : ((lvl p2.2.1 (lcs p p2) k).flatMap fun ns => (List.range p2.2.1).map fun x => ns ++ [x]).length ≤ 1600 * 6 := by
          have : ∀ L : List (List Nat), (L.flatMap fun ns => (List.range p2.2.1).map fun x => ns ++ [x]).length = L.length * p2.2.1 := fun L => by
            induction L with
            | nil => simp
            | cons r L ih => rw [List.flatMap_cons, List.length_append, ih, List.length_map, List.length_range, List.length_cons, Nat.add_mul, Nat.one_mul, Nat.add_comm]
          rw [this]
          exact Nat.mul_le_mul fk n26
        refine do_asg (do_lcFit (K := K) (f := allOk p2.2.1 (grp (lcs p p2) k)) (ev_var rfl) (l2.low e06) e07 (by omega) (fun _ => rfl) (fun _ => rfl) (fun c ns H8 e8 hns hc => ?_) (fun b3 as3 H8 e8 _ l3 => ?_))
        · obtain ⟨f1, hf1, h2⟩ := List.mem_flatMap.mp hns
          obtain ⟨x, hx2, rfl⟩ := List.mem_map.mp h2
          obtain ⟨lf, lo⟩ := lvl_low hf1
          have e58 := e6.trans (e7.trans e8)
          refine et_val (ev_callV (v := .bl (allOk p2.2.1 (grp (lcs p p2) k) (f1 ++ [x]))) (grp (lcs p p2) k, p2.2.1, f1 ++ [x]) (ea_cons (ev_var rfl) (ea_cons (ev_var rfl) (ea_cons (ev_var rfl) ea_nil))) (fun H9 e9 => ⟨⟨_, ws, _, rfl, (e58.trans e9) _ _ hws, paired_imp (fun _ _ zz => LcV.et (Dw.Ex.et (e58.trans e9)) zz) pws, sq_of (e9 _ _ hc)⟩, n26, fun y hy => ?_, fun c' hc' => ?_⟩) (fun _ _ z => z))
          · rcases List.mem_append.mp hy with zz | zz
            · exact lo y zz
            · rw [List.mem_singleton.mp zz]
              exact List.mem_range.mp hx2
          · have hm := List.mem_filter.mp hc'
            have gk := of_decide_eq_true hm.2
            obtain ⟨l2', _, _, tb'⟩ := lcs_gd ok ok2 es (f := List.replicate p.2.1 0) (by simp) c' hm.1
            exact ⟨l2', fun y hy => by
              have := grt_lt (c := c') (.inl hy)
              rw [List.length_append, lf]
              show y < k + 1
              omega, by
              have := grt_lt (c := c') (.inr rfl)
              rw [List.length_append, lf]
              show _ < k + 1
              omega, tb'⟩
        · exact ⟨e6.trans (e7.trans e8), b3, as3, _, _, l3, rfl⟩
    · subst hσ
      rw [List.length_map, cg.len] at ll
      exact s_ret (ev_var rfl) fun H7 e7 => q b as H7 (e03.trans (e35.trans (e6.trans e7))) (ll.ex e7)
end
end K72
end
section
namespace K72
open PySem PySem.Spec PyProof.Rows L2 Evl RZ Dw M20 M25 CL LD
section
variable {P : Program} {w : World} {K : PySem.W.Frag} {mg : Str → Option Value} {base : Heap}
def sp_place_T (K : PySem.W.Frag) : Sp := spX (fun (p : Nat × List Nat) vs H => (∃ v, vs = [vi p.1, v] ∧ Nats K H v p.2) ∧ p.1 ≤ 6 ∧ p.2.length ≤ 2 ∧ ∀ k ∈ p.2, k < p.1) (fun p v _ => v = vi (plc p.1 p.2))
theorem c_place_of_rowT (T : Txt mg) (D : Df K mg "place_of_row" s_place_of_row ["size", "row"]) : Cl P w K mg base 1 "place_of_row" (sp_place_T K) := by
  refine cl_of (k := 0) D sc_place_of_row (fun vs H Q E h => ?_) (fun f cdv A outer s H vs Q E hr h => ?_)
  · obtain ⟨p, ⟨⟨l, rfl, _⟩, _⟩, _⟩ := h
    rfl
  · obtain ⟨⟨n, ns⟩, ⟨⟨v, rfl, ⟨l, rfl, hl⟩⟩, n6, l2, low⟩, q⟩ := h
    refine ⟨_, (pss_cons (ps_set (i := 2) sc_place_of_row.nd rfl (.inl rfl) pe_int)
      (pss_cons (ps_for PassesOwn.never (by rfl) (pi_tup (pv 1)) (pg_name (i := 3) sc_place_of_row.nd rfl (.inl rfl))
        (pss_one (ps_set (i := 2) sc_place_of_row.nd rfl (.inl rfl) (pe_op op_add (pe_op op_mul (pv 2) (pv 0)) (pv 3)))))
      (pss_one (ps_ret (pv 2))))), ?_⟩
    replace hl : SqT K H l (ns.map vi) := hl
    replace n6 : n ≤ 6 := n6
    replace l2 : ns.length ≤ 2 := l2
    replace low : ∀ k ∈ ns, k < n := low
    refine q_asg (v := vi 0) ev_c fun H1 e1 => ?_
    refine q_forT (K := K) (ev_var rfl) (ex_t e1 hl) (fun i σ H' => Ex H H' ∧ ∃ y : Option V, σ = [some (vi n), some (.ref l), some (vi (plc n (ns.take i))), y]) (fun H2 e2 => ⟨e1.trans e2, none, rfl⟩) (fun i σ H' _ ⟨e, _⟩ => ex_t e hl) (fun i x σ H2 hx hP => ?_) (fun σ H2 hP => ?_)
    · obtain ⟨e2, y, hσ⟩ := hP
      subst hσ
      rw [List.getElem?_map] at hx
      cases hk : ns[i]? with
      | none =>
        rw [hk] at hx
        cases hx
      | some k =>
        rw [hk] at hx
        cases Option.some.inj hx
        have small : plc n (ns.take i) ≤ 1000 := by
          have a := plc_low (n := n) (ns := ns.take i) (fun k h => low k (List.mem_of_mem_take h)) (by rw [List.length_take]; omega)
          have b := pow_36 (p := (ns.take i).length) n6 (by rw [List.length_take]; omega)
          omega
        refine s_asg (v := vi (plc n (ns.take (i + 1)))) (ev_is (ev_addN (ev_mulN (ev_var rfl) (ev_var rfl) small (by omega)) (ev_var rfl)) (by rw [plc_take hk])) fun H3 e3 => ?_
        exact ⟨e2.trans e3, _, rfl⟩
    · obtain ⟨e2, y, hσ⟩ := hP
      subst hσ
      rw [List.length_map, List.take_length]
      exact s_ret (ev_var rfl) fun H3 e3 => q _ H3 (e2.trans e3) rfl
/-! ### the cells in their order -/
def ordc (n : Nat) (sg : List (Str × Nat)) : List (Str × List Nat) := (List.range (n + 1)).flatMap fun t => (allc n sg).filter fun c => decide (need c.2 = t)
def ordT (n : Nat) (sg : List (Str × Nat)) (t : Nat) : List (Str × List Nat) := (allc n sg).filter fun c => decide (need c.2 = t)
theorem ord_few {n : Nat} {sg : List (Str × Nat)} (n6 : n ≤ 6) (so : SigOk sg) (t : Nat) : ((List.range t).flatMap fun t => ordT n sg t).length ≤ 144 := by
  have h := allc_few n6 so sg.length
  rw [List.take_of_length_le (Nat.le_refl _)] at h
  refine Nat.le_trans ?_ h
  rw [show ((List.range t).flatMap fun t => ordT n sg t) = ((List.range t).flatMap fun t => (allc n sg).filter fun c => decide (need c.2 = t)) from rfl, (levels_perm (fun c : Str × List Nat => need c.2) (allc n sg) t).length_eq]
  exact List.length_filter_le _ _
def sp_order (K : PySem.W.Frag) : Sp := fun vs H Q _ => ∃ (sg : List (Str × Nat)) (n : Nat) (u : V), vs = [u, vi n] ∧ Sig K H u sg ∧ SigOk sg ∧ n ≤ 6 ∧ ∀ a vs' H', Ex H H' → H a = none → H' a = some (.lst vs') → Paired (ArgV K H') vs' (ordc n sg) → Q (.ref a) H'
theorem c_cells_in_order (T : Txt mg) (D : Df K mg "cells_in_order" s_cells_in_order ["signature", "size"]) (c_rows_below : Cl P w K mg base 1 "rows_below" (sp_rows_below K)) : Cl P w K mg base 2 "cells_in_order" (sp_order K) := by
  refine cl_of (k := 1) D sc_cells_in_order (fun vs H Q E h => ?_) (fun f cdv A outer s H vs Q E hr h => ?_)
  · obtain ⟨sg, n, u, rfl, _⟩ := h
    rfl
  · obtain ⟨sg, n, u, rfl, hG, sok, n6, q⟩ := h
    refine ⟨_, (pss_cons (ps_set (i := 2) sc_cells_in_order.nd rfl (.inl rfl) (pe_lst pa_nil))
      (pss_cons (ps_for PassesOwn.never (by rfl) (pi_range2 (by rfl) T.z_range (pa_cons (pe_un un_neg pe_int) (pa_cons (pv 1) pa_nil))) (pg_name (i := 3) sc_cells_in_order.nd rfl (.inl rfl))
        (pss_one (ps_for PassesOwn.never (by rfl) (pi_tup (pv 0)) (pg_tup (by rfl) (pgs_cons (pg_name (i := 4) sc_cells_in_order.nd rfl (.inl rfl)) (pgs_cons (pg_name (i := 5) sc_cells_in_order.nd rfl (.inl rfl)) pgs_nil)))
          (pss_one (ps_for PassesOwn.never (by rfl) (pi_list (pe_cl c_rows_below hr (by first | decide | omega) (by rfl) (pa_cons (pv 1) (pa_cons (pv 5) pa_nil)))) (pg_name (i := 6) sc_cells_in_order.nd rfl (.inl rfl))
            (pss_one (ps_if (pt_cmpR op_eq (pe_callBK (cr_maxD rfl hr) (by rfl) T.z_max (by decide +kernel) (pa_cons (pv 6) pa_nil) (pk_cons (pe_un un_neg pe_int) pk_nil)) (pv 3) (nomark _))
              (pss_one (ps_expr (pe_bm PySem.F.plainAttrs_list PySem.F.slot_list_append PySem.F.type_list_append mt_append (pv 2) (pa_cons (pe_tup (pa_cons (pv 4) (pa_cons (pv 6) pa_nil))) pa_nil))))
              pss_nil)))))))
      (pss_one (ps_ret (pv 2))))), ?_⟩
    obtain ⟨a, us, rfl, hS, hP⟩ := id hG
    have lS : us.length = sg.length := paired_len hP
    refine q_asgL (el_lst ea_nil (Nat.zero_le _)) fun m H1 nm e1 hm => ?_
    refine q_forR2s (ea_cons (ev_un ev_c ru_neg) (ea_cons (ev_var rfl) ea_nil) H1 (Ex.refl _) _ fun H2 e2 => ⟨-1, (n : Int), rfl, ⟨by decide, by decide, by omega, by omega⟩, ?_⟩)
    have en : ((n : Int) - (-1)).toNat = n + 1 := by omega
    rw [en]
    have e02 := e1.trans e2
    refine qloops_rng (fun t σ H' => Ex H H' ∧ (∃ ws, H' m = some (.lst ws) ∧ Paired (ArgV K H') ws ((List.range t).flatMap fun t => ordT n sg t)) ∧ ∃ y3 y4 y5 y6, σ = [some (.ref a), some (vi n), some (.ref m), y3, y4, y5, y6])
      ⟨e02, ⟨[], e2 _ _ hm, .nil⟩, none, none, none, none, rfl⟩ (fun t σ' H3 ht ⟨e3, ⟨ws, hws, pws⟩, y3, y4, y5, y6, hσ⟩ => ?_) (fun σ' H3 ⟨e3, ⟨ws, hws, pws⟩, y3, y4, y5, y6, hσ⟩ => ?_)
    · subst hσ
      have f0 := ord_few n6 sok t
      refine do_name ?_
      show tFor _ _ _ _ [some (.ref a), some (vi n), some (.ref m), some (.int (-1 + (t : Int))), y4, y5, y6] H3
      refine s_forT (K := K) (ev_var rfl) (ex_t e3 hS) (fun i σ H' => Ex H H' ∧ (∃ ws, H' m = some (.lst ws) ∧ Paired (ArgV K H') ws (((List.range t).flatMap fun t => ordT n sg t) ++ ordT n (sg.take i) t)) ∧ ∃ y4 y5 y6, σ = [some (.ref a), some (vi n), some (.ref m), some (.int (-1 + (t : Int))), y4, y5, y6])
        (fun H4 e4 => ⟨e3.trans e4, ⟨ws, e4 _ _ hws, by
          have : ordT n (sg.take 0) t = [] := rfl
          rw [this, List.append_nil]
          exact paired_imp (fun _ _ z => ArgV.et (Dw.Ex.et e4) z) pws⟩, y4, y5, y6, rfl⟩) (fun i σ' H' _ ⟨e, _⟩ => ex_t e hS) (fun i x σ' H4 hx ⟨e4, ⟨ws4, hws4, pws4⟩, y4, y5, y6, hσ⟩ => ?_) (fun σ' H4 ⟨e4, ⟨ws4, hws4, pws4⟩, y4, y5, y6, hσ⟩ => ?_)
      · subst hσ
        obtain ⟨d, hd, b, rfl, hb⟩ := paired_at hP hx
        have mem := List.mem_iff_getElem?.mpr ⟨i, hd⟩
        have p2 := sok.pl d mem
        have fi : (ordT n (sg.take i) t).length ≤ 144 := Nat.le_trans (List.length_filter_le _ _) (allc_few n6 sok i)
        refine ⟨b, _, rfl, ex_t e4 hb, rfl, _, _, rfl, _, _, rfl, rfl, ?_⟩
        refine s_forLs (do_evP (ep_callF (n, d.2) (ea_cons (ev_var rfl) (ea_cons (ev_var rfl) ea_nil)) (fun _ _ => ⟨rfl, n6, p2⟩)) fun rv H5 e5 ⟨⟨ra, rvs, hra, hrl, prs⟩, nra⟩ => ⟨ra, hra, ⟨rvs, sq_of hrl⟩, ?_⟩)
        subst hra
        replace prs : Paired (Nats K H5) rvs (rows n d.2) := prs
        have lrv := paired_len prs
        rw [rows_len'] at lrv
        have big := pow_36 n6 p2
        have ram : ra ≠ m := fun zz => by have := nra _ rfl; rw [zz, hws4] at this; cases this
        refine loops_list (K := K) (xs := rvs) (fun j σ H' => Ex H H' ∧ H' ra = some (.lst rvs) ∧ Paired (Nats K H') rvs (rows n d.2) ∧ (∃ ws2, H' m = some (.lst ws2) ∧ Paired (ArgV K H') ws2 (((List.range t).flatMap fun t => ordT n sg t) ++ ordT n (sg.take i) t ++ (((rows n d.2).take j).map fun r => (d.1, r)).filter fun c => decide (need c.2 = t)) ∧ ws2.length ≤ 288 + j) ∧ ∃ y6, σ = [some (.ref a), some (vi n), some (.ref m), some (.int (-1 + (t : Int))), some (.str d.1), some (vi d.2), y6])
          ⟨e4.trans e5, hrl, prs, ⟨ws4, e5 _ _ hws4, by
            rw [List.take_zero]
            show Paired _ _ (_ ++ [])
            rw [List.append_nil]
            exact paired_imp (fun _ _ z => ArgV.et (Dw.Ex.et e5) z) pws4, by rw [paired_len pws4, List.length_append]; omega⟩, _, rfl⟩ (fun j σ' H' _ ⟨_, hr, _⟩ => sq_of hr) (fun j y σ' H6 hy ⟨e6, hr6, pr6, ⟨ws2, hw2, pw2, lw2⟩, y6', hσ⟩ => ?_) (fun σ' H6 ⟨e6, hr6, pr6, ⟨ws2, hw2, pw2, lw2⟩, y6', hσ⟩ => ?_)
        · subst hσ
          obtain ⟨row, hrow, xa, rfl, hxa⟩ := paired_at pr6 hy
          have hj := (List.getElem?_eq_some_iff.mp hy).1
          have snoc : (((rows n d.2).take (j + 1)).map fun r => (d.1, r)).filter (fun c => decide (need c.2 = t)) = ((((rows n d.2).take j).map fun r => (d.1, r)).filter fun c => decide (need c.2 = t)) ++ ([(d.1, row)].filter fun c => decide (need c.2 = t)) := by
            rw [List.take_add_one, hrow, List.map_append, List.filter_append]
            rfl
          refine do_name ?_
          show tIfS _ _ _ _ [some (.ref a), some (vi n), some (.ref m), some (.int (-1 + (t : Int))), some (.str d.1), some (vi d.2), some (.ref xa)] H6
          refine s_when (b := decide (V.int (((need row : Nat) : Int) - 1) = V.int (-1 + (t : Int)))) (et_test (ev_op (ev_maxD (K := K) (ea_cons (ev_var rfl) ea_nil) (ea_cons (ev_un ev_c ru_neg) ea_nil) hxa) (ev_var rfl) (rv_eq rfl))) (fun hb2 H7 e7 => ?_) (fun hb2 H7 e7 => ?_)
          · have hnt : need row = t := by
              have := V.int.inj (of_decide_eq_true hb2)
              omega
            have hm7 := e7 _ _ hw2
            refine s_appP hm7 (ev_var rfl) (tv_tup (K := K) (xs := [.str d.1, .ref xa]) (ea_cons (ev_var rfl) (ea_cons (ev_var rfl) ea_nil)) (by show 2 ≤ 100000; decide)) (by omega) fun v H8 e8 ⟨vb, hv, hvb⟩ => ?_
            subst hv
            have hm8 := e8 _ _ hm7
            have et : ET K H8 (upd H8 m (.lst (ws2 ++ [.ref vb]))) := ET.refl.upd hm8
            refine ⟨(e6.trans (e7.trans e8)).mut nm, by rw [upd_ne ram]; exact (e7.trans e8) _ _ hr6, paired_imp (fun _ _ z => (z.ex (e7.trans e8)).et et) pr6, ⟨ws2 ++ [.ref vb], upd_same, ?_, by rw [List.length_append]; show _ + 1 ≤ _; omega⟩, _, rfl⟩
            rw [snoc, List.filter_cons_of_pos (by rw [hnt]; exact decide_eq_true rfl), List.filter_nil, ← List.append_assoc]
            exact paired_snoc' (R := ArgV K (upd H8 m (.lst (ws2 ++ [.ref vb])))) (x := .ref vb) (y := (d.1, row)) ⟨vb, .ref xa, rfl, et _ _ hvb, xa, rfl, et _ _ (ex_t (e7.trans e8) hxa)⟩ (paired_imp (fun _ _ z => ArgV.et (ET.trans (Dw.Ex.et (e7.trans e8)) et) z) pw2)
          · have hnt : need row ≠ t := fun zz => by
              rw [zz] at hb2
              have e : ((t : Nat) : Int) - 1 = -1 + (t : Int) := by omega
              rw [e, decide_eq_true rfl] at hb2
              cases hb2
            refine ⟨e6.trans e7, e7 _ _ hr6, paired_imp (fun _ _ z => z.ex e7) pr6, ⟨ws2, e7 _ _ hw2, ?_, by omega⟩, _, rfl⟩
            rw [snoc, List.filter_cons_of_neg (by rw [decide_eq_true_iff]; exact hnt), List.filter_nil, List.append_nil]
            exact paired_imp (fun _ _ z => ArgV.et (Dw.Ex.et e7) z) pw2
        · subst hσ
          refine ⟨e6, ⟨ws2, hw2, ?_⟩, _, _, _, rfl⟩
          rw [show (rows n d.2).take rvs.length = rows n d.2 from List.take_of_length_le (by rw [lrv, rows_len']; exact Nat.le_refl _), List.append_assoc] at pw2
          have : ordT n (sg.take (i + 1)) t = ordT n (sg.take i) t ++ ((rows n d.2).map fun r => (d.1, r)).filter fun c => decide (need c.2 = t) := by
            unfold ordT allc
            rw [List.take_add_one, hd, List.flatMap_append, List.filter_append]
            simp
          rw [this]
          exact pw2
      · subst hσ
        refine ⟨e4, ⟨ws4, hws4, ?_⟩, _, _, _, _, rfl⟩
        rw [lS, List.take_of_length_le (Nat.le_refl _)] at pws4
        rw [List.range_succ, List.flatMap_append, List.flatMap_singleton]
        exact pws4
    · subst hσ
      exact s_ret (ev_var rfl) fun H4 e4 => q m ws H4 (e3.trans e4) nm (e4 _ _ hws) (paired_imp (fun _ _ z => ArgV.et (Dw.Ex.et e4) z) pws)
/-! ### the first cell at which images are no lead -/
def lcOf (p p2 : MArg) (c : Str × List Nat) : LC := (c.2, g (tbOf p.1 p.2.2 c.1) (plc p.2.1 c.2), tbOf p.1 p2.2.2 c.1)
def fod (p p2 : MArg) (f : List Nat) : Option (Str × List Nat) := (ordc p.2.1 p.1).find? fun c => !okC p2.2.1 f (lcOf p p2 c)
def OddV (K : PySem.W.Frag) (H : Hp) (v : V) : Option (Str × List Nat) → Prop
  | none => v = .non
  | some c => ArgV K H v c
def sp_first_odd_lead (K : PySem.W.Frag) : Sp := spX (fun (p : MArg × MArg × List Nat) vs H => (∃ u v w a, vs = [u, v, w, .ref a] ∧ MA K H u v p.1 ∧ Mdl K H w p.2.1.2.1 p.2.1.2.2 ∧ SqL K H a (p.2.2.map vi)) ∧ MOk p.1 ∧ MOk p.2.1 ∧ p.2.1.1 = p.1.1 ∧ p.2.2.length = p.1.2.1 ∧ ∀ y ∈ p.2.2, y < p.2.1.2.1) (fun p v H => OddV K H v (fod p.1 p.2.1 p.2.2))
theorem ordc_mem {n : Nat} {sg : List (Str × Nat)} {c : Str × List Nat} (h : c ∈ ordc n sg) : c ∈ allc n sg := by
  unfold ordc at h
  obtain ⟨t, _, hc⟩ := List.mem_flatMap.mp h
  exact (List.mem_filter.mp hc).1
theorem lcOf_gd {p p2 : MArg} (ok : MOk p) (ok2 : MOk p2) (es : p2.1 = p.1) {f : List Nat} (lf : f.length = p.2.1) {c : Str × List Nat} (hc : c ∈ allc p.2.1 p.1) : ∃ (d : Str × Nat) (i : Nat), p.1[i]? = some d ∧ c.1 = d.1 ∧ d.2 ≤ 2 ∧ c.2.length = d.2 ∧ (∀ x ∈ c.2, x < p.2.1) ∧ (∃ h : i < p.2.2.length, tbOf p.1 p.2.2 c.1 = p.2.2[i]) ∧ plc p.2.1 c.2 < (tbOf p.1 p.2.2 c.1).length ∧ GdC p2.2.1 f (lcOf p p2 c) := by
  obtain ⟨i, d, hi, hcd, hr⟩ := sig_at ok hc
  have p2' := ok.1.pl d (List.mem_iff_getElem?.mpr ⟨i, hi⟩)
  obtain ⟨lr, rl⟩ := rows_of hr
  obtain ⟨il, e1, tb⟩ := tbOf_sig ok ok rfl hi
  obtain ⟨il2, e2, tb2⟩ := tbOf_sig ok ok2 es hi
  have pl := plc_low rl (by rw [lr]; exact p2')
  have pl' : plc p.2.1 c.2 < (tbOf p.1 p.2.2 c.1).length := by
    rw [hcd, e1, tb.len, ← lr]
    exact pl
  refine ⟨d, i, hi, hcd, p2', lr, rl, ⟨il, by rw [hcd, e1]⟩, pl', by show c.2.length ≤ 2; omega, fun x hx => by rw [lf]; exact rl x hx, ?_, ?_⟩
  · rw [lf]
    show g (tbOf p.1 p.2.2 c.1) (plc p.2.1 c.2) < p.2.1
    rw [hcd, e1]
    refine tb.low _ ?_
    rw [← lr]
    exact pl
  · show (tbOf p.1 p2.2.2 c.1).length = p2.2.1 ^ c.2.length
    rw [hcd, e2, tb2.len, lr]
end
end K72
end
section
namespace K72
open PySem PySem.Spec PyProof.Rows L2 Evl RZ Dw M20
/-! data whose lists are none of the purse's -/
mutual
inductive Dz (K : PySem.W.Frag) (p c : Addr) (H : Hp) : V → PyData → Prop where
  | non : Dz K p c H .non .none
  | bl (b : Bool) : Dz K p c H (.bl b) (.bool b)
  | int (i : Int) : Dz K p c H (.int i) (.int i)
  | str (x : Str) : Dz K p c H (.str x) (.str x)
  | lst {a : Addr} {xs : List V} {ds : List PyData} (h : H a = some (.lst xs)) (hp : a ≠ p) (hc : a ≠ c) (r : DzAll K p c H xs ds) : Dz K p c H (.ref a) (.list ds)
  | tup {a : Addr} {xs : List V} {ds : List PyData} (h : SqT K H a xs) (r : DzAll K p c H xs ds) : Dz K p c H (.ref a) (.tuple ds)
inductive DzAll (K : PySem.W.Frag) (p c : Addr) (H : Hp) : List V → List PyData → Prop where
  | nil : DzAll K p c H [] []
  | cons {v : V} {vs : List V} {d : PyData} {ds : List PyData} (a : Dz K p c H v d) (b : DzAll K p c H vs ds) : DzAll K p c H (v :: vs) (d :: ds)
end
section
variable {P : Program} {w : World} {K : PySem.W.Frag} {mg : Str → Option Value} {base : Heap} {σ : L2.St} {H H' : Hp} {p c : Addr} {n : Nat} {v : V} {d : PyData}
mutual
theorem Dz.dp : ∀ {v : V} {d : PyData}, Dz K p c H v d → Dp K H v d
  | _, _, .non => .non
  | _, _, .bl b => .bl b
  | _, _, .int i => .int i
  | _, _, .str x => .str x
  | _, _, .lst h _ _ r => .lst (sq_of h) (DzAll.dp r)
  | _, _, .tup h r => .tup h (DzAll.dp r)
theorem DzAll.dp : ∀ {vs : List V} {ds : List PyData}, DzAll K p c H vs ds → DpAll K H vs ds
  | _, _, .nil => .nil
  | _, _, .cons a b => .cons (Dz.dp a) (DzAll.dp b)
end
mutual
theorem Dz.ex (e : Ex H H') : ∀ {v : V} {d : PyData}, Dz K p c H v d → Dz K p c H' v d
  | _, _, .non => .non
  | _, _, .bl b => .bl b
  | _, _, .int i => .int i
  | _, _, .str x => .str x
  | _, _, .lst h hp hc r => .lst (e _ _ h) hp hc (DzAll.ex e r)
  | _, _, .tup h r => .tup (ex_t e h) (DzAll.ex e r)
theorem DzAll.ex (e : Ex H H') : ∀ {vs : List V} {ds : List PyData}, DzAll K p c H vs ds → DzAll K p c H' vs ds
  | _, _, .nil => .nil
  | _, _, .cons a b => .cons (Dz.ex e a) (DzAll.ex e b)
end
mutual
theorem Dz.off (pu : Pur H p c n) (o : Off H H' p c) : ∀ {v : V} {d : PyData}, Dz K p c H v d → Dz K p c H' v d
  | _, _, .non => .non
  | _, _, .bl b => .bl b
  | _, _, .int i => .int i
  | _, _, .str x => .str x
  | _, _, .lst h hp hc r => .lst (o _ _ hp hc h) hp hc (DzAll.off pu o r)
  | _, _, .tup h r => .tup (o.et pu _ _ h) (DzAll.off pu o r)
theorem DzAll.off (pu : Pur H p c n) (o : Off H H' p c) : ∀ {vs : List V} {ds : List PyData}, DzAll K p c H vs ds → DzAll K p c H' vs ds
  | _, _, .nil => .nil
  | _, _, .cons a b => .cons (Dz.off pu o a) (DzAll.off pu o b)
end
theorem DzAll.len : ∀ {vs : List V} {ds : List PyData}, DzAll K p c H vs ds → vs.length = ds.length
  | _, _, .nil => rfl
  | _, _, .cons a b => by rw [List.length_cons, List.length_cons, DzAll.len b]
theorem DzAll.get : ∀ {vs : List V} {ds : List PyData} {k : Nat} {x : V}, DzAll K p c H vs ds → vs[k]? = some x → ∃ e, ds[k]? = some e ∧ Dz K p c H x e
  | _, _, k, _, .nil, h => by
    rw [List.getElem?_nil] at h
    cases h
  | _, _, 0, x, .cons a b, h => by
    cases Option.some.inj h
    exact ⟨_, rfl, a⟩
  | _, _, k + 1, x, .cons a b, h => DzAll.get (k := k) b h
theorem DzAll.take : ∀ {vs : List V} {ds : List PyData} (k : Nat), DzAll K p c H vs ds → DzAll K p c H (vs.take k) (ds.take k)
  | _, _, k, .nil => by
    rw [List.take_nil, List.take_nil]
    exact .nil
  | _, _, 0, .cons a b => .nil
  | _, _, k + 1, .cons a b => .cons a (DzAll.take k b)
theorem DzAll.drop : ∀ {vs : List V} {ds : List PyData} (k : Nat), DzAll K p c H vs ds → DzAll K p c H (vs.drop k) (ds.drop k)
  | _, _, k, .nil => by
    rw [List.drop_nil, List.drop_nil]
    exact .nil
  | _, _, 0, .cons a b => .cons a b
  | _, _, k + 1, .cons a b => DzAll.drop k b
/-! bounded data, ints of up to forty signs -/
structure Gb (k W : Nat) (d : PyData) : Prop where
  lay : d.canLay0 = true
  dep : d.depth ≤ k
  wgt : d.weight ≤ W
  its : d.intsShort 40 = true
  sho : d.showable = true
theorem Gb.mono {k W k' W' : Nat} {d : PyData} (h : Gb k W d) (a : k ≤ k') (b : W ≤ W') : Gb k' W' d := ⟨h.lay, Nat.le_trans h.dep a, Nat.le_trans h.wgt b, h.its, h.sho⟩
mutual
theorem ints_mono : ∀ d : PyData, d.intsShort 13 = true → d.intsShort 40 = true
  | .none, _ => by rw [PyData.intsShort]
  | .bool _, _ => by rw [PyData.intsShort]
  | .str _, _ => by rw [PyData.intsShort]
  | .dict _, _ => by rw [PyData.intsShort]
  | .int i, h => by
    rw [PyData.intsShort, decide_eq_true_eq] at h ⊢
    omega
  | .list xs, h => by
    rw [PyData.intsShort] at h ⊢
    exact ints_monos xs h
  | .tuple xs, h => by
    rw [PyData.intsShort] at h ⊢
    exact ints_monos xs h
theorem ints_monos : ∀ ds : List PyData, PyData.intsShortAll 13 ds = true → PyData.intsShortAll 40 ds = true
  | [], _ => by rw [PyData.intsShortAll]
  | d :: ds, h => by
    rw [PyData.intsShortAll, Bool.and_eq_true] at h ⊢
    exact ⟨ints_mono d h.1, ints_monos ds h.2⟩
end
theorem Gd.gb {k W : Nat} {d : PyData} (h : Gd k W d) : Gb k W d := ⟨h.lay, h.dep, h.wgt, ints_mono d h.its, h.sho⟩
theorem Gb.len {k W : Nat} {d : PyData} (h : Gb k W d) (b : W ≤ 100000) : d.shown.length ≤ sizeLine := by
  have z := PyData.shown_le 40 (by decide) d (PyData.leavesShort_of_canLay0 40 d h.lay h.its)
  have y := h.wgt
  rw [sizeLine_eq]
  omega
/-! what isinstance says -/
def isTup : PyData → Bool
  | .tuple _ => true
  | _ => false
def wholeB : PyData → Bool
  | .int _ => true
  | _ => false
theorem ev_isTup {ta tb : TE} (ha : Ev ta σ H v) (hc : Ev tb σ H (.ty "tuple")) (h : Dz K p c H v d) : Ev (tCB (rIsi K) (tCons ta (tCons tb tNil))) σ H (.bl (isTup d)) := by
  cases h with
  | non => exact ev_isi (b := false) ha hc (.ty _) (fun _ _ => tyx_non) (kit_ty (by decide +kernel))
  | bl b => exact ev_isi (b := false) ha hc (.ty _) (fun _ _ => tyx_bl b) (kit_ty (by decide +kernel))
  | int i => exact ev_isi (b := false) ha hc (.ty _) (fun _ _ => tyx_int i) (kit_ty (by decide +kernel))
  | str z => exact ev_isi (b := false) ha hc (.ty _) (fun _ _ => tyx_str z) (kit_ty (by decide +kernel))
  | lst h _ _ _ => exact ev_isi (b := false) ha hc (.ty _) (fun _ e => .base (.lst (e _ _ h))) (kit_ty (by decide +kernel))
  | tup h _ => exact ev_isi (b := true) ha hc (.ty _) (fun _ e => tyx_tup (ex_t e h)) (kit_ty (by decide +kernel))
theorem ev_isIntB {ta tb tc td : TE} (ha : Ev ta σ H v) (hc : Ev tb σ H (.ty "int")) (ha2 : Ev tc σ H v) (hc2 : Ev td σ H (.ty "bool")) (h : Dz K p c H v d) : Ev (tAndV (tCB (rIsi K) (tCons ta (tCons tb tNil))) (tNotV (tCB (rIsi K) (tCons tc (tCons td tNil))))) σ H (.bl (wholeB d)) := by
  cases h with
  | non => exact ev_andV (a := false) (b := false) (ev_isi ha hc (.ty _) (fun _ _ => tyx_non) (kit_ty (by decide +kernel))) (fun z => by cases z)
  | bl b => exact ev_andV (a := true) (b := false) (ev_isi ha hc (.ty _) (fun _ _ => tyx_bl b) (kit_ty (by decide +kernel))) (fun _ => ev_notV (a := true) (ev_isi ha2 hc2 (.ty _) (fun _ _ => tyx_bl b) (kit_ty (by decide +kernel))))
  | int i => exact ev_andV (a := true) (b := true) (ev_isi ha hc (.ty _) (fun _ _ => tyx_int i) (kit_ty (by decide +kernel))) (fun _ => ev_notV (a := false) (ev_isi ha2 hc2 (.ty _) (fun _ _ => tyx_int i) (kit_ty (by decide +kernel))))
  | str z => exact ev_andV (a := false) (b := false) (ev_isi ha hc (.ty _) (fun _ _ => tyx_str z) (kit_ty (by decide +kernel))) (fun z => by cases z)
  | lst h _ _ _ => exact ev_andV (a := false) (b := false) (ev_isi ha hc (.ty _) (fun _ e => .base (.lst (e _ _ h))) (kit_ty (by decide +kernel))) (fun z => by cases z)
  | tup h _ => exact ev_andV (a := false) (b := false) (ev_isi ha hc (.ty _) (fun _ e => tyx_tup (ex_t e h)) (kit_ty (by decide +kernel))) (fun z => by cases z)
end
def belowB (n : Int) : PyData → Bool
  | .int i => decide (0 ≤ i) && decide (i < n)
  | _ => false
section
variable {P : Program} {w : World} {K : PySem.W.Frag} {mg : Str → Option Value} {base : Heap} {σ : L2.St} {H H' : Hp} {p c : Addr} {n : Nat} {v : V} {d : PyData}
def sp_whole_any (K : PySem.W.Frag) : Sp := spX (fun (z : (Addr × Addr) × PyData) vs H => (fun (p c : Addr) (d : PyData) => ∃ v, vs = [v] ∧ Dz K p c H v d) z.1.1 z.1.2 z.2) (fun z v H => (fun (d : PyData) => v = .bl (wholeB d)) z.2)
theorem c_whole_any (T : Txt mg) (D : Df K mg "is_whole" s_is_whole ["thing"]) : Cl P w K mg base 1 "is_whole" (sp_whole_any K) := by
  refine cl_of (k := 0) D sc_is_whole (fun vs H Q E h => ?_) (fun f cdv A outer s H vs Q E hr h => ?_)
  · obtain ⟨d, ⟨v, rfl, _⟩, _⟩ := h
    rfl
  · obtain ⟨⟨⟨p, c⟩, d⟩, ⟨v, rfl, hv⟩, q⟩ := h
    refine ⟨_, (pss_one (ps_ret (pe_and (pe_callB call_isi (by rfl) T.z_isinstance (by decide +kernel) (pa_cons (pv 0) (pa_cons (pe_ty "int" (by rfl) T.z_int (by decide +kernel)) pa_nil))) (pe_one (pe_not (pe_callB call_isi (by rfl) T.z_isinstance (by decide +kernel) (pa_cons (pv 0) (pa_cons (pe_ty "bool" (by rfl) T.z_bool (by decide +kernel)) pa_nil)))))))), ?_⟩
    exact s_ret (ev_isIntB (K := K) (ev_var rfl) ev_c (ev_var rfl) ev_c hv) fun H1 e1 => q _ H1 e1 rfl
theorem whole_int (h : Dz K p c H v d) (w : wholeB d = true) : ∃ i, v = .int i ∧ d = .int i := by
  cases h with
  | int i => exact ⟨i, rfl, rfl⟩
  | non => cases w
  | bl b => cases w
  | str z => cases w
  | lst _ _ _ _ => cases w
  | tup _ _ => cases w
def sp_below_any (K : PySem.W.Frag) : Sp := spX (fun (z : (Addr × Addr) × PyData × Int) vs H => (fun (p c : Addr) (q : PyData × Int) => ∃ v, vs = [v, .int q.2] ∧ Dz K p c H v q.1) z.1.1 z.1.2 z.2) (fun z v H => (fun (q : PyData × Int) => v = .bl (belowB q.2 q.1)) z.2)
theorem c_below_any (T : Txt mg) (D : Df K mg "is_below" s_is_below ["thing", "size"]) (c_whole_any : Cl P w K mg base 1 "is_whole" (sp_whole_any K)) : Cl P w K mg base 2 "is_below" (sp_below_any K) := by
  refine cl_of (k := 1) D sc_is_below (fun vs H Q E h => ?_) (fun f cdv A outer s H vs Q E hr h => ?_)
  · obtain ⟨d, ⟨v, rfl, _⟩, _⟩ := h
    rfl
  · obtain ⟨⟨⟨p, c⟩, d, n⟩, ⟨v, rfl, hv⟩, q⟩ := h
    have c_is_whole := c_whole_any
    refine ⟨_, (pss_one (ps_ret (pe_and (pe_cl c_is_whole hr (by first | decide | omega) (by rfl) (pa_cons (pv 0) pa_nil)) (pe_one (pe_chain op_le op_lt pe_int (pv 0) (pv 1)))))), ?_⟩
    replace hv : Dz K p c H v d := hv
    replace q : ∀ r H', Ex H H' → r = .bl (belowB n d) → Q r H' := q
    by_cases hw : wholeB d = true
    · obtain ⟨i, rfl, rfl⟩ := whole_int hv hw
      refine s_ret (ev_andV (a := true) (b := belowB n (.int i)) (ev_callV (v := .bl true) ((p, c), PyData.int i) (ea_cons (ev_var rfl) ea_nil) (fun H1 e1 => ⟨_, rfl, .int i⟩) (fun _ _ z => z.trans rfl)) (fun _ => ev_chain ev_c (ev_var rfl) (fun _ => ev_var rfl) rv_I0 (fun _ => rv_I0))) fun H1 e1 => q _ H1 e1 rfl
    · have hw2 : wholeB d = false := by simpa using hw
      refine s_ret (ev_andV (a := false) (b := false) (ev_callV (v := .bl false) ((p, c), d) (ea_cons (ev_var rfl) ea_nil) (fun H1 e1 => ⟨_, rfl, hv.ex e1⟩) (fun _ _ z => by rw [z, hw2])) (fun z => by cases z)) fun H1 e1 => q _ H1 e1 ?_
      cases d <;> first | rfl | cases hw2
end
end K72
end
section
namespace K72
open PySem PySem.Spec PyProof.Rows L2 Evl RZ Dw M20 M25 CL LD
section
variable {P : Program} {w : World} {K : PySem.W.Frag} {mg : Str → Option Value} {base : Heap} {σ : L2.St} {H : Hp} {ta tb : TE}
theorem ev_ixNP {ns : List Nat} {k : Nat} (ha : EvP ta σ H (fun v H' => Nats K H' v ns)) (hb : ∀ H1, Ex H H1 → Ev tb σ H1 (vi k)) (hk : k < ns.length) : Ev (tOp (rIxT K) ta tb) σ H (vi (g ns k)) := fun H1 e1 Q q =>
  do_op (ha H1 e1 _ fun v H2 e2 ⟨a, hv, hs⟩ => by
    subst hv
    exact do_ev (hb H2 (e1.trans e2)) fun H3 e3 => ⟨a, ns.map vi, ((k : Nat) : Int), vi (g ns k), rfl, rfl, ex_t e3 hs, atI_vi (k := k) (by rw [List.getElem?_map, g_eq hk]; rfl), q H3 (e2.trans e3)⟩)
theorem find_at {α : Type} {f : α → Bool} {c : α} : ∀ {L : List α} {i : Nat}, L[i]? = some c → (L.take i).all (fun x => !f x) = true → f c = true → L.find? f = some c
  | x :: L, 0, h, _, hc => by
    cases Option.some.inj h
    rw [List.find?_cons, hc]
  | x :: L, i + 1, h, hn, hc => by
    rw [List.take_succ_cons, List.all_cons, Bool.and_eq_true, Bool.not_eq_true'] at hn
    rw [List.find?_cons, hn.1]
    exact find_at (L := L) (i := i) h hn.2 hc
theorem find_no {α : Type} {f : α → Bool} {L : List α} (hn : L.all (fun x => !f x) = true) : L.find? f = none := by
  rw [List.find?_eq_none]
  intro x hx hf
  have := List.all_eq_true.mp hn x hx
  rw [hf] at this
  cases this
theorem c_first_odd_cell_leads (T : Txt mg) (D : DfQ K mg "first_odd_cell_leads" "first_odd_cell" s_first_odd_lead ["signature", "one", "other", "images"]) (c_cells_in_order : Cl P w K mg base 2 "cells_in_order" (sp_order K)) (c_table_of : Cl P w K mg base 1 "table_of" (sp_table_of K)) (c_place_of_rowT : Cl P w K mg base 1 "place_of_row" (sp_place_T K)) (c_leads_on : Cl P w K mg base 2 "leads_on" (sp_leads_on K)) : Cl P w K mg base 3 "first_odd_cell_leads" (sp_first_odd_lead K) := by
  refine cl_ofQ (k := 2) D sc_first_odd_lead (fun vs H Q E h => ?_) (fun f cdv A outer s H vs Q E hr h => ?_)
  · obtain ⟨p, ⟨⟨u, v, w, a, rfl, _⟩, _⟩, _⟩ := h
    rfl
  · obtain ⟨⟨p, p2, F⟩, ⟨⟨u, v, w, a, rfl, hm, hw, ha⟩, ok, ok2, es, lf, low⟩, q⟩ := h
    refine ⟨_, (pss_cons (ps_for PassesOwn.never (by rfl) (pi_list (pe_cl c_cells_in_order hr (by first | decide | omega) (by rfl) (pa_cons (pv 0) (pa_cons (pe_ix ix_tup (pv 1) pe_int (fun _ _ => rfl)) pa_nil)))) (pg_tup (by rfl) (pgs_cons (pg_name (i := 4) sc_first_odd_lead.nd rfl (.inl rfl)) (pgs_cons (pg_name (i := 5) sc_first_odd_lead.nd rfl (.inl rfl)) pgs_nil)))
        (pss_cons (ps_set (i := 6) sc_first_odd_lead.nd rfl (.inl rfl) (pe_ix ix_tup (pe_cl c_table_of hr (by first | decide | omega) (by rfl) (pa_cons (pv 0) (pa_cons (pe_ix ix_tup (pv 1) pe_int (fun _ _ => rfl)) (pa_cons (pv 4) pa_nil)))) (pe_cl c_place_of_rowT hr (by first | decide | omega) (by rfl) (pa_cons (pe_ix ix_tup (pv 1) pe_int (fun _ _ => rfl)) (pa_cons (pv 5) pa_nil))) (fun _ _ => rfl)))
        (pss_one (ps_if (pt_not (pt_val (pe_cl c_leads_on hr (by first | decide | omega) (by rfl) (pa_cons (pe_lst (pa_cons (pe_tup (pa_cons (pv 5) (pa_cons (pv 6) (pa_cons (pe_cl c_table_of hr (by first | decide | omega) (by rfl) (pa_cons (pv 0) (pa_cons (pe_ix ix_tup (pv 2) pe_int (fun _ _ => rfl)) (pa_cons (pv 4) pa_nil)))) pa_nil)))) pa_nil)) (pa_cons (pe_ix ix_tup (pv 2) pe_int (fun _ _ => rfl)) (pa_cons (pv 3) pa_nil))))))
          (pss_one (ps_ret (pe_tup (pa_cons (pv 4) (pa_cons (pv 5) pa_nil)))))
          pss_nil))))
      (pss_one (ps_ret pe_non))), ?_⟩
    replace hm : MA K H u v p := hm
    replace hw : Mdl K H w p2.2.1 p2.2.2 := hw
    replace ha : SqL K H a (F.map vi) := ha
    replace es : p2.1 = p.1 := es
    replace lf : F.length = p.2.1 := lf
    replace low : ∀ y ∈ F, y < p2.2.1 := low
    replace q : ∀ r H', Ex H H' → OddV K H' r (fod p p2 F) → Q r H' := q
    obtain ⟨z, tv, rfl, hZ, hT⟩ := id hm.2
    obtain ⟨z2, tv2, rfl, hZ2, hT2⟩ := id hw
    have n6 := ok.2.n6
    have n26 := ok2.2.n6
    refine q_forLs (ea_cons (ev_var rfl) (ea_cons (ev_op (ev_var rfl) ev_c (rv_ixT (K := K) hZ (atI_vi (k := 0) rfl))) ea_nil) H (Ex.refl _) _ fun H1 e1 => ⟨p.1, p.2.1, u, rfl, hm.1.ex e1, ok.1, n6, fun b bs H2 e2 nb hb pw => ⟨b, rfl, ⟨_, sq_of hb⟩, ?_⟩⟩)
    have e02 := e1.trans e2
    replace pw : Paired (ArgV K H2) bs (ordc p.2.1 p.1) := pw
    refine qloops_list (K := K) (xs := bs) (fun i σ H' => Ex H2 H' ∧ ((ordc p.2.1 p.1).take i).all (fun c => !(!okC p2.2.1 F (lcOf p p2 c))) = true ∧ ∃ y4 y5 y6, σ = [some u, some (.ref z), some (.ref z2), some (.ref a), y4, y5, y6]) ⟨Ex.refl _, by rw [List.take_zero]; rfl, none, none, none, rfl⟩ (fun i σ' H' _ ⟨e, _⟩ => sq_of (e _ _ hb)) (fun i x σ' H3 hx ⟨e3, al, y4, y5, y6, hσ⟩ => ?_) (fun σ' H3 ⟨e3, al, y4, y5, y6, hσ⟩ => ?_)
    · subst hσ
      obtain ⟨c, hc, t, x1, rfl, ht, xa, rfl, hxa⟩ := paired_at pw hx
      obtain ⟨d, i2, hi2, hcd, p2', lr, rl, tb, pl, gd⟩ := lcOf_gd ok ok2 es lf (ordc_mem (List.mem_iff_getElem?.mpr ⟨i, hc⟩))
      have e03 := e02.trans e3
      have dm : (c.1, d.2) ∈ p.1 := by rw [hcd]; exact List.mem_iff_getElem?.mpr ⟨i2, hi2⟩
      refine ⟨t, _, rfl, ex_t e3 ht, rfl, _, _, rfl, _, _, rfl, rfl, ?_⟩
      show tSeq _ _ _ [some u, some (.ref z), some (.ref z2), some (.ref a), some (.str c.1), some (.ref xa), y6] H3
      refine q_asg (v := vi (g (tbOf p.1 p.2.2 c.1) (plc p.2.1 c.2))) (ev_ixNP (ep_call (p.1, p.2.1, p.2.2, c.1, d.2) (ea_cons (ev_var rfl) (ea_cons (ev_op (ev_var rfl) ev_c (rv_ixT (K := K) (ex_t e03 hZ) (atI_vi (k := 1) rfl))) (ea_cons (ev_var rfl) ea_nil))) (fun H4 e4 => ⟨⟨_, _, rfl, hm.1.ex (e03.trans e4), hT.ex (e03.trans e4)⟩, ok.2.len, dm⟩)) (fun H4 e4 => ev_callV (p.2.1, c.2) (ea_cons (ev_op (ev_var rfl) ev_c (rv_ixT (K := K) (ex_t (e03.trans e4) hZ) (atI_vi (k := 0) rfl))) (ea_cons (ev_var rfl) ea_nil)) (fun H5 e5 => ⟨⟨_, rfl, xa, rfl, ex_t (e3.trans (e4.trans e5)) hxa⟩, n6, by show c.2.length ≤ 2; omega, rl⟩) (fun _ _ z => z)) pl) fun H4 e4 => ?_
      have e04 := e03.trans e4
      refine s_when (b := !okC p2.2.1 F (lcOf p p2 c)) (et_not (et_val ?_)) (fun ho H5 e5 => ?_) (fun ho H5 e5 => ?_)
      · intro H5 e5 Q' q'
        refine do_cons (do_lst (do_cons (ep_lc (K := K) (c := lcOf p p2 c) (ev_var rfl) (ev_var rfl) (ep_call (p.1, p2.2.1, p2.2.2, c.1, d.2) (ea_cons (ev_var rfl) (ea_cons (ev_op (ev_var rfl) ev_c (rv_ixT (K := K) (ex_t (e04.trans e5) hZ2) (atI_vi (k := 1) rfl))) (ea_cons (ev_var rfl) ea_nil))) (fun H6 e6 => ⟨⟨_, _, rfl, hm.1.ex (e04.trans (e5.trans e6)), hT2.ex (e04.trans (e5.trans e6))⟩, by rw [← es]; exact ok2.2.len, dm⟩)) ⟨xa, rfl, ex_t (e3.trans (e4.trans e5)) hxa⟩ H5 (Ex.refl _) _ fun lv H6 e6 hlv => do_nil ⟨by show 1 ≤ sizeLine; decide, fun l nl => ?_⟩)))
        have e7 := Ex.new (H := H6) (o := .lst [lv]) nl
        have e57 := e6.trans e7
        refine do_cons (do_ev (v := vi p2.2.1) (ev_op (ev_var rfl) ev_c (rv_ixT (K := K) (ex_t (e04.trans (e5.trans e57)) hZ2) (atI_vi (k := 0) rfl))) fun H8 e8 => do_cons (do_ev (ev_var rfl) fun H9 e9 => do_nil ⟨([lcOf p p2 c], p2.2.1, F), ⟨⟨l, [lv], a, rfl, (e8.trans e9) _ _ upd_same, .cons (LcV.et (Dw.Ex.et (e7.trans (e8.trans e9))) hlv) .nil, ex_l (e04.trans (e5.trans (e57.trans (e8.trans e9)))) ha⟩, n26, low, fun c' hc' => by rw [List.mem_singleton.mp hc']; exact gd⟩, fun r H10 e10 hr => ?_⟩))
        rw [hr]
        refine Eq.mp (congrArg (fun b => Q' (.bl b) H10) ?_) (q' H10 (e57.trans (e8.trans (e9.trans e10))))
        show okC p2.2.1 F (lcOf p p2 c) = allOk p2.2.1 [lcOf p p2 c] F
        rw [allOk, List.all_cons, List.all_nil, Bool.and_true]
      · have fd : fod p p2 F = some c := find_at hc al ho
        refine s_retP (tv_tup (K := K) (xs := [.str c.1, .ref xa]) (ea_cons (ev_var rfl) (ea_cons (ev_var rfl) ea_nil)) (by show 2 ≤ 100000; decide)) fun v H6 e6 ⟨vb, hv, hvb⟩ => q _ H6 (e04.trans (e5.trans e6)) ?_
        rw [fd]
        exact ⟨vb, .ref xa, hv, hvb, xa, rfl, ex_t (e3.trans (e4.trans (e5.trans e6))) hxa⟩
      · refine ⟨e3.trans (e4.trans e5), ?_, _, _, _, rfl⟩
        rw [List.take_add_one, hc, List.all_append, al]
        show (true && ([c].all _)) = true
        rw [List.all_cons, List.all_nil, Bool.and_true, Bool.true_and, ho]
        rfl
    · subst hσ
      refine s_ret (v := .non) ev_c fun H4 e4 => q _ H4 (e02.trans (e3.trans e4)) ?_
      rw [show fod p p2 F = none from find_no (by rw [List.take_of_length_le (by rw [paired_len pw]; exact Nat.le_refl _)] at al; exact al)]
      rfl
end
end K72
end
section
namespace K72
open PySem PySem.Spec PyProof.Rows L2 Evl RZ Dw M20 M25 CL LD
def isLst : PyData → Bool
  | .list _ => true
  | _ => false
def listOf : PyData → List PyData
  | .list ds => ds
  | _ => []
def natOf : PyData → Nat
  | .int i => i.toNat
  | _ => 0
def natsOf (d : PyData) : List Nat := (listOf d).map natOf
def formB (n1 n2 : Nat) (d : PyData) : Bool := isLst d && (decide ((listOf d).length = n1) && (listOf d).all (belowB n2))
def cellD (c : Str × List Nat) : PyData := .tuple [.str "cell", .str c.1, dN c.2]
def leadW (p p2 : MArg) (d : PyData) : PyData := if formB p.2.1 p2.2.1 d = true then (match fod p p2 (natsOf d) with
  | none => .none
  | some c => cellD c) else .tuple [.str "form"]
section
variable {P : Program} {w : World} {K : PySem.W.Frag} {mg : Str → Option Value} {base : Heap} {σ : L2.St} {H : Hp} {ta tb : TE} {p c : Addr} {v : V} {d : PyData}
theorem ev_isLst {ta tb : TE} (ha : Ev ta σ H v) (hc : Ev tb σ H (.ty "list")) (h : Dz K p c H v d) : Ev (tCB (rIsi K) (tCons ta (tCons tb tNil))) σ H (.bl (isLst d)) := by
  cases h with
  | non => exact ev_isi (b := false) ha hc (.ty _) (fun _ _ => tyx_non) (kit_ty (by decide +kernel))
  | bl b => exact ev_isi (b := false) ha hc (.ty _) (fun _ _ => tyx_bl b) (kit_ty (by decide +kernel))
  | int i => exact ev_isi (b := false) ha hc (.ty _) (fun _ _ => tyx_int i) (kit_ty (by decide +kernel))
  | str z => exact ev_isi (b := false) ha hc (.ty _) (fun _ _ => tyx_str z) (kit_ty (by decide +kernel))
  | lst h _ _ _ => exact ev_isi (b := true) ha hc (.ty _) (fun _ e => .base (.lst (e _ _ h))) (kit_ty (by decide +kernel))
  | tup h _ => exact ev_isi (b := false) ha hc (.ty _) (fun _ e => tyx_tup (ex_t e h)) (kit_ty (by decide +kernel))
theorem do_ifX {b : Bool} {Q : VK} {tt : TT} {ta tb : TE} (h : EvT tt σ H b) (h1 : b = true → ∀ H1, Ex H H1 → ta σ H1 Q) (h2 : b = false → ∀ H1, Ex H H1 → tb σ H1 Q) : tIf tt ta tb σ H Q := by
  refine h H (Ex.refl _) _ fun H1 e1 => ?_
  cases b with
  | true => exact h1 rfl H1 e1
  | false => exact h2 rfl H1 e1
theorem lst_of (h : Dz K p c H v d) (e : isLst d = true) : ∃ a xs ds, v = .ref a ∧ d = .list ds ∧ H a = some (.lst xs) ∧ DzAll K p c H xs ds ∧ a ≠ p ∧ a ≠ c := by
  cases h with
  | lst h hp hc r => exact ⟨_, _, _, rfl, rfl, h, r, hp, hc⟩
  | _ => cases e
theorem below_nat {n : Nat} {e : PyData} (h : Dz K p c H v e) (b : belowB n e = true) : v = vi (natOf e) ∧ natOf e < n := by
  cases h with
  | int i =>
    rw [belowB, Bool.and_eq_true, decide_eq_true_eq, decide_eq_true_eq] at b
    refine ⟨?_, ?_⟩
    · show V.int i = V.int ((i.toNat : Nat) : Int)
      rw [Int.toNat_of_nonneg b.1]
    · show i.toNat < n
      omega
  | _ => cases b
theorem below_all {n : Nat} : ∀ {vs : List V} {ds : List PyData}, DzAll K p c H vs ds → ds.all (belowB n) = true → vs = (ds.map natOf).map vi ∧ ∀ y ∈ ds.map natOf, y < n
  | _, _, .nil, _ => ⟨rfl, fun y hy => by cases hy⟩
  | _, _, .cons a b, h => by
    rw [List.all_cons, Bool.and_eq_true] at h
    obtain ⟨h1, h2⟩ := below_nat a h.1
    obtain ⟨h3, h4⟩ := below_all b h.2
    refine ⟨by rw [List.map_cons, List.map_cons, h1, h3], fun y hy => ?_⟩
    rw [List.map_cons] at hy
    rcases List.mem_cons.mp hy with e | e
    · rw [e]; exact h2
    · exact h4 y e
theorem form_nats {n1 n2 : Nat} (h : Dz K p c H v d) (b : formB n1 n2 d = true) : ∃ a, v = .ref a ∧ H a = some (.lst ((natsOf d).map vi)) ∧ (natsOf d).length = n1 ∧ ∀ y ∈ natsOf d, y < n2 := by
  rw [formB, Bool.and_eq_true, Bool.and_eq_true, decide_eq_true_eq] at b
  obtain ⟨a, xs, ds, rfl, rfl, ha, hd, _, _⟩ := lst_of h b.1
  obtain ⟨h1, h2⟩ := below_all hd b.2.2
  refine ⟨a, rfl, by rw [ha, h1]; rfl, ?_, h2⟩
  show (ds.map natOf).length = n1
  rw [List.length_map]
  exact b.2.1
def sp_row_any (K : PySem.W.Frag) : Sp := spX (fun (z : (Addr × Addr) × List PyData × Nat × Nat) vs H => (∃ a xs, vs = [.ref a, vi z.2.2.1, vi z.2.2.2] ∧ SqT K H a xs ∧ DzAll K z.1.1 z.1.2 H xs z.2.1) ∧ z.2.1.length ≤ 1000) (fun z v _ => v = .bl (decide (z.2.1.length = z.2.2.1) && z.2.1.all (belowB z.2.2.2)))
theorem c_row_any (T : Txt mg) (D : Df K mg "is_row" s_is_row ["thing", "many", "size"]) (c_below_any : Cl P w K mg base 2 "is_below" (sp_below_any K)) : Cl P w K mg base 3 "is_row" (sp_row_any K) := by
  refine cl_of (k := 2) D sc_is_row (fun vs H Q E h => ?_) (fun f cdv A outer s H vs Q E hr h => ?_)
  · obtain ⟨z, ⟨⟨a, xs, rfl, _⟩, _⟩, _⟩ := h
    rfl
  · obtain ⟨⟨⟨p, c⟩, ds, m, n⟩, ⟨⟨a, xs, rfl, ha, hd⟩, few⟩, q⟩ := h
    have c_is_below := c_below_any
    refine ⟨_, (pss_one (ps_ret (pe_and (pe_callB call_isi (by rfl) T.z_isinstance (by decide +kernel) (pa_cons (pv 0) (pa_cons (pe_ty "tuple" (by rfl) T.z_tuple (by decide +kernel)) pa_nil))) (pe_and (pe_cmpR op_eq (pe_callB call_len_seq (by rfl) T.z_len PySem.boot_len (pa_cons (pv 0) pa_nil)) (pv 1) (nomark _)) (pe_one (pe_callB (cr_all rfl) (by rfl) T.z_all (by decide +kernel) (pa_cons (pe_lc (own := [("number", 3)]) (g := (gName 3)) (by rfl) sc_is_row.nd (pi_tup (pv 0)) (blkOk_by (own := [("number", 3)]) (N := ["thing", "many", "size", "number"]) (sc := (defScope s_is_row)) (by decide +kernel)) (fun _ _ _ _ _ => (pg_name (i := 3) sc_is_row.nd rfl (.inl rfl))) (fun _ _ _ _ _ => pts_nil) (fun _ _ _ _ _ => (pe_cl c_is_below hr (by first | decide | omega) (by rfl) (pa_cons (pv 3) (pa_cons (pv 2) pa_nil))))) pa_nil))))))), ?_⟩
    replace hd : DzAll K p c H xs ds := hd
    replace few : ds.length ≤ 1000 := few
    have lx := DzAll.len hd
    refine s_ret (v := .bl (decide (ds.length = m) && ds.all (belowB n))) (ev_is (ev_andV (a := true) (b := decide (ds.length = m) && ds.all (belowB n)) (ev_isi (ev_var rfl) ev_c (.ty _) (fun _ e => tyx_tup (ex_t e ha)) kit_tt) (fun _ => ev_andV (a := decide (ds.length = m)) (b := ds.all (belowB n)) (ev_is (ev_op (ev_lenT (ev_var rfl) ha) (ev_var rfl) (rv_eq rfl)) ?_) (fun _ => ev_is (ev_all (bs := ds.map (belowB n)) ?_) ?_))) (by rw [Bool.true_and])) fun H1 e1 => q _ H1 e1 rfl
    · congr 1
      rw [decide_eq_decide, lx]
      constructor
      · intro z
        have y : (ds.length : Int) = (m : Int) := V.int.inj z
        exact Int.ofNat.inj y
      · intro z
        rw [show ds.length = m from z]
    · have z := el_lcT (K := K) (tl := tVar 0) (te := tCall (sp_below_any K) [] E0 (tCons (tVar 3) (tCons (tVar 2) tNil))) (σ := [some (.ref a), some (vi m), some (vi n), none]) (j := 3) (vs := [3]) (ev_var rfl) ha (fun i => V.bl (belowB n (ds.getD i .none))) (by rw [lx]; omega) (fun _ => rfl) (fun i x H1 e1 hx => by
        obtain ⟨e, he, hz⟩ := hd.get hx
        refine ev_callV ((p, c), ds.getD i .none, ((n : Nat) : Int)) (ea_cons (ev_var rfl) (ea_cons (ev_var rfl) ea_nil)) (fun H2 e2 => ⟨x, rfl, ?_⟩) (fun _ _ z => z)
        show Dz K p c H2 x (ds.getD i .none)
        rw [List.getD_eq_getElem?_getD, he]
        exact hz.ex (e1.trans e2))
      have e : (List.range xs.length).map (fun i => V.bl (belowB n (ds.getD i .none))) = (ds.map (belowB n)).map V.bl := by
        have h1 : (List.range ds.length).map (fun i => V.bl (belowB n (ds.getD i .none))) = (((List.range ds.length).map fun i => ds.getD i PyData.none).map (belowB n)).map V.bl := by
          rw [List.map_map, List.map_map]
          rfl
        rw [lx, h1, Dw.range_getD]
      rw [e] at z
      exact z
    · rw [List.all_map]
      rfl
def sp_form (K : PySem.W.Frag) : Sp := spX (fun (z : (Addr × Addr) × PyData × Nat × Nat) vs H => (∃ a b v r1 r2, vs = [.ref a, .ref b, v] ∧ SqT K H a [vi z.2.2.1, r1] ∧ SqT K H b [vi z.2.2.2, r2] ∧ Dz K z.1.1 z.1.2 H v z.2.1) ∧ (listOf z.2.1).length ≤ 1000) (fun z v _ => v = .bl (formB z.2.2.1 z.2.2.2 z.2.1))
theorem c_has_lead_form (T : Txt mg) (D : Df K mg "has_lead_form" s_has_lead_form ["one", "other", "thing"]) (c_row_any : Cl P w K mg base 3 "is_row" (sp_row_any K)) : Cl P w K mg base 4 "has_lead_form" (sp_form K) := by
  refine cl_of (k := 3) D sc_has_lead_form (fun vs H Q E h => ?_) (fun f cdv A outer s H vs Q E hr h => ?_)
  · obtain ⟨z, ⟨⟨a, b, v, r1, r2, rfl, _⟩, _⟩, _⟩ := h
    rfl
  · obtain ⟨⟨⟨p, c⟩, d, n1, n2⟩, ⟨⟨a, b, v, r1, r2, rfl, ha, hb, hv⟩, few⟩, q⟩ := h
    have c_is_row := c_row_any
    refine ⟨_, (pss_one (ps_ret (pe_and (pe_callB call_isi (by rfl) T.z_isinstance (by decide +kernel) (pa_cons (pv 2) (pa_cons (pe_ty "list" (by rfl) T.z_list (by decide +kernel)) pa_nil))) (pe_one (pe_cl c_is_row hr (by first | decide | omega) (by rfl) (pa_cons (pe_callTy call_tuple_of (by rfl) T.z_tuple (by decide +kernel) (pa_cons (pv 2) pa_nil)) (pa_cons (pe_ix ix_tup (pv 0) pe_int (fun _ _ => rfl)) (pa_cons (pe_ix ix_tup (pv 1) pe_int (fun _ _ => rfl)) pa_nil)))))))), ?_⟩
    replace ha : SqT K H a [vi n1, r1] := ha
    replace hb : SqT K H b [vi n2, r2] := hb
    replace hv : Dz K p c H v d := hv
    replace few : (listOf d).length ≤ 1000 := few
    refine s_ret (v := .bl (formB n1 n2 d)) (ev_andV (a := isLst d) (b := decide ((listOf d).length = n1) && (listOf d).all (belowB n2)) (ev_isLst (K := K) (ev_var rfl) ev_c hv) fun e => ?_) fun H1 e1 => q _ H1 e1 rfl
    obtain ⟨x, xs, ds, rfl, rfl, hx, hd, _, _⟩ := lst_of hv e
    intro H1 e1 Q' q'
    refine do_cons (eu_tupL (K := K) (ev_var rfl) (sq_of hx) H1 e1 _ fun r H2 nr e2 hr => do_cons (do_ev (v := vi n1) (ev_op (ev_var rfl) ev_c (rv_ixT (K := K) (ex_t (e1.trans e2) ha) (atI_vi (k := 0) rfl))) fun H3 e3 => do_cons (do_ev (v := vi n2) (ev_op (ev_var rfl) ev_c (rv_ixT (K := K) (ex_t (e1.trans (e2.trans e3)) hb) (atI_vi (k := 0) rfl))) fun H4 e4 => do_nil ⟨((p, c), ds, n1, n2), ⟨⟨r, xs, rfl, ex_t (e3.trans e4) (st_of hr), DzAll.ex (e1.trans (e2.trans (e3.trans e4))) hd⟩, few⟩, fun u H5 e5 hu => ?_⟩)))
    rw [hu]
    exact q' H5 (e2.trans (e3.trans (e4.trans e5)))
/-! ### what is wrong with a thing as a lead -/
def sp_lead_wrong (K : PySem.W.Frag) : Sp := spX (fun (z : (Addr × Addr) × MArg × MArg × PyData) vs H => (∃ u v w x, vs = [u, v, w, x] ∧ MA K H u v z.2.1 ∧ Mdl K H w z.2.2.1.2.1 z.2.2.1.2.2 ∧ Dz K z.1.1 z.1.2 H x z.2.2.2) ∧ MOk z.2.1 ∧ MOk z.2.2.1 ∧ z.2.2.1.1 = z.2.1.1 ∧ (listOf z.2.2.2).length ≤ 1000) (fun z v H => Dp K H v (leadW z.2.1 z.2.2.1 z.2.2.2))
theorem c_lead_wrong (T : Txt mg) (D : Df K mg "lead_wrong" s_lead_wrong ["signature", "one", "other", "thing"]) (c_has_lead_form : Cl P w K mg base 4 "has_lead_form" (sp_form K)) (c_first_odd_cell_leads : Cl P w K mg base 3 "first_odd_cell_leads" (sp_first_odd_lead K)) : Cl P w K mg base 5 "lead_wrong" (sp_lead_wrong K) := by
  refine cl_of (k := 4) D sc_lead_wrong (fun vs H Q E h => ?_) (fun f cdv A outer s H vs Q E hr h => ?_)
  · obtain ⟨z, ⟨⟨u, v, w, x, rfl, _⟩, _⟩, _⟩ := h
    rfl
  · obtain ⟨⟨⟨p0, c0⟩, p, p2, d⟩, ⟨⟨u, v, w, x, rfl, hm, hw, hx⟩, ok, ok2, es, few⟩, q⟩ := h
    refine ⟨_, (pss_cons (ps_if (pt_not (pt_val (pe_cl c_has_lead_form hr (by first | decide | omega) (by rfl) (pa_cons (pv 1) (pa_cons (pv 2) (pa_cons (pv 3) pa_nil))))))
        (pss_one (ps_ret (pe_tup (pa_cons pe_str pa_nil))))
        pss_nil)
      (pss_cons (ps_set (i := 4) sc_lead_wrong.nd rfl (.inl rfl) (pe_cl c_first_odd_cell_leads hr (by first | decide | omega) (by rfl) (pa_cons (pv 0) (pa_cons (pv 1) (pa_cons (pv 2) (pa_cons (pv 3) pa_nil))))))
      (pss_one (ps_ret (pe_ifExp (pt_cmpR op_isN (pv 4) pe_non (nomark _)) pe_non (pe_tup (pa_cons pe_str (pa_cons (pe_ix ix_tup (pv 4) pe_int (fun _ _ => rfl)) (pa_cons (pe_ix ix_tup (pv 4) pe_int (fun _ _ => rfl)) pa_nil))))))))), ?_⟩
    replace hm : MA K H u v p := hm
    replace hw : Mdl K H w p2.2.1 p2.2.2 := hw
    replace hx : Dz K p0 c0 H x d := hx
    replace es : p2.1 = p.1 := es
    replace few : (listOf d).length ≤ 1000 := few
    replace q : ∀ r H', Ex H H' → Dp K H' r (leadW p p2 d) → Q r H' := q
    obtain ⟨z, tv, rfl, hZ, hT⟩ := id hm.2
    obtain ⟨z2, tv2, rfl, hZ2, hT2⟩ := id hw
    refine q_when (b := !formB p.2.1 p2.2.1 d) (et_not (et_val (ev_callV (v := .bl (formB p.2.1 p2.2.1 d)) ((p0, c0), d, p.2.1, p2.2.1) (ea_cons (ev_var rfl) (ea_cons (ev_var rfl) (ea_cons (ev_var rfl) ea_nil))) (fun H1 e1 => ⟨⟨z, z2, x, _, _, rfl, ex_t e1 hZ, ex_t e1 hZ2, hx.ex e1⟩, few⟩) (fun _ _ z => z)))) (fun hb H1 e1 => ?_) (fun hb H1 e1 => ?_)
    · refine s_retP (tv_tup (K := K) (xs := [.str "form"]) (ea_cons ev_c ea_nil) (by show 1 ≤ 100000; decide)) fun r H2 e2 ⟨t, hr, ht⟩ => q _ H2 (e1.trans e2) ?_
      rw [leadW, if_neg (by rw [Bool.not_eq_true'] at hb; rw [hb]; decide), hr]
      exact .tup ht (.cons (.str _) .nil)
    · rw [Bool.not_eq_false'] at hb
      obtain ⟨a, rfl, ha, lf, low⟩ := form_nats hx hb
      rw [leadW, if_pos hb] at q
      refine q_asgP (ep_call (p, p2, natsOf d) (ea_cons (ev_var rfl) (ea_cons (ev_var rfl) (ea_cons (ev_var rfl) (ea_cons (ev_var rfl) ea_nil)))) (fun H2 e2 => ⟨⟨_, _, _, a, rfl, ⟨hm.1.ex (e1.trans e2), hm.2.ex (e1.trans e2)⟩, hw.ex (e1.trans e2), sq_of ((e1.trans e2) _ _ ha)⟩, ok, ok2, es, lf, low⟩)) fun r H2 e2 hr => ?_
      replace hr : OddV K H2 r (fod p p2 (natsOf d)) := hr
      cases ho : fod p p2 (natsOf d) with
      | none =>
        rw [ho] at hr q
        have hr2 : r = .non := hr
        subst hr2
        refine s_ret (ev_if (b := true) ?_ (fun _ => ev_c) (fun hb => by cases hb)) fun H8 e8 => q _ H8 (e1.trans (e2.trans e8)) .non
        exact fun H7 e7 Q q => ⟨_, rfl, rfl, _, rfl, q H7 (Ex.refl H7)⟩
      | some cc =>
        rw [ho] at hr q
        obtain ⟨t, y, rfl, ht, hy⟩ := hr
        refine do_ret (do_ifX (b := false) (fun H8 e8 Q8 q8 => ⟨_, rfl, rfl, _, rfl, q8 H8 (Ex.refl H8)⟩) (fun hb => by cases hb) (fun _ H8 e8 => ?_))
        refine eu_tup (vs := [.str "cell", .str cc.1, y]) (ea_cons ev_c (ea_cons (ev_op (ev_var rfl) ev_c (rv_ixT (K := K) (ex_t e8 ht) (atI_vi (k := 0) rfl))) (ea_cons (ev_op (ev_var rfl) ev_c (rv_ixT (K := K) (ex_t e8 ht) (atI_vi (k := 1) rfl))) ea_nil))) (by show 3 ≤ 100000; decide) H8 (Ex.refl _) _ fun r9 H9 _ e9 hr9 => q _ H9 (e1.trans (e2.trans (e8.trans e9))) (.tup (st_of hr9) (.cons (.str _) (.cons (.str _) (.cons (Nats.dp (hy.ex (e8.trans e9))) .nil))))
def sp_lead_judged (K : PySem.W.Frag) : Sp := sp_lead_wrong K
theorem c_lead_judged (T : Txt mg) (D : Df K mg "lead_judged" s_lead_judged ["signature", "one", "other", "thing"]) (c_need_two_models : Cl P w K mg base 8 "need_two_models" (sp_need_two K)) (c_lead_wrong : Cl P w K mg base 5 "lead_wrong" (sp_lead_wrong K)) : Cl P w K mg base 9 "lead_judged" (sp_lead_judged K) := by
  refine cl_of (k := 8) D sc_lead_judged (fun vs H Q E h => ?_) (fun f cdv A outer s H vs Q E hr h => ?_)
  · obtain ⟨z, ⟨⟨u, v, w, x, rfl, _⟩, _⟩, _⟩ := h
    rfl
  · obtain ⟨⟨⟨p0, c0⟩, p, p2, d⟩, ⟨⟨u, v, w, x, rfl, hm, hw, hx⟩, ok, ok2, es, few⟩, q⟩ := h
    refine ⟨_, (pss_cons (ps_expr (pe_cl c_need_two_models hr (by first | decide | omega) (by rfl) (pa_cons (pv 0) (pa_cons (pv 1) (pa_cons (pv 2) pa_nil)))))
      (pss_one (ps_ret (pe_cl c_lead_wrong hr (by first | decide | omega) (by rfl) (pa_cons (pv 0) (pa_cons (pv 1) (pa_cons (pv 2) (pa_cons (pv 3) pa_nil)))))))), ?_⟩
    replace hm : MA K H u v p := hm
    replace hw : Mdl K H w p2.2.1 p2.2.2 := hw
    replace hx : Dz K p0 c0 H x d := hx
    refine q_drop (v := .non) (ev_callV (p, p2) (ea_cons (ev_var rfl) (ea_cons (ev_var rfl) (ea_cons (ev_var rfl) ea_nil))) (fun H1 e1 => ⟨⟨_, _, _, rfl, hm.ex e1, hw.ex e1⟩, ok, ok2, es⟩) (fun _ _ p => p)) fun H1 e1 => ?_
    exact s_retP (ep_call ((p0, c0), p, p2, d) (ea_cons (ev_var rfl) (ea_cons (ev_var rfl) (ea_cons (ev_var rfl) (ea_cons (ev_var rfl) ea_nil)))) (fun H2 e2 => ⟨⟨_, _, _, _, rfl, hm.ex (e1.trans e2), hw.ex (e1.trans e2), hx.ex (e1.trans e2)⟩, ok, ok2, es, few⟩)) fun r H2 e2 hr => q _ H2 (e1.trans e2) hr
end
end K72
end
section
namespace K72
open PySem PySem.Spec PyProof.Rows L2 Evl RZ Dw M20 M25 CL LD PySem.W
/-! ### the cells in the law's own order -/
def fF (n : Nat) (sg : List (Str × Nat)) (i : Nat) : List Fnd := (List.range i).flatMap fun j => (rows n (sg.getD j ("", 0)).2).map fun r => (((need r : Nat) : Int) - 1, j, (sg.getD j ("", 0)).1, r)
def fO (n : Nat) (sg : List (Str × Nat)) : List Fnd := (List.range (n + 1)).flatMap fun t => (fF n sg sg.length).filter fun c => decide (need c.2.2.2 = t)
def encF (c : Fnd) : List Int := c.1 :: (c.2.1 : Int) :: ia c.2.2.2
theorem fF_mem {n i : Nat} {sg : List (Str × Nat)} {c : Fnd} (h : c ∈ fF n sg i) : c.2.1 < i ∧ c.1 = ((need c.2.2.2 : Nat) : Int) - 1 ∧ c.2.2.1 = (sg.getD c.2.1 ("", 0)).1 ∧ c.2.2.2 ∈ rows n (sg.getD c.2.1 ("", 0)).2 := by
  obtain ⟨j, hj, h2⟩ := List.mem_flatMap.mp h
  obtain ⟨r, hr, rfl⟩ := List.mem_map.mp h2
  exact ⟨List.mem_range.mp hj, rfl, rfl, hr⟩
theorem fF_map (n : Nat) (sg : List (Str × Nat)) : (fF n sg sg.length).map (fun c => (c.2.2.1, c.2.2.2)) = allc n sg := by
  unfold fF allc
  rw [List.map_flatMap]
  have e : sg.flatMap (fun d => (rows n d.2).map fun r => (d.1, r)) = ((List.range sg.length).map fun j => sg.getD j ("", 0)).flatMap fun d => (rows n d.2).map fun r => (d.1, r) := by rw [Dw.range_getD]
  rw [e, List.flatMap_map]
  refine fm_congr fun j _ => ?_
  rw [List.map_map]
  rfl
theorem fO_map (n : Nat) (sg : List (Str × Nat)) : (fO n sg).map (fun c => (c.2.2.1, c.2.2.2)) = ordc n sg := by
  unfold fO ordc
  rw [List.map_flatMap]
  refine fm_congr fun t _ => ?_
  rw [← fF_map, List.filter_map]
  rfl
theorem fO_perm (n : Nat) (sg : List (Str × Nat)) : (fF n sg sg.length).Perm (fO n sg) := by
  have h := levels_perm (fun c : Fnd => need c.2.2.2) (fF n sg sg.length) (n + 1)
  rw [List.filter_eq_self.mpr fun c hc => decide_eq_true (by
    have := need_le (rows_of (fF_mem hc).2.2.2).2
    omega)] at h
  exact h.symm
theorem fF_up (n : Nat) (sg : List (Str × Nat)) (i : Nat) : (fF n sg i).Pairwise fun a b => a.2.1 < b.2.1 ∨ a.2.1 = b.2.1 ∧ ia a.2.2.2 < ia b.2.2.2 := by
  unfold fF
  rw [List.pairwise_flatMap]
  refine ⟨fun j _ => ?_, ?_⟩
  · rw [List.pairwise_map]
    exact (rows_lex n _).imp fun h => .inr ⟨rfl, h⟩
  · refine (List.pairwise_lt_range (n := i)).imp fun {a b} h x hx y hy => ?_
    obtain ⟨_, _, rfl⟩ := List.mem_map.mp hx
    obtain ⟨_, _, rfl⟩ := List.mem_map.mp hy
    exact .inl h
theorem fO_up (n : Nat) (sg : List (Str × Nat)) : (fO n sg).Pairwise fun a b => encF a < encF b := by
  unfold fO
  rw [List.pairwise_flatMap]
  refine ⟨fun t _ => ?_, ?_⟩
  · refine ((fF_up n sg sg.length).filter _).imp_of_mem fun {a b} ha hb h => ?_
    obtain ⟨ma, ta⟩ := List.mem_filter.mp ha
    obtain ⟨mb, tb⟩ := List.mem_filter.mp hb
    have e : a.1 = b.1 := by rw [(fF_mem ma).2.1, (fF_mem mb).2.1, of_decide_eq_true ta, of_decide_eq_true tb]
    unfold encF
    rw [List.cons_lt_cons_iff, List.cons_lt_cons_iff]
    rcases h with h | ⟨h1, h2⟩
    · exact .inr ⟨e, .inl (by omega)⟩
    · exact .inr ⟨e, .inr ⟨by rw [h1], h2⟩⟩
  · refine (List.pairwise_lt_range (n := n + 1)).imp fun {a b} h x hx y hy => ?_
    obtain ⟨mx, tx⟩ := List.mem_filter.mp hx
    obtain ⟨my, ty⟩ := List.mem_filter.mp hy
    have t1 := of_decide_eq_true tx
    have t2 := of_decide_eq_true ty
    unfold encF
    rw [List.cons_lt_cons_iff]
    refine .inl ?_
    rw [(fF_mem mx).2.1, (fF_mem my).2.1, t1, t2]
    omega
theorem beq_int (x y : Int) : (x == y) = decide (x = y) := by
  rw [Bool.eq_iff_iff]
  simp
theorem eqv_ints : ∀ a b : List Int, PyData.eqvAll (a.map .int) (b.map .int) = decide (a = b)
  | [], [] => by simp [PyData.eqvAll]
  | [], _ :: _ => by simp [PyData.eqvAll]
  | _ :: _, [] => by simp [PyData.eqvAll]
  | x :: a, y :: b => by
    rw [List.map_cons, List.map_cons, PyData.eqvAll, eqv_ints a b]
    simp [PyData.eqv, beq_int]
theorem dN_ia (l : List Nat) : dN l = .tuple ((ia l).map .int) := by
  unfold dN ia
  rw [List.map_map]
  rfl
theorem dF_lt {a b : Fnd} (same : a.2.1 = b.2.1 → a.2.2.1 = b.2.2.1) : dataLt (dF a) (dF b) = decide (encF a < encF b) := by
  unfold dF encF
  rw [dN_ia, dN_ia, dataLt_tuple, dataLt_cons (by rfl)]
  have ei : ∀ x y : Int, (PyData.int x).eqv (.int y) = decide (x = y) := fun x y => by simp [PyData.eqv, beq_int]
  rw [ei]
  by_cases h1 : a.1 = b.1
  · rw [if_pos (decide_eq_true h1), dataLt_cons (by rfl), ei]
    by_cases h2 : a.2.1 = b.2.1
    · rw [if_pos (decide_eq_true (by rw [h2])), dataLt_cons (by simp [alike, alike_ints])]
      have et : ∀ x y : List Int, (PyData.tuple (x.map .int)).eqv (.tuple (y.map .int)) = decide (x = y) := fun x y => by
        rw [PyData.eqv]
        exact eqv_ints x y
      rw [et]
      by_cases h3 : ia a.2.2.2 = ia b.2.2.2
      · rw [if_pos (decide_eq_true h3), same h2, h1, h2, h3, dataLt_cons (by rfl)]
        have es : ∀ z : Str, (PyData.str z).eqv (.str z) = true := fun z => by simp [PyData.eqv]
        rw [if_pos (es _)]
        have n : ¬ (b.1 :: (b.2.1 : Int) :: ia b.2.2.2) < (b.1 :: (b.2.1 : Int) :: ia b.2.2.2) := List.lt_irrefl _
        rw [decide_eq_false n]
        rfl
      · rw [if_neg (by rw [decide_eq_false h3]; decide), dataLt_tuple]
        show rowLt _ _ = _
        rw [dataLt_ints]
        rw [decide_eq_decide, List.cons_lt_cons_iff, List.cons_lt_cons_iff]
        constructor
        · exact fun h => .inr ⟨h1, .inr ⟨by rw [h2], h⟩⟩
        · rintro (h | ⟨_, h | ⟨_, h⟩⟩)
          · omega
          · omega
          · exact h
    · rw [if_neg (by rw [decide_eq_false (by omega)]; decide), dataLt_int]
      rw [decide_eq_decide, List.cons_lt_cons_iff, List.cons_lt_cons_iff]
      constructor
      · exact fun h => .inr ⟨h1, .inl h⟩
      · rintro (h | ⟨_, h | ⟨e, h⟩⟩)
        · omega
        · exact h
        · omega
  · rw [if_neg (by rw [decide_eq_false h1]; decide), dataLt_int]
    rw [decide_eq_decide, List.cons_lt_cons_iff]
    constructor
    · exact fun h => .inl h
    · rintro (h | ⟨e, h⟩)
      · exact h
      · exact absurd e h1
end K72
end
section
namespace K72
open PySem PySem.Spec PyProof.Rows L2 Evl RZ Dw M20 M25 CL LD PySem.W
section
variable {P : Program} {w : World} {K : PySem.W.Frag} {mg : Str → Option Value} {base : Heap}
theorem fF_few {n : Nat} {sg : List (Str × Nat)} (n6 : n ≤ 6) (so : SigOk sg) {i : Nat} (h : i ≤ sg.length) : (fF n sg i).length ≤ 144 := by
  have e : fF n sg i = fF n (sg.take i) (sg.take i).length := by
    unfold fF
    rw [List.length_take, Nat.min_eq_left h]
    refine fm_congr fun j hj => ?_
    have hj := List.mem_range.mp hj
    have : (sg.take i).getD j ("", 0) = sg.getD j ("", 0) := by rw [List.getD_eq_getElem?_getD, List.getD_eq_getElem?_getD, List.getElem?_take_of_lt hj]
    rw [this]
  have f := allc_few n6 so i
  rw [← fF_map, List.length_map] at f
  rw [e]
  exact f
def sp_lcellsO (K : PySem.W.Frag) : Sp := fun vs H Q _ => ∃ (sg : List (Str × Nat)) (n : Nat) (u : V), vs = [u, vi n] ∧ Sig K H u sg ∧ SigOk sg ∧ n ≤ 6 ∧ ∀ a vs' H', Ex H H' → H a = none → H' a = some (.lst vs') → Paired (ArgV K H') vs' (ordc n sg) → Q (.ref a) H'
theorem c_cellsO (T : Txt mg) (D : Df K mg "_law_cells" s_cells ["_law_signature_here", "_law_size"]) (c_ways : Cl P w K mg base 1 "_law_ways" (sp_ways K)) : Cl P w K mg base 2 "_law_cells" (sp_lcellsO K) := by
  refine cl_of (k := 1) D sc_cells (fun vs H Q E h => ?_) (fun f cdv A outer s H vs Q E hr h => ?_)
  · obtain ⟨sg, n, u, rfl, _⟩ := h
    rfl
  · obtain ⟨sg, n, u, rfl, hG, sok, n6, q⟩ := h
    refine ⟨_, (pss_cons (ps_set (i := 2) sc_cells.nd rfl (.inl rfl) (pe_lst pa_nil))
      (pss_cons (ps_for PassesOwn.never (by rfl) (pi_enumT (by rfl) T.z_enumerate (pa_cons (pv 0) pa_nil)) (pg_tup (by rfl) (pgs_cons (pg_name (i := 3) sc_cells.nd rfl (.inl rfl)) (pgs_cons (pg_tup (by rfl) (pgs_cons (pg_name (i := 4) sc_cells.nd rfl (.inl rfl)) (pgs_cons (pg_name (i := 5) sc_cells.nd rfl (.inl rfl)) pgs_nil))) pgs_nil)))
        (pss_one (ps_for PassesOwn.never (by rfl) (pi_list (pe_cl c_ways hr (by first | decide | omega) (by rfl) (pa_cons (pv 5) (pa_cons (pv 1) pa_nil)))) (pg_name (i := 6) sc_cells.nd rfl (.inl rfl))
          (pss_one (ps_expr (pe_bm PySem.F.plainAttrs_list PySem.F.slot_list_append PySem.F.type_list_append mt_append (pv 2) (pa_cons (pe_tup (pa_cons (pe_callB (cr_maxT rfl hr) (by rfl) T.z_max (by decide +kernel) (pa_cons (pe_op op_catA (pe_tup (pa_cons (pe_un un_neg pe_int) pa_nil)) (pv 6)) pa_nil)) (pa_cons (pv 3) (pa_cons (pv 6) (pa_cons (pv 4) pa_nil))))) pa_nil)))))))
      (pss_one (ps_ret (pe_lc (own := [("_law_greatest", 7), ("_law_k", 3), ("_law_args", 6), ("_law_name", 4)]) (g := (gTup _ 4 (gCons (gName 7) (gCons (gName 3) (gCons (gName 6) (gCons (gName 4) gNil)))))) (by rfl) sc_cells.nd (pi_list (pe_callB (cr_sortD hr) (by rfl) T.z_sorted (by decide +kernel) (pa_cons (pv 2) pa_nil))) (blkOk_by (own := [("_law_greatest", 7), ("_law_k", 3), ("_law_args", 6), ("_law_name", 4)]) (N := ["_law_signature_here", "_law_size", "_law_found", "_law_k", "_law_name", "_law_many", "_law_args", "_law_greatest"]) (sc := (defScope s_cells)) (by decide +kernel)) (fun _ _ _ _ _ => (pg_tup (by rfl) (pgs_cons (pg_name (i := 7) sc_cells.nd rfl (.inl rfl)) (pgs_cons (pg_name (i := 3) sc_cells.nd rfl (.inl rfl)) (pgs_cons (pg_name (i := 6) sc_cells.nd rfl (.inl rfl)) (pgs_cons (pg_name (i := 4) sc_cells.nd rfl (.inl rfl)) pgs_nil)))))) (fun _ _ _ _ _ => pts_nil) (fun _ _ _ _ _ => (pe_tup (pa_cons (pv 4) (pa_cons (pv 6) pa_nil))))))))), ?_⟩
    obtain ⟨a, us, rfl, hS, hP⟩ := id hG
    have lS : us.length = sg.length := paired_len hP
    refine q_asgL (el_lst ea_nil (Nat.zero_le _)) fun m H1 nm e1 hm => ?_
    refine q_enumTs (ea_cons (ev_var rfl) ea_nil H1 (Ex.refl _) _ fun H2 e2 => ⟨a, us, rfl, ex_t (e1.trans e2) hS, ?_⟩)
    have e02 := e1.trans e2
    refine qloops_enumT (K := K) (fun i σ H' => Ex H H' ∧ (∃ ws, H' m = some (.lst ws) ∧ Paired (fun v c => FndV K v c H') ws (fF n sg i)) ∧ ∃ y3 y4 y5 y6, σ = [some (.ref a), some (vi n), some (.ref m), y3, y4, y5, y6, none])
      ⟨e02, ⟨[], e2 _ _ hm, .nil⟩, none, none, none, none, rfl⟩ (fun i σ' H' _ ⟨e, _⟩ => ex_t e hS) (fun i x t σ' H3 hx ⟨e3, ⟨ws, hws, pw⟩, y3, y4, y5, y6, hσ⟩ nt => ?_) (fun σ' H3 ⟨e3, ⟨ws, hws, pw⟩, y3, y4, y5, y6, hσ⟩ => ?_)
    · subst hσ
      obtain ⟨d, hd, b, rfl, hb⟩ := paired_at hP hx
      have mem := List.mem_iff_getElem?.mpr ⟨i, hd⟩
      have p2 := sok.pl d mem
      have nx : Ex H3 (upd H3 t (.tup [vi i, .ref b])) := Ex.new nt
      have e03 := e3.trans nx
      refine ⟨t, _, rfl, st_of upd_same, rfl, _, _, rfl, _, _, rfl, ⟨b, _, rfl, ex_t e03 hb, rfl, _, _, rfl, _, _, rfl, rfl, rfl, ?_⟩⟩
      refine s_forLs (ea_cons (ev_var rfl) (ea_cons (ev_var rfl) ea_nil) _ (Ex.refl _) _ fun H4 e4 => ⟨(n, d.2), ⟨rfl, n6, by show d.2 ≤ 4; omega⟩, fun v H5 e5 ⟨ra, rvs, hra, hrl, prs⟩ nra => ⟨ra, hra, ⟨rvs, sq_of hrl⟩, ?_⟩⟩)
      subst hra
      replace prs : Paired (Nats K H5) rvs (rows n d.2) := prs
      have lrv := paired_len prs
      rw [rows_len'] at lrv
      have big := pow_36 n6 p2
      have e35 := (nx.trans e4).trans e5
      have ram : ra ≠ m := fun zz => by have := nra _ rfl; rw [zz, (nx.trans e4) _ _ hws] at this; cases this
      have lL := paired_len pw
      have fw := fF_few n6 sok (i := i) (Nat.le_of_lt (List.getElem?_eq_some_iff.mp hd).1)
      refine loops_list (K := K) (xs := rvs) (fun j σ H' => Ex H H' ∧ H' ra = some (.lst rvs) ∧ Paired (Nats K H') rvs (rows n d.2) ∧ (∃ ws2, H' m = some (.lst ws2) ∧ Paired (fun v c => FndV K v c H') ws2 (fF n sg i ++ ((rows n d.2).take j).map fun r => (((need r : Nat) : Int) - 1, i, d.1, r)) ∧ ws2.length = ws.length + j) ∧ ∃ y6, σ = [some (.ref a), some (vi n), some (.ref m), some (vi i), some (.str d.1), some (vi d.2), y6, none])
        ⟨e03.trans (e4.trans e5), hrl, prs, ⟨ws, e35 _ _ hws, by rw [List.take_zero, List.map_nil, List.append_nil]; exact paired_imp (fun _ _ z => FndV.et (Dw.Ex.et e35) z) pw, rfl⟩, _, rfl⟩ (fun j σ' H' _ ⟨_, hr, _⟩ => sq_of hr) (fun j y σ' H6 hy ⟨e6, hr6, pr6, ⟨ws2, hw2, pw2, lw2⟩, y6', hσ⟩ => ?_) (fun σ' H6 ⟨e6, hr6, pr6, ⟨ws2, hw2, pw2, lw2⟩, y6', hσ⟩ => ?_)
      · subst hσ
        obtain ⟨row, hrow, xa, rfl, hxa⟩ := paired_at pr6 hy
        have hj := (List.getElem?_eq_some_iff.mp hy).1
        obtain ⟨lr, rl⟩ := rows_of (List.mem_iff_getElem?.mpr ⟨j, hrow⟩)
        have mx : ∀ H7, Ex H6 H7 → Ev (tCB (rMaxT K) (tCons (tOp (rCatA K) (tTup (tCons (tUn (rU fun i => .int (-i)) (tC (.int 1))) tNil)) (tVar 6)) tNil)) [some (.ref a), some (vi n), some (.ref m), some (vi i), some (.str d.1), some (vi d.2), some (.ref xa), none] H7 (.int (((need row : Nat) : Int) - 1)) := fun H7 e7 =>
          ep_maxE (K := K) (tv_is (tv_cat (tv_tup (xs := [.int (-1)]) (ea_cons (ev_un ev_c ru_neg) ea_nil) (by show 1 ≤ 100000; decide)) (tv_ev (ev_var rfl) (ex_t e7 hxa)) (by rw [List.length_map, lr]; show 1 + d.2 ≤ 100000; omega)) (by rw [List.map_cons, List.map_map]; rfl))
        refine do_app hw2 (ev_var rfl) fun H7 e7 => do_tup (do_cons (do_ev (mx H7 e7) fun H8 e8 => do_cons (do_ev (ev_var rfl) fun H9 e9 => do_cons (do_ev (ev_var rfl) fun Ha ea => do_cons (do_ev (ev_var rfl) fun Hb eb => do_nil ⟨by show 4 ≤ sizeLine; decide, fun r2 nr2 => ?_⟩)))))
        have e6b := (e7.trans (e8.trans (e9.trans (ea.trans eb)))).trans (Ex.new (o := .tup [.int (((need row : Nat) : Int) - 1), vi i, .ref xa, .str d.1]) nr2)
        have hm9 := e6b _ _ hw2
        have hr2 : (upd Hb r2 (.tup [.int (((need row : Nat) : Int) - 1), vi i, .ref xa, .str d.1])) r2 = some (.tup [.int (((need row : Nat) : Int) - 1), vi i, .ref xa, .str d.1]) := upd_same
        generalize (upd Hb r2 (.tup [.int (((need row : Nat) : Int) - 1), vi i, .ref xa, .str d.1])) = Hc at *
        refine ⟨m, ws2, .ref r2, rfl, rfl, hm9, sz_lt (by omega), ?_⟩
        have et : ET K Hc (upd Hc m (.lst (ws2 ++ [.ref r2]))) := ET.refl.upd hm9
        refine ⟨(e6.trans e6b).mut nm, by rw [upd_ne ram]; exact e6b _ _ hr6, paired_imp (fun _ _ z => (z.ex e6b).et et) pr6, ⟨ws2 ++ [.ref r2], upd_same, ?_, by rw [List.length_append, lw2]; rfl⟩, _, rfl⟩
        rw [List.take_add_one, hrow, List.map_append, ← List.append_assoc]
        exact paired_snoc' (R := fun v c => FndV K v c (upd Hc m (.lst (ws2 ++ [.ref r2])))) (x := .ref r2) (y := (((need row : Nat) : Int) - 1, i, d.1, row)) ⟨r2, .ref xa, rfl, et _ _ (st_of hr2), xa, rfl, et _ _ (ex_t e6b hxa)⟩ (paired_imp (fun _ _ z => FndV.et (ET.trans (Dw.Ex.et e6b) et) z) pw2)
      · subst hσ
        refine ⟨e6, ⟨ws2, hw2, ?_⟩, _, _, _, _, rfl⟩
        rw [show (rows n d.2).take rvs.length = rows n d.2 from List.take_of_length_le (by rw [lrv, rows_len']; exact Nat.le_refl _)] at pw2
        have e : fF n sg (i + 1) = fF n sg i ++ (rows n d.2).map fun r => (((need r : Nat) : Int) - 1, i, d.1, r) := by
          unfold fF
          rw [List.range_succ, List.flatMap_append, List.flatMap_singleton]
          have : sg.getD i ("", 0) = d := by rw [List.getD_eq_getElem?_getD, hd]; rfl
          rw [this]
        rw [e]
        exact pw2
    · subst hσ
      rw [lS] at pw
      have fw := fF_few n6 sok (Nat.le_refl sg.length)
      refine do_ret (lc_src (cb1_src (do_ev (ev_var rfl) fun H4 e4 => ?_)))
      refine do_sortE (K := K) (R := FndV K) (f := dF) (g := encF) (e4 _ _ hws) (paired_imp (fun _ _ z => FndV.et (Dw.Ex.et e4) z) pw) (fun v b h => h.dp) (AllAlike.of fun b b' => dF_al b b') (Sortable.tuples fun b => ⟨_, _, rfl⟩) (fun b _ => dF_dep b) (fun v b H1 e h => FndV.et (Dw.Ex.et e) h) (fun x hx y hy => dF_lt fun z => by rw [(fF_mem hx).2.2.1, (fF_mem hy).2.2.1, z]) (fO_perm n sg) (fO_up n sg) fun p vs' H5 np e5 hp pv => ?_
      have lv := paired_len pv
      have lp := (fO_perm n sg).length_eq
      have eO := fO_map n sg
      refine do_elp (elp_lcLg (K := K) (ev_c) (sq_of hp) (by omega) (fun _ => true) (fun v i H' => ArgV K H' v (((fO n sg).map (fun c : Fnd => (c.2.2.1, c.2.2.2))).getD i ("", []))) (fun v b H H' e h => ArgV.et e.et h) (fun i x H6 e6 hx Φ kk => ?_)) fun tA us2 H6 nT e6 hT pT => ?_
      · obtain ⟨c, hc, b, xa, rfl, hb, hxa⟩ := paired_at pv hx
        refine ⟨b, _, rfl, ex_t e6 hb, rfl, _, _, rfl, _, _, rfl, _, _, rfl, _, _, rfl, rfl, kk _ rfl et_yes fun _ => ?_⟩
        rw [List.getD_eq_getElem?_getD, List.getElem?_map, hc]
        exact (tv_tup (K := K) (ea_cons (ev_var rfl) (ea_cons (ev_var rfl) ea_nil)) (by show 2 ≤ 100000; decide)).imp fun v H' e7 ⟨b2, hb2, sb⟩ => ⟨b2, xa, hb2, sb, hxa.ex (e6.trans e7)⟩
      · rw [range_all] at pT
        have e46 := (e4.trans e5).trans e6
        refine q tA us2 H6 (e3.trans e46) (fresh_back (e3.trans (e4.trans e5)) nT) hT ?_
        have eqM : (List.range vs'.length).map (fun i => ((fO n sg).map (fun c : Fnd => (c.2.2.1, c.2.2.2))).getD i ("", [])) = (fO n sg).map (fun c : Fnd => (c.2.2.1, c.2.2.2)) := by
          apply List.ext_getElem?
          intro i
          rw [lv]
          by_cases hi : i < (fO n sg).length
          · rw [List.getElem?_map, List.getElem?_range hi, List.getElem?_map, List.getElem?_eq_getElem hi]
            show some (((fO n sg).map _).getD i _) = _
            rw [List.getD_eq_getElem?_getD, List.getElem?_map, List.getElem?_eq_getElem hi]
            rfl
          · rw [List.getElem?_eq_none_iff.mpr (by simp; omega), List.getElem?_eq_none_iff.mpr (by simp; omega)]
        rw [← eO, ← eqM]
        exact paired_map (S := ArgV K H6) (fun _ _ z => z) pT
end
end K72
end
section
namespace K72
open PySem PySem.Spec PyProof.Rows L2 Evl RZ Dw M20 M25 CL LD
theorem Gb.shaped {k W : Nat} {d : PyData} (h : Gb k W d) (a : k ≤ 60) : SeqAt.shaped d = true := by
  have dp := h.dep
  show (d.canLay0 && decide (d.depth ≤ 64)) = true
  rw [h.lay, decide_eq_true (show d.depth ≤ 64 by omega)]
  rfl
theorem len_weight : ∀ ds : List PyData, ds.length ≤ PyData.weightAll ds
  | [] => Nat.zero_le _
  | d :: ds => by
    have := len_weight ds
    rw [PyData.weightAll, List.length_cons]
    omega
theorem weight_mem : ∀ {ds : List PyData} {d : PyData}, d ∈ ds → d.weight ≤ PyData.weightAll ds
  | x :: ds, d, h => by
    rw [PyData.weightAll]
    rcases List.mem_cons.mp h with e | h
    · rw [e]; omega
    · have := weight_mem h
      omega
theorem depth_mem : ∀ {ds : List PyData} {d : PyData}, d ∈ ds → d.depth ≤ PyData.depthAll ds
  | x :: ds, d, h => by
    rw [PyData.depthAll]
    rcases List.mem_cons.mp h with e | h
    · rw [e]; omega
    · have := depth_mem h
      omega
section
variable {P : Program} {w : World} {K : PySem.W.Frag} {mg : Str → Option Value} {base : Heap} {σ : L2.St} {H : Hp} {te : TE}
theorem c_lwhole_any (T : Txt mg) (D : Df K mg "_law_is_whole" s_lwhole ["_law_thing"]) : Cl P w K mg base 1 "_law_is_whole" (sp_whole_any K) := by
  refine cl_of (k := 0) D sc_lwhole (fun vs H Q E h => ?_) (fun f cdv A outer s H vs Q E hr h => ?_)
  · obtain ⟨d, ⟨v, rfl, _⟩, _⟩ := h
    rfl
  · obtain ⟨⟨⟨p, c⟩, d⟩, ⟨v, rfl, hv⟩, q⟩ := h
    refine ⟨_, (pss_one (ps_ret (pe_and (pe_callB call_isi (by rfl) T.z_isinstance (by decide +kernel) (pa_cons (pv 0) (pa_cons (pe_ty "int" (by rfl) T.z_int (by decide +kernel)) pa_nil))) (pe_one (pe_not (pe_callB call_isi (by rfl) T.z_isinstance (by decide +kernel) (pa_cons (pv 0) (pa_cons (pe_ty "bool" (by rfl) T.z_bool (by decide +kernel)) pa_nil)))))))), ?_⟩
    exact s_ret (ev_isIntB (K := K) (ev_var rfl) ev_c (ev_var rfl) ev_c hv) fun H1 e1 => q _ H1 e1 rfl
/-! ### a copy -/
def sp_copied (K : PySem.W.Frag) (k : Nat) : Sp := fun vs H Q _ => ∃ (p c : Addr) (d : PyData) (v : V), vs = [v] ∧ Dz K p c H v d ∧ d.depth < k ∧ d.weight ≤ 30000 ∧ ∀ r H', Ex H H' → Cz K H H' r d → Q r H'
theorem c_copied (T : Txt mg) (D : Df K mg "_law_copied" s_copied ["_law_thing"]) : ∀ k : Nat, Cl P w K mg base (k + 1) "_law_copied" (sp_copied K k)
  | 0 => cl_of (k := 0) D sc_copied (fun vs H Q E h => by
      obtain ⟨p, c, d, v, rfl, _⟩ := h
      rfl) (fun f cdv A outer s H vs Q E hr h => by
      obtain ⟨p, c, d, v, _, _, w, _⟩ := h
      omega)
  | k + 1 => by
    have c_copied := c_copied T D k
    refine cl_of (k := k + 1) D sc_copied (fun vs H Q E h => ?_) (fun f cdv A outer s H vs Q E hr h => ?_)
    · obtain ⟨p, c, d, v, rfl, _⟩ := h
      rfl
    · obtain ⟨p, c, d, v, rfl, hv, dep, wgt, q⟩ := h
      refine ⟨_, (pss_cons (ps_if (pt_val (pe_callB call_isi (by rfl) T.z_isinstance (by decide +kernel) (pa_cons (pv 0) (pa_cons (pe_ty "tuple" (by rfl) T.z_tuple (by decide +kernel)) pa_nil))))
        (pss_one (ps_ret (pe_callTy call_tuple_of (by rfl) T.z_tuple (by decide +kernel) (pa_cons (pe_lc (own := [("_law_one", 1)]) (g := (gName 1)) (by rfl) sc_copied.nd (pi_tup (pv 0)) (blkOk_by (own := [("_law_one", 1)]) (N := ["_law_thing", "_law_one"]) (sc := (defScope s_copied)) (by decide +kernel)) (fun _ _ _ _ _ => (pg_name (i := 1) sc_copied.nd rfl (.inl rfl))) (fun _ _ _ _ _ => pts_nil) (fun _ _ _ _ _ => (pe_cl c_copied hr (by first | decide | omega) (by rfl) (pa_cons (pv 1) pa_nil)))) pa_nil))))
        pss_nil)
      (pss_cons (ps_if (pt_val (pe_callB call_isi (by rfl) T.z_isinstance (by decide +kernel) (pa_cons (pv 0) (pa_cons (pe_ty "list" (by rfl) T.z_list (by decide +kernel)) pa_nil))))
        (pss_one (ps_ret (pe_lc (own := [("_law_one", 1)]) (g := (gName 1)) (by rfl) sc_copied.nd (pi_list (pv 0)) (blkOk_by (own := [("_law_one", 1)]) (N := ["_law_thing", "_law_one"]) (sc := (defScope s_copied)) (by decide +kernel)) (fun _ _ _ _ _ => (pg_name (i := 1) sc_copied.nd rfl (.inl rfl))) (fun _ _ _ _ _ => pts_nil) (fun _ _ _ _ _ => (pe_cl c_copied hr (by first | decide | omega) (by rfl) (pa_cons (pv 1) pa_nil))))))
        pss_nil)
      (pss_one (ps_ret (pv 0))))), ?_⟩
      have inner : ∀ (xs : List V) (ds : List PyData), DzAll K p c H xs ds → PyData.depthAll ds < k → PyData.weightAll ds ≤ 30000 → ∀ (i : Nat) (x : V) (d : PyData) (H1 : Hp), Ex H H1 → xs[i]? = some x → ds[i]? = some d → ∀ Q : VK, (∀ r H2, Ex H1 H2 → Cz K H1 H2 r d → Q r H2) → tCall (sp_copied K k) [] E0 (tCons (tVar 1) tNil) [some v, some x] H1 Q := fun xs ds hd hk hw i x e H1 e1 hx he Q' q' => by
        obtain ⟨e', he', hz⟩ := hd.get hx
        cases Option.some.inj (he.symm.trans he')
        have em := List.mem_iff_getElem?.mpr ⟨i, he⟩
        exact do_cons (do_ev (ev_var rfl) fun H2 e2 => do_nil ⟨p, c, e, x, rfl, hz.ex (e1.trans e2), Nat.lt_of_le_of_lt (depth_mem em) hk, Nat.le_trans (weight_mem em) hw, fun r H3 e3 hr => q' r H3 (e2.trans e3) (hr.low e2)⟩)
      refine q_when (b := isTup d) (et_val (ev_isTup (K := K) (ev_var rfl) ev_c hv)) (fun hb H1 e1 => ?_) (fun hb H1 e1 => ?_)
      · cases hv with
        | @tup a xs ds h r =>
          rw [PyData.depth] at dep
          rw [PyData.weight] at wgt
          have lx := DzAll.len r
          have lw := len_weight ds
          refine do_ret (do_cons (do_lcCzT (K := K) (ev_var rfl) (ex_t e1 h) lx.symm (by omega) (fun _ => rfl) (fun i x d H2 e2 hx hd => inner xs ds r (by omega) wgt i x d H2 (e1.trans e2) hx hd) fun t ws H2 nt e2 ht hw => do_nil ⟨t, ws, rfl, .inl ⟨sq_of ht, fun l nl => ?_⟩⟩))
          have e3 : Ex H2 (upd H2 l (.tup ws)) := Ex.new nl
          exact q _ _ (e1.trans (e2.trans e3)) (((Cz.tup upd_same fun H'' kp => hw H'' fun b o cc hb => kp b o cc (e3 _ _ hb))).low e1)
        | _ => cases hb
      · refine q_when (b := isLst d) (et_val (ev_isLst (K := K) (ev_var rfl) ev_c (hv.ex e1))) (fun hb H2 e2 => ?_) (fun hb2 H2 e2 => ?_)
        · cases hv with
          | @lst a xs ds h hp hc r =>
            rw [PyData.depth] at dep
            rw [PyData.weight] at wgt
            have lx := DzAll.len r
            have lw := len_weight ds
            have e12 := e1.trans e2
            exact do_ret (do_lcCzL (K := K) (ev_var rfl) (sq_of (e12 _ _ h)) lx.symm (by omega) (fun _ => rfl) (fun i x d H2 e2 hx hd => inner xs ds r (by omega) wgt i x d H2 (e12.trans e2) hx hd) fun t ws H3 nt e3 ht hw => q _ _ (e12.trans e3) ((Cz.lst nt ht hw).low e12))
          | _ => cases hb
        · refine s_ret (ev_var rfl) fun H3 e3 => q _ H3 (e1.trans (e2.trans e3)) fun H'' _ => ?_
          cases hv with
          | non => exact .non
          | bl b => exact .bl b
          | int i => exact .int i
          | str z => exact .str z
          | lst _ _ _ _ => cases hb2
          | tup _ _ => cases hb
end
end K72
end
section
namespace K72
open PySem PySem.Spec PyProof.Rows L2 Evl RZ Dw M20 M25 CL LD
theorem lay_mem : ∀ {ds : List PyData} {d : PyData}, PyData.canLayAll0 ds = true → d ∈ ds → d.canLay0 = true
  | x :: ds, d, a, h => by
    rw [PyData.canLayAll0, Bool.and_eq_true] at a
    rcases List.mem_cons.mp h with e | h
    · rw [e]; exact a.1
    · exact lay_mem a.2 h
theorem lay_of : ∀ {ds : List PyData}, (∀ d ∈ ds, d.canLay0 = true) → PyData.canLayAll0 ds = true
  | [], _ => by rw [PyData.canLayAll0]
  | x :: ds, h => by
    rw [PyData.canLayAll0, h x (List.mem_cons_self ..), lay_of fun d hd => h d (List.mem_cons_of_mem _ hd)]
    rfl
theorem depth_of : ∀ {ds : List PyData} {k : Nat}, (∀ d ∈ ds, d.depth ≤ k) → PyData.depthAll ds ≤ k
  | [], _, _ => by rw [PyData.depthAll]; exact Nat.zero_le _
  | x :: ds, k, h => by
    rw [PyData.depthAll]
    exact Nat.max_le.mpr ⟨h x (List.mem_cons_self ..), depth_of fun d hd => h d (List.mem_cons_of_mem _ hd)⟩
theorem shaped_filt {ds : List PyData} {f : PyData → Bool} (h : SeqAt.shaped (.list ds) = true) : SeqAt.shaped (.list (ds.filter f)) = true := by
  have h : ((PyData.list ds).canLay0 && decide ((PyData.list ds).depth ≤ 64)) = true := h
  show ((PyData.list (ds.filter f)).canLay0 && decide ((PyData.list (ds.filter f)).depth ≤ 64)) = true
  rw [Bool.and_eq_true, decide_eq_true_eq, PyData.canLay0, PyData.depth] at h ⊢
  refine ⟨lay_of fun d hd => lay_mem h.1 (List.mem_filter.mp hd).1, ?_⟩
  have : PyData.depthAll (ds.filter f) ≤ PyData.depthAll ds := depth_of fun d hd => depth_mem (List.mem_filter.mp hd).1
  omega
theorem eqv_nil {ds : List PyData} : PyData.eqv (.list ds) (.list []) = ds.isEmpty := by
  cases ds <;> simp [PyData.eqv, PyData.eqvAll]
section
variable {P : Program} {w : World} {K : PySem.W.Frag} {mg : Str → Option Value} {base : Heap} {σ : L2.St} {H : Hp} {te : TE} {p c : Addr}
theorem pick_dps {xs : List V} {ds : List PyData} {H' : Hp} (hd : DzAll K p c H xs ds) (e : Ex H H') : ∀ {ws : List V} {is : List Nat}, Paired (fun v i => xs[i]? = some v) ws is → DpAll K H' ws (is.map fun i => ds.getD i .none) := fun h =>
  dps_paired (K := K) (H := H') (R := fun v i => xs[i]? = some v) (f := fun i => ds.getD i PyData.none) (fun v i hv => by
    obtain ⟨d, h1, h2⟩ := hd.get hv
    rw [List.getD_eq_getElem?_getD, h1]
    exact (h2.ex e).dp) h
/-- [x for x in xs if x is odd] != [] -/
theorem ev_someOdd {xs : List V} {ds : List PyData} {f : PyData → Bool} (hd : DzAll K p c H xs ds) (sh : SeqAt.shaped (.list ds) = true) (h : EvLP te σ H (fun ws _ => Paired (fun v i => xs[i]? = some v) ws ((List.range xs.length).filter fun i => f (ds.getD i .none)))) : Ev (tOp (rNeD K) te (tLst tNil)) σ H (.bl (ds.any f)) := fun H1 e Q q =>
  do_op (h H1 e _ fun t ws H2 nt e2 ht hw => do_lst (do_nil ⟨Nat.zero_le _, fun r nr => by
    have e3 : Ex H2 (upd H2 r (.lst [])) := Ex.new nr
    refine ⟨.list (ds.filter f), .list [], .lst (sq_of (e3 _ _ ht)) ?_, .lst (sq_of upd_same) .nil, shaped_filt sh, by decide, ?_⟩
    · have z := pick_dps hd (e.trans (e2.trans e3)) hw
      rw [DzAll.len hd, range_filt] at z
      exact z
    · rw [eqv_nil]
      have : (!(ds.filter f).isEmpty) = ds.any f := by
        rw [Bool.eq_iff_iff]
        simp
      rw [this]
      exact q _ (e2.trans e3)⟩))
theorem all_any {n : Int} (ds : List PyData) : (ds.any fun d => !belowB n d) = !ds.all (belowB n) := by
  induction ds with
  | nil => rfl
  | cons x ds ih => rw [List.any_cons, List.all_cons, ih, Bool.not_and]
theorem below_int {n : Int} {d : PyData} (h : belowB n d = true) : wholeB d = true := by
  cases d <;> first | rfl | cases h
def sp_ljudged (K : PySem.W.Frag) : Sp := spX (fun (z : (Addr × Addr) × MArg × MArg × PyData) vs H => (∃ u v w x, vs = [u, v, w, x] ∧ MA K H u v z.2.1 ∧ Mdl K H w z.2.2.1.2.1 z.2.2.1.2.2 ∧ Dz K z.1.1 z.1.2 H x z.2.2.2) ∧ MOk z.2.1 ∧ MOk z.2.2.1 ∧ z.2.2.1.1 = z.2.1.1 ∧ Gb 5 1000 z.2.2.2) (fun z v H => Dp K H v (leadW z.2.1 z.2.2.1 z.2.2.2))
theorem few_of {d : PyData} (h : Gb 5 1000 d) : (listOf d).length ≤ 1000 := by
  cases d with
  | list ds =>
    have a := h.wgt
    have b := len_weight ds
    rw [PyData.weight] at a
    show ds.length ≤ 1000
    omega
  | _ => exact Nat.zero_le _
theorem c_ljudged (T : Txt mg) (D : Df K mg "_law_judged" s_ljudged ["_law_signature_here", "_law_one", "_law_other", "_law_thing"]) (c_lwhole : Cl P w K mg base 1 "_law_is_whole" (sp_whole_any K)) (c_cells : Cl P w K mg base 2 "_law_cells" (sp_lcellsO K)) (c_did : Cl P w K mg base 1 "_law_did" (sp_did K)) : Cl P w K mg base 3 "_law_judged" (sp_ljudged K) := by
  refine cl_of (k := 2) D sc_ljudged (fun vs H Q E h => ?_) (fun f cdv A outer s H vs Q E hr h => ?_)
  · obtain ⟨z, ⟨⟨u, v, w, x, rfl, _⟩, _⟩, _⟩ := h
    rfl
  · obtain ⟨⟨⟨p0, c0⟩, p, p2, d⟩, ⟨⟨u, v, w, x, rfl, hm, hw, hx⟩, ok, ok2, es, gb⟩, q⟩ := h
    refine ⟨_, (pss_cons (ps_if (PW.pt (pw_or (pt_not (pt_val (pe_callB call_isi (by rfl) T.z_isinstance (by decide +kernel) (pa_cons (pv 3) (pa_cons (pe_ty "list" (by rfl) T.z_list (by decide +kernel)) pa_nil))))) (pw_or1 (pt_cmpR op_ne (pe_callB call_len_seq (by rfl) T.z_len PySem.boot_len (pa_cons (pv 3) pa_nil)) (pe_ix ix_tup (pv 1) pe_int (fun _ _ => rfl)) (nomark _)))))
        (pss_one (ps_ret (pe_tup (pa_cons pe_str pa_nil))))
        pss_nil)
      (pss_cons (ps_if (pt_cmpR (op_neD hr.units) (pe_lc (own := [("_law_image_here", 7)]) (g := (gName 7)) (by rfl) sc_ljudged.nd (pi_list (pv 3)) (blkOk_by (own := [("_law_image_here", 7)]) (N := ["_law_signature_here", "_law_one", "_law_other", "_law_thing", "_law_name", "_law_args", "_law_led_there", "_law_image_here", "_law_arg"]) (sc := (defScope s_ljudged)) (by decide +kernel)) (fun _ _ _ _ _ => (pg_name (i := 7) sc_ljudged.nd rfl (.inl rfl))) (fun _ _ _ _ _ => (pts_one (PW.pt (pw_or (pt_not (pt_val (pe_cl c_lwhole hr (by first | decide | omega) (by rfl) (pa_cons (pv 7) pa_nil)))) (pw_or1 (pt_cmpR op_notIn_rng (pv 7) (pe_callTy cr_range1 (by rfl) T.z_range (by decide +kernel) (pa_cons (pe_ix (ix_tupK K) (pv 2) pe_int (fun _ _ => rfl)) pa_nil)) (by rfl))))))) (fun _ _ _ _ _ => (pv 7))) (pe_lst pa_nil) (nomark _))
        (pss_one (ps_ret (pe_tup (pa_cons pe_str pa_nil))))
        pss_nil)
      (pss_cons (ps_for PassesOwn.never (by rfl) (pi_list (pe_cl c_cells hr (by first | decide | omega) (by rfl) (pa_cons (pv 0) (pa_cons (pe_ix ix_tup (pv 1) pe_int (fun _ _ => rfl)) pa_nil)))) (pg_tup (by rfl) (pgs_cons (pg_name (i := 4) sc_ljudged.nd rfl (.inl rfl)) (pgs_cons (pg_name (i := 5) sc_ljudged.nd rfl (.inl rfl)) pgs_nil)))
        (pss_cons (ps_set (i := 6) sc_ljudged.nd rfl (.inl rfl) (pe_callTy call_tuple_of (by rfl) T.z_tuple (by decide +kernel) (pa_cons (pe_lc (own := [("_law_arg", 8)]) (g := (gName 8)) (by rfl) sc_ljudged.nd (pi_tup (pv 5)) (blkOk_by (own := [("_law_arg", 8)]) (N := ["_law_signature_here", "_law_one", "_law_other", "_law_thing", "_law_name", "_law_args", "_law_led_there", "_law_image_here", "_law_arg"]) (sc := (defScope s_ljudged)) (by decide +kernel)) (fun _ _ _ _ _ => (pg_name (i := 8) sc_ljudged.nd rfl (.inl rfl))) (fun _ _ _ _ _ => pts_nil) (fun _ _ _ _ _ => (pe_ix (ix_listK K) (pv 3) (pv 8) (fun _ _ => rfl)))) pa_nil)))
        (pss_one (ps_if (pt_cmpR op_ne (pe_cl c_did hr (by first | decide | omega) (by rfl) (pa_cons (pv 0) (pa_cons (pv 2) (pa_cons (pv 4) (pa_cons (pv 6) pa_nil))))) (pe_ix ix_list (pv 3) (pe_cl c_did hr (by first | decide | omega) (by rfl) (pa_cons (pv 0) (pa_cons (pv 1) (pa_cons (pv 4) (pa_cons (pv 5) pa_nil))))) (fun _ _ => rfl)) (nomark _))
          (pss_one (ps_ret (pe_tup (pa_cons pe_str (pa_cons (pv 4) (pa_cons (pv 5) pa_nil))))))
          pss_nil))))
      (pss_one (ps_ret pe_non))))), ?_⟩
    replace hm : MA K H u v p := hm
    replace hw : Mdl K H w p2.2.1 p2.2.2 := hw
    replace hx : Dz K p0 c0 H x d := hx
    replace es : p2.1 = p.1 := es
    replace gb : Gb 5 1000 d := gb
    have few := few_of gb
    replace q : ∀ r H', Ex H H' → Dp K H' r (leadW p p2 d) → Q r H' := q
    obtain ⟨z, tv, rfl, hZ, hT⟩ := id hm.2
    obtain ⟨z2, tv2, rfl, hZ2, hT2⟩ := id hw
    have n6 := ok.2.n6
    have n26 := ok2.2.n6
    have ret : ∀ (H1 : Hp) (t : TS) (σ : L2.St), Ex H H1 → formB p.2.1 p2.2.1 d = false → tRet (tTup (tCons (tC (.str "form")) tNil)) { nx := t { nx := fun _ H' => Q .non H', rt := Q }, rt := Q } σ H1 := fun H1 t σ e1 hf => by
      refine s_retP (tv_tup (K := K) (xs := [.str "form"]) (ea_cons ev_c ea_nil) (by show 1 ≤ 100000; decide)) fun r H2 e2 ⟨t, hr, ht⟩ => q _ H2 (e1.trans e2) ?_
      rw [leadW, if_neg (by rw [hf]; decide), hr]
      exact .tup ht (.cons (.str _) .nil)
    refine q_when (b := !isLst d || !decide ((listOf d).length = p.2.1)) (et_is (et_or (a := !isLst d) (b := !decide ((listOf d).length = p.2.1)) (et_is (et_not (et_val (ev_isLst (K := K) (ev_var rfl) ev_c hx))) rfl) (fun e => ?_)) rfl) (fun hb H1 e1 => ?_) (fun hb H1 e1 => ?_)
    · obtain ⟨a, xs, ds, rfl, rfl, ha, hd, _, _⟩ := lst_of hx (by simpa using e)
      refine et_test (ev_is (ev_op (ev_len (ev_var rfl) (sq_of ha)) (ev_op (ev_var rfl) ev_c (rv_ixT (K := K) hZ (atI_vi (k := 0) rfl))) (rv_ne rfl)) ?_)
      have lx := DzAll.len hd
      show V.bl (!decide (V.int (xs.length : Int) = vi p.2.1)) = V.bl (!decide (ds.length = p.2.1))
      congr 2
      rw [decide_eq_decide, lx]
      exact ⟨fun z => by have := V.int.inj z; omega, fun z => by rw [z]⟩
    · refine ret H1 _ _ e1 ?_
      rw [formB]
      cases h1 : isLst d with
      | false => rfl
      | true =>
        rw [h1] at hb
        have : decide ((listOf d).length = p.2.1) = false := by simpa using hb
        rw [this]
        rfl
    · rw [Bool.or_eq_false_iff, Bool.not_eq_false', Bool.not_eq_false', decide_eq_true_eq] at hb
      obtain ⟨a, xs, ds, rfl, rfl, ha, hd, np, nc⟩ := lst_of hx hb.1
      have ln : ds.length = p.2.1 := hb.2
      have lx := DzAll.len hd
      replace few : ds.length ≤ 1000 := few
      refine q_when (b := ds.any fun e => !belowB p2.2.1 e) (et_test (ev_someOdd (K := K) (hd.ex e1) (gb.shaped (by decide)) (elp_lcL (K := K) (ev_var rfl) (sq_of (e1 _ _ ha)) (by omega) _ (fun v i _ => xs[i]? = some v) (fun _ _ _ _ _ z => z) (fun _ => rfl) (fun i y H2 e2 hy => ⟨?_, fun _ => ep_ev (ev_var rfl) fun _ _ => hy⟩)))) (fun hb2 H2 e2 => ?_) (fun hb2 H2 e2 => ?_)
      · obtain ⟨e, he, hz⟩ := hd.get hy
        have eg : ds.getD i .none = e := by rw [List.getD_eq_getElem?_getD, he]; rfl
        rw [eg]
        have e02 := e1.trans e2
        refine et_is (et_or (a := !wholeB e) (b := !belowB p2.2.1 e) (et_not (et_val (ev_callV (v := .bl (wholeB e)) ((p0, c0), e) (ea_cons (ev_var rfl) ea_nil) (fun H3 e3 => ⟨y, rfl, hz.ex (e02.trans e3)⟩) (fun _ _ z => z)))) (fun we => ?_)) ?_
        · obtain ⟨k, rfl, rfl⟩ := whole_int hz (by simpa using we)
          refine et_test (ev_is (ev_notRng (i := k) (n := (p2.2.1 : Int)) (ev_var rfl) (fun H3 e3 => ea_cons (ev_op (ev_var rfl) ev_c (rv_ixT (K := K) (ex_t (e02.trans e3) hZ2) (atI_vi (k := 0) rfl))) ea_nil)) ?_)
          rw [belowB, Bool.decide_and]
        · cases hw : wholeB e with
          | true => rfl
          | false =>
            cases hb3 : belowB (p2.2.1 : Int) e with
            | false => rfl
            | true => rw [below_int hb3] at hw; cases hw
      · refine ret H2 _ _ (e1.trans e2) ?_
        rw [all_any, Bool.not_eq_true'] at hb2
        rw [formB, show (listOf (.list ds)).all (belowB p2.2.1) = false from hb2, Bool.and_false, Bool.and_false]
      · rw [all_any, Bool.not_eq_false'] at hb2
        have fb : formB p.2.1 p2.2.1 (.list ds) = true := by
          rw [formB, show (listOf (.list ds)).all (belowB p2.2.1) = true from hb2, decide_eq_true (show (listOf (.list ds)).length = p.2.1 from ln)]
          rfl
        obtain ⟨a', ea, haF, lf, low⟩ := form_nats hx fb
        cases (V.ref.inj ea)
        rw [leadW, if_pos fb] at q
        generalize natsOf (.list ds) = F at *
        have e02 := e1.trans e2
        refine q_forLs (ea_cons (ev_var rfl) (ea_cons (ev_op (ev_var rfl) ev_c (rv_ixT (K := K) (ex_t e02 hZ) (atI_vi (k := 0) rfl))) ea_nil) H2 (Ex.refl _) _ fun H3 e3 => ⟨p.1, p.2.1, u, rfl, hm.1.ex (e02.trans e3), ok.1, n6, fun b bs H4 e4 nb hb pw => ⟨b, rfl, ⟨_, sq_of hb⟩, ?_⟩⟩)
        have e04 := e02.trans (e3.trans e4)
        replace pw : Paired (ArgV K H4) bs (ordc p.2.1 p.1) := pw
        refine qloops_list (K := K) (xs := bs) (fun i σ H' => Ex H4 H' ∧ ((ordc p.2.1 p.1).take i).all (fun c => !(!okC p2.2.1 F (lcOf p p2 c))) = true ∧ ∃ y4 y5 y6, σ = [some u, some (.ref z), some (.ref z2), some (.ref a), y4, y5, y6, none, none]) ⟨Ex.refl _, by rw [List.take_zero]; rfl, none, none, none, rfl⟩ (fun i σ' H' _ ⟨e, _⟩ => sq_of (e _ _ hb)) (fun i y σ' H5 hy ⟨e5, al, y4, y5, y6, hσ⟩ => ?_) (fun σ' H5 ⟨e5, al, y4, y5, y6, hσ⟩ => ?_)
        · subst hσ
          obtain ⟨c, hc, t, x1, rfl, ht, xa, rfl, hxa⟩ := paired_at pw hy
          obtain ⟨i2, dd, hi2, hcd, hr⟩ := sig_at ok (ordc_mem (List.mem_iff_getElem?.mpr ⟨i, hc⟩))
          have p2' := ok.1.pl dd (List.mem_iff_getElem?.mpr ⟨i2, hi2⟩)
          obtain ⟨lr, rl⟩ := rows_of hr
          obtain ⟨il, t1, tb⟩ := tbOf_sig ok ok rfl hi2
          obtain ⟨il2, t2, tb2⟩ := tbOf_sig ok ok2 es hi2
          have e05 := e04.trans e5
          refine ⟨t, _, rfl, ex_t e5 ht, rfl, _, _, rfl, _, _, rfl, rfl, ?_⟩
          show tSeq _ _ _ [some u, some (.ref z), some (.ref z2), some (.ref a), some (.str c.1), some (.ref xa), y6, none, none] H5
          refine do_set (eu_tupN (el_getS (K := K) (row := c.2) (S := F) (i := 5) (j := 8) (k := 3) (fun _ => rfl) rfl (fun _ => rfl) (fun _ => rfl) (ex_t e5 hxa) (sq_of (e05 _ _ haF)) (fun k hk => by rw [lf]; exact rl k hk) (by omega)) H5 (Ex.refl _) _ fun r H6 nr e6 hr6 => ?_)
          show tIfS _ _ _ _ [some u, some (.ref z), some (.ref z2), some (.ref a), some (.str c.1), some (.ref xa), some (.ref r), none, none] H6
          have e06 := e05.trans e6
          have im : ∀ k ∈ c.2.map (g F), k < p2.2.1 := fun k hk => by
            obtain ⟨j, hj, rfl⟩ := List.mem_map.mp hk
            exact low _ (M25.g_mem (by rw [lf]; exact rl j hj))
          have w1 : g (p.2.2.getD i2 []) (plc p.2.1 c.2) = g (tbOf p.1 p.2.2 c.1) (plc p.2.1 c.2) := by
            rw [hcd, t1, List.getD_eq_getElem?_getD, List.getElem?_eq_getElem il]
            rfl
          have w2 : p2.2.2.getD i2 [] = tbOf p.1 p2.2.2 c.1 := by
            rw [hcd, t2, List.getD_eq_getElem?_getD, List.getElem?_eq_getElem il2]
            rfl
          have wl : g (tbOf p.1 p.2.2 c.1) (plc p.2.1 c.2) < F.length := by
            rw [lf, hcd, t1]
            refine tb.low _ ?_
            have := plc_low rl (by rw [lr]; exact p2')
            rw [← lr]
            exact this
          refine s_when (b := !okC p2.2.1 F (lcOf p p2 c)) (et_test (ev_is (ev_op (ev_callV (p2, dd, i2, c.2.map (g F)) (ea_cons (ev_var rfl) (ea_cons (ev_var rfl) (ea_cons (ev_var rfl) (ea_cons (ev_var rfl) ea_nil)))) (fun H7 e7 => ⟨⟨u, .ref z2, .ref r, by rw [hcd], ⟨by rw [es]; exact hm.1.ex (e06.trans e7), hw.ex (e06.trans e7)⟩, r, rfl, ex_t e7 (st_of hr6)⟩, ok2, by rw [es]; exact hi2, by show (c.2.map (g F)).length = dd.2; rw [List.length_map, lr], im⟩) (fun _ _ z => z)) (ev_op (ev_var rfl) (ev_callV (v := vi (g (tbOf p.1 p.2.2 c.1) (plc p.2.1 c.2))) (p, dd, i2, c.2) (ea_cons (ev_var rfl) (ea_cons (ev_var rfl) (ea_cons (ev_var rfl) (ea_cons (ev_var rfl) ea_nil)))) (fun H7 e7 => ⟨⟨u, .ref z, .ref xa, by rw [hcd], ⟨hm.1.ex (e06.trans e7), hm.2.ex (e06.trans e7)⟩, xa, rfl, ex_t (e5.trans (e6.trans e7)) hxa⟩, ok, hi2, lr, rl⟩) (fun _ _ z => by rw [← w1]; exact z)) (rv_ixL (K := K) (sq_of (e06 _ _ haF)) (atI_vi (v := vi (g F (g (tbOf p.1 p.2.2 c.1) (plc p.2.1 c.2)))) (by rw [List.getElem?_map, g_eq wl]; rfl)))) (rv_ne rfl)) ?_)) (fun ho H7 e7 => ?_) (fun ho H7 e7 => ?_)
          · show V.bl (!decide (vi (g (p2.2.2.getD i2 []) (plc p2.2.1 (c.2.map (g F)))) = vi (g F (g (tbOf p.1 p.2.2 c.1) (plc p.2.1 c.2))))) = V.bl (!decide (g F (g (tbOf p.1 p.2.2 c.1) (plc p.2.1 c.2)) = g (tbOf p.1 p2.2.2 c.1) (plc p2.2.1 (c.2.map (g F)))))
            congr 2
            rw [w2, decide_eq_decide]
            exact ⟨fun z => by have := V.int.inj z; omega, fun z => by rw [z]⟩
          · have fd : fod p p2 F = some c := find_at hc al ho
            refine s_retP (tv_tup (K := K) (xs := [.str "cell", .str c.1, .ref xa]) (ea_cons ev_c (ea_cons (ev_var rfl) (ea_cons (ev_var rfl) ea_nil))) (by show 3 ≤ 100000; decide)) fun v H8 e8 ⟨vb, hv, hvb⟩ => q _ H8 (e06.trans (e7.trans e8)) ?_
            rw [fd, hv]
            exact .tup hvb (.cons (.str _) (.cons (.str _) (.cons (Nats.dp ⟨xa, rfl, ex_t (e5.trans (e6.trans (e7.trans e8))) hxa⟩) .nil)))
          · refine ⟨e5.trans (e6.trans e7), ?_, _, _, _, rfl⟩
            rw [List.take_add_one, hc, List.all_append, al]
            show (true && ([c].all _)) = true
            rw [List.all_cons, List.all_nil, Bool.and_true, Bool.true_and, ho]
            rfl
        · subst hσ
          refine s_ret (v := .non) ev_c fun H6 e6 => q _ H6 (e04.trans (e5.trans e6)) ?_
          rw [show fod p p2 F = none from find_no (by rw [List.take_of_length_le (by rw [paired_len pw]; exact Nat.le_refl _)] at al; exact al)]
          exact .non
end
end K72
end
section
namespace K72
open PySem PySem.Spec PyProof.Rows L2 Evl RZ Dw M20 M25 CL LD
/-! bounded rows of data -/
structure GbA (k W : Nat) (ds : List PyData) : Prop where
  lay : PyData.canLayAll0 ds = true
  dep : PyData.depthAll ds ≤ k
  wgt : PyData.weightAll ds ≤ W
  its : PyData.intsShortAll 40 ds = true
  sho : PyData.showableAll ds = true
theorem GbA.mono {k W k' W' : Nat} {d : List PyData} (h : GbA k W d) (a : k ≤ k') (b : W ≤ W') : GbA k' W' d := ⟨h.lay, Nat.le_trans h.dep a, Nat.le_trans h.wgt b, h.its, h.sho⟩
theorem gba_nil : GbA 0 0 [] := ⟨by rw [PyData.canLayAll0], by rw [PyData.depthAll]; exact Nat.le_refl _, by rw [PyData.weightAll]; exact Nat.le_refl _, by rw [PyData.intsShortAll], by rw [PyData.showableAll]⟩
theorem gba_cons {k W W' : Nat} {d : PyData} {ds : List PyData} (g : Gb k W d) (h : GbA k W' ds) : GbA k (W + 1 + W') (d :: ds) := by
  have g1 := g.dep
  have g2 := g.wgt
  have h1 := h.dep
  have h2 := h.wgt
  exact ⟨by rw [PyData.canLayAll0, g.lay, h.lay]; rfl, by rw [PyData.depthAll]; omega, by rw [PyData.weightAll]; omega, by rw [PyData.intsShortAll, g.its, h.its]; rfl, by rw [PyData.showableAll, g.sho, h.sho]; rfl⟩
theorem gb_tup {k W : Nat} {ds : List PyData} (h : GbA k W ds) : Gb (k + 1) W (.tuple ds) := ⟨by rw [PyData.canLay0]; exact h.lay, by rw [PyData.depth]; have := h.dep; omega, by rw [PyData.weight]; exact h.wgt, by rw [PyData.intsShort]; exact h.its, by rw [PyData.showable]; exact h.sho⟩
theorem gb_lst {k W : Nat} {ds : List PyData} (h : GbA k W ds) : Gb (k + 1) W (.list ds) := ⟨by rw [PyData.canLay0]; exact h.lay, by rw [PyData.depth]; have := h.dep; omega, by rw [PyData.weight]; exact h.wgt, by rw [PyData.intsShort]; exact h.its, by rw [PyData.showable]; exact h.sho⟩
theorem gb_str {z : Str} (h : (∀ c ∈ z.cps.toList, c < 0x110000) ∧ z.cps.size ≤ 22) : Gb 0 22 (.str z) := by
  have g := gd_str h.1 (Nat.le_trans h.2 (by decide))
  exact ⟨g.lay, g.dep, by rw [PyData.weight]; exact h.2, ints_mono _ g.its, g.sho⟩
theorem gb_none : Gb 0 0 .none := ⟨by rw [PyData.canLay0], by rw [PyData.depth]; decide, by rw [PyData.weight]; decide, by rw [PyData.intsShort], by rw [PyData.showable]⟩
theorem gb_bool (b : Bool) : Gb 0 0 (.bool b) := ⟨by rw [PyData.canLay0], by rw [PyData.depth]; decide, by rw [PyData.weight]; decide, by rw [PyData.intsShort], by rw [PyData.showable]⟩
theorem gb_int {i : Int} (w : (PyData.int i).weight ≤ 100) (s : (PyData.int i).intsShort 40 = true) (h : (PyData.int i).showable = true) : Gb 0 100 (.int i) := ⟨by rw [PyData.canLay0], by rw [PyData.depth]; exact Nat.le_refl _, w, s, h⟩
section
variable {P : Program} {w : World} {K : PySem.W.Frag} {mg : Str → Option Value} {base : Heap} {σ : L2.St} {H H' Hb : Hp} {p c : Addr} {n m k W : Nat} {v : V} {d : PyData}
/-- data of bounded size -/
def ThZ (K : PySem.W.Frag) (p c : Addr) (k W : Nat) (v : V) (H : Hp) : Prop := ∃ d, Dz K p c H v d ∧ Gb k W d
theorem ThZ.ex (e : Ex H H') (h : ThZ K p c k W v H) : ThZ K p c k W v H' := let ⟨d, x, y⟩ := h; ⟨d, x.ex e, y⟩
theorem ThZ.off (pu : Pur H p c n) (o : Off H H' p c) (h : ThZ K p c k W v H) : ThZ K p c k W v H' := let ⟨d, x, y⟩ := h; ⟨d, x.off pu o, y⟩
theorem ThZ.mono {k' W' : Nat} (h : ThZ K p c k W v H) (a : k ≤ k') (b : W ≤ W') : ThZ K p c k' W' v H := let ⟨d, x, y⟩ := h; ⟨d, x, y.mono a b⟩
theorem ep_mono {te : TE} {k' W' : Nat} (h : EvP te σ H (ThZ K p c k W)) (a : k ≤ k') (b : W ≤ W') : EvP te σ H (ThZ K p c k' W') := h.imp fun _ _ _ z => z.mono a b
/-- a tuple of so many values, bounded -/
def RwZ (K : PySem.W.Frag) (p c : Addr) (k W : Nat) (vs : List V) (H : Hp) : Prop := ∃ ds, DzAll K p c H vs ds ∧ GbA k W ds
theorem RwZ.ex {vs : List V} (e : Ex H H') (h : RwZ K p c k W vs H) : RwZ K p c k W vs H' := let ⟨ds, x, y⟩ := h; ⟨ds, x.ex e, y⟩
/-- rows of data -/
def EvZs (K : PySem.W.Frag) (p c : Addr) (k W n : Nat) (ta : TA) (σ : L2.St) (H : Hp) : Prop := ∀ H1, Ex H H1 → ∀ Q : List V → Hp → Prop, (∀ vs H2, Ex H1 H2 → vs.length = n → (∀ x ∈ vs, ThZ K p c k W x H2) → Q vs H2) → ta σ H1 Q
theorem ezs_nil : EvZs K p c k W 0 tNil σ H := fun H1 _ Q q => q [] H1 (Ex.refl _) rfl (fun x hx => by cases hx)
theorem ezs_cons {te : TE} {tr : TA} (h : EvP te σ H (ThZ K p c k W)) (hr : EvZs K p c k W n tr σ H) : EvZs K p c k W (n + 1) (tCons te tr) σ H := fun H1 e Q q => do_cons (h H1 e _ fun v H2 e2 hv => hr H2 (e.trans e2) _ fun vs H3 e3 ln hvs => q _ H3 (e2.trans e3) (by rw [List.length_cons, ln]) (fun x hx => by
  rcases List.mem_cons.mp hx with z | z
  · rw [z]
    exact hv.ex e3
  · exact hvs x z))
theorem rowsZ_of : ∀ {vs : List V}, (∀ x ∈ vs, ThZ K p c k W x H) → ∃ ds, DzAll K p c H vs ds ∧ GbA k (vs.length * (W + 1)) ds
  | [], _ => ⟨[], .nil, gba_nil.mono (Nat.zero_le _) (Nat.zero_le _)⟩
  | x :: vs, h => by
    obtain ⟨d, a, g⟩ := h x (List.mem_cons_self ..)
    obtain ⟨ds, b, g2⟩ := rowsZ_of (vs := vs) fun y hy => h y (List.mem_cons_of_mem _ hy)
    exact ⟨d :: ds, .cons a b, (gba_cons g g2).mono (Nat.le_refl _) (by rw [List.length_cons, Nat.succ_mul]; omega)⟩
/-- a tuple of such -/
theorem ep_tupN {ta : TA} (h : EvZs K p c k W n ta σ H) (l : n ≤ 1000) : EvP (tTup ta) σ H (ThZ K p c (k + 1) (n * (W + 1))) := fun H1 e Q q => do_tup (h H1 e _ fun vs H2 e2 ln hv => ⟨sz_of (by omega), fun a na => by
  obtain ⟨ds, r, g⟩ := rowsZ_of hv
  rw [ln] at g
  exact q _ _ (e2.trans (Ex.new na)) ⟨.tuple ds, .tup (st_of upd_same) (r.ex (Ex.new na)), gb_tup g⟩⟩)
/-- a list of such, new since the purse -/
theorem ep_lstN {ta : TA} (h : EvZs K p c k W n ta σ H) (l : n ≤ 1000) (pu : Pur H p c m) : EvP (tLst ta) σ H (ThZ K p c (k + 1) (n * (W + 1))) := fun H1 e Q q => do_lst (h H1 e _ fun vs H2 e2 ln hv => ⟨sz_of (by omega), fun a na => by
  obtain ⟨ds, r, g⟩ := rowsZ_of hv
  rw [ln] at g
  obtain ⟨ap, ac⟩ := (pu.ex (e.trans e2)).fresh na
  exact q _ _ (e2.trans (Ex.new na)) ⟨.list ds, .lst upd_same ap ac (r.ex (Ex.new na)), gb_lst g⟩⟩)
/-- a list of so many such -/
def LsZ (K : PySem.W.Frag) (p c : Addr) (k W n : Nat) (v : V) (H : Hp) : Prop := ∃ (l : Addr) (vs : List V), v = .ref l ∧ H l = some (.lst vs) ∧ l ≠ p ∧ l ≠ c ∧ vs.length = n ∧ ∀ x ∈ vs, ThZ K p c k W x H
theorem LsZ.ex (e : Ex H H') (h : LsZ K p c k W n v H) : LsZ K p c k W n v H' := let ⟨l, vs, a, b, d, f, g, i⟩ := h; ⟨l, vs, a, e _ _ b, d, f, g, fun x hx => (i x hx).ex e⟩
theorem ep_lstL {ta : TA} (h : EvZs K p c k W n ta σ H) (l : n ≤ 1000) (pu : Pur H p c m) : EvP (tLst ta) σ H (LsZ K p c k W n) := fun H1 e Q q => do_lst (h H1 e _ fun vs H2 e2 ln hv => ⟨sz_of (by omega), fun a na => by
  obtain ⟨ap, ac⟩ := (pu.ex (e.trans e2)).fresh na
  exact q _ _ (e2.trans (Ex.new na)) ⟨a, vs, rfl, upd_same, ap, ac, ln, fun x hx => (hv x hx).ex (Ex.new na)⟩⟩)
theorem ep_zc {x : V} {e : PyData} (h : ∀ H, Dz K p c H x e) (g : Gb k W e) : EvP (tC x) σ H (ThZ K p c k W) := ep_ev ev_c fun _ _ => ⟨e, h _, g⟩
theorem gb_i {i : Int} (h : (PyData.int i).weight ≤ 100 ∧ (PyData.int i).intsShort 40 = true ∧ (PyData.int i).showable = true) : Gb 2 100 (.int i) := (gb_int h.1 h.2.1 h.2.2).mono (by decide) (by decide)
theorem gim : Gb 2 100 (.int (-1)) := gb_i ⟨by rw [PyData.weight]; decide, by rw [PyData.intsShort]; decide, by rw [PyData.showable]; decide⟩
end
end K72
end
section
namespace K72
open PySem PySem.Spec PyProof.Rows L2 Evl RZ Dw M20 M25 CL LD
section
variable {P : Program} {w : World} {K : PySem.W.Frag} {mg : Str → Option Value} {base : Heap} {σ : L2.St} {H H' Hb : Hp} {p c : Addr} {n m k W : Nat} {v : V} {d : PyData}
theorem ep_catZ {ta tb : TE} (ha : EvP ta σ H (LsZ K p c k W m)) (hb : EvP tb σ H (LsZ K p c k W n)) (l : m + n ≤ 1000) {t : Nat} (pu : Pur H p c t) : EvP (tOp rCat ta tb) σ H (LsZ K p c k W (m + n)) := fun H1 e1 Q q => ha H1 e1 _ fun v H2 e2 hv => hb H2 (e1.trans e2) _ fun u H3 e3 hu => by
  obtain ⟨a, xs, rfl, hA, ap, ac, lx, zx⟩ := hv.ex e3
  obtain ⟨b, ys, rfl, hB, bp, bc, ly, zy⟩ := hu
  refine ⟨a, b, xs, ys, rfl, rfl, hA, hB, sz_of (by omega), fun r nr => ?_⟩
  obtain ⟨rp, rc⟩ := (pu.ex ((e1.trans e2).trans e3)).fresh nr
  refine q _ _ ((e2.trans e3).trans (Ex.new nr)) ⟨r, xs ++ ys, rfl, upd_same, rp, rc, by rw [List.length_append, lx, ly], fun x hx => ?_⟩
  rcases List.mem_append.mp hx with z | z
  · exact (zx x z).ex (Ex.new nr)
  · exact (zy x z).ex (Ex.new nr)
theorem ep_repZ {ta tb : TE} (ha : EvP ta σ H (LsZ K p c k W m)) (hb : ∀ H1, Ex H H1 → Ev tb σ H1 (vi n)) (l : m * n ≤ 1000) (n2 : n ≤ 1000) {t : Nat} (pu : Pur H p c t) : EvP (tOp rRep ta tb) σ H (LsZ K p c k W (m * n)) := fun H1 e1 Q q => ha H1 e1 _ fun v H2 e2 hv => hb H2 (e1.trans e2) H2 (Ex.refl _) _ fun H3 e3 => by
  obtain ⟨a, xs, rfl, hA, ap, ac, lx, zx⟩ := hv.ex e3
  refine ⟨a, (n : Int), xs, rfl, rfl, hA, by omega, by omega, by rw [Int.toNat_natCast, lx]; exact sz_of (by omega), fun r nr => ?_⟩
  rw [Int.toNat_natCast]
  obtain ⟨rp, rc⟩ := (pu.ex ((e1.trans e2).trans e3)).fresh nr
  refine q _ _ ((e2.trans e3).trans (Ex.new nr)) ⟨r, (List.replicate n xs).flatten, rfl, upd_same, rp, rc, by simp [lx, Nat.mul_comm], fun x hx => ?_⟩
  obtain ⟨l, hl, hx⟩ := List.mem_flatten.mp hx
  rw [(List.mem_replicate.mp hl).2] at hx
  exact (zx x hx).ex (Ex.new nr)
theorem LsZ.th (h : LsZ K p c k W n v H) : ThZ K p c (k + 1) (n * (W + 1)) v H := by
  obtain ⟨l, vs, rfl, hl, lp, lc, ln, hv⟩ := h
  obtain ⟨ds, r, g⟩ := rowsZ_of hv
  rw [ln] at g
  exact ⟨.list ds, .lst hl lp lc r, gb_lst g⟩
theorem ep_th {te : TE} (h : EvP te σ H (LsZ K p c k W n)) : EvP te σ H (ThZ K p c (k + 1) (n * (W + 1))) := h.imp fun _ _ _ z => z.th
theorem ep_lsL {te : TE} {xs : List V} (h : EvL te σ H xs) (hz : ∀ x ∈ xs, ThZ K p c k W x H) (pu : Pur H p c m) : EvP te σ H (LsZ K p c k W xs.length) := fun H1 e Q q => h H1 e _ fun r H2 nr e2 hr => by
  obtain ⟨rp, rc⟩ := (pu.ex e).fresh nr
  exact q _ _ e2 ⟨r, xs, rfl, hr, rp, rc, rfl, fun x hx => (hz x hx).ex (e.trans e2)⟩
theorem ls_mono {te : TE} {k' W' : Nat} (h : EvP te σ H (LsZ K p c k W n)) (a : k ≤ k') (b : W ≤ W') : EvP te σ H (LsZ K p c k' W' n) := h.imp fun _ _ _ z => let ⟨l, vs, x1, x2, x3, x4, x5, x6⟩ := z; ⟨l, vs, x1, x2, x3, x4, x5, fun x hx => (x6 x hx).mono a b⟩
theorem th_nat {j : Nat} (h : j ≤ 1000) : ThZ K p c 0 10 (vi j) H := ⟨.int (j : Int), .int _, Gd.gb (gd_int h)⟩
theorem th_nats {F : List Nat} (h : ∀ j ∈ F, j ≤ 1000) : ∀ x ∈ F.map vi, ThZ K p c 0 10 x H := fun x hx => by
  obtain ⟨j, hj, rfl⟩ := List.mem_map.mp hx
  exact th_nat (h j hj)
theorem gb_big {n : Nat} (h : n ≤ 6) : Gb 2 100 (.int ((n : Int) + 10 ^ 20)) := by
  have : n = 0 ∨ n = 1 ∨ n = 2 ∨ n = 3 ∨ n = 4 ∨ n = 5 ∨ n = 6 := by omega
  rcases this with rfl | rfl | rfl | rfl | rfl | rfl | rfl <;> exact gb_i ⟨by rw [PyData.weight]; decide +kernel, by rw [PyData.intsShort]; decide +kernel, by rw [PyData.showable]; decide +kernel⟩
theorem ep_tupF {te : TE} {a : Addr} {F : List Nat} (h : Ev te σ H (.ref a)) (ha : H a = some (.lst (F.map vi))) (lo : ∀ j ∈ F, j ≤ 1000) : EvP (tCB (rTupOf K) (tCons te tNil)) σ H (ThZ K p c 1 (F.length * 11)) := fun H1 e Q q => eu_tupL (K := K) h (sq_of ha) H1 e _ fun r H2 nr e2 hr => q _ _ e2 (by
  obtain ⟨ds, x, g⟩ := rowsZ_of (th_nats (K := K) (p := p) (c := c) (H := H2) lo)
  rw [List.length_map] at g
  exact ⟨.tuple ds, .tup (st_of hr) x, gb_tup g⟩)
theorem ep_slF {te : TE} {tl th : TO} {a : Addr} {F : List Nat} {lo hi : Option Int} {ws : List V} (h : Ev te σ H (.ref a)) (ha : H a = some (.lst (F.map vi))) (low : ∀ j ∈ F, j ≤ 1000) (h1 : EvO tl σ H lo) (h2 : EvO th σ H hi) (cut : cutV (F.map vi) lo hi = ws) (mem : ∀ x ∈ ws, x ∈ F.map vi) (pu : Pur H p c m) : EvP (tSl (rSlL K) te tl th) σ H (LsZ K p c 0 10 ws.length) := by
  have z := el_sl (K := K) h h1 h2 (sq_of ha)
  rw [cut] at z
  exact ep_lsL z (fun x hx => th_nats low x (mem x hx)) pu
def sp_bentL (K : PySem.W.Frag) : Sp := fun vs H Q _ => ∃ (p c a : Addr) (t n : Nat) (F : List Nat), vs = [.ref p, .ref a, vi n] ∧ Pur H p c t ∧ t ≤ 80000 ∧ H a = some (.lst (F.map vi)) ∧ a ≠ p ∧ a ≠ c ∧ 1 ≤ F.length ∧ F.length ≤ 6 ∧ (∀ j ∈ F, j ≤ 1000) ∧ 1 ≤ n ∧ n ≤ 6 ∧ ∀ v' H' t', Off H H' p c → Pur H' p c t' → t' ≤ t + 4 → ThZ K p c 5 1000 v' H' → Q v' H'
theorem c_bentL (T : Txt mg) (D : Df K mg "_law_bent" s_bentL ["_law_purse_here", "_law_thing", "_law_size"]) (c_draw : Cl P w K mg base 1 "_law_draw" sp_draw) (c_pick : Cl P w K mg base 2 "_law_pick" (sp_pick K)) : Cl P w K mg base 3 "_law_bent" (sp_bentL K) := by
  refine cl_of (k := 2) D sc_bentL (fun vs H Q E h => ?_) (fun f cdv A outer s H vs Q E hr h => ?_)
  · obtain ⟨p, c, a, t, n, F, rfl, _⟩ := h
    rfl
  · obtain ⟨p, c, a, t, n, F, rfl, pu, t8, ha, ap, ac, f1, f6, lo, n1, n6, q⟩ := h
    refine ⟨_, (pss_cons (ps_set (i := 3) sc_bentL.nd rfl (.inl rfl) (pe_cl c_draw hr (by first | decide | omega) (by rfl) (pa_cons (pv 0) (pa_cons (pe_callB call_len_seq (by rfl) T.z_len PySem.boot_len (pa_cons (pv 1) pa_nil)) pa_nil))))
      (pss_cons (ps_set (i := 4) sc_bentL.nd rfl (.inl rfl) (pe_cl c_draw hr (by first | decide | omega) (by rfl) (pa_cons (pv 0) (pa_cons pe_int pa_nil))))
      (pss_cons (ps_set (i := 5) sc_bentL.nd rfl (.inl rfl) (pe_lst (pa_cons (pe_cl c_draw hr (by first | decide | omega) (by rfl) (pa_cons (pv 0) (pa_cons (pv 2) pa_nil))) (pa_cons pe_bl (pa_cons (pe_un un_neg pe_int) (pa_cons (pv 2) (pa_cons pe_non (pa_cons pe_str (pa_cons pe_bl (pa_cons (pe_lst (pa_cons pe_int pa_nil)) (pa_cons (pe_tup (pa_cons pe_int pa_nil)) (pa_cons (pe_op op_add (pv 2) (pe_op op_pow pe_int pe_int)) (pa_cons (pe_un un_neg pe_int) pa_nil)))))))))))))
      (pss_cons (ps_if (pt_cmpR op_gt (pv 4) pe_int (nomark _))
        (pss_cons (ps_set (i := 6) sc_bentL.nd rfl (.inl rfl) (pe_lst (pa_cons (pe_op op_cat (pv 1) (pe_lst (pa_cons pe_int pa_nil))) (pa_cons (pe_slice sl_list (pv 1) (po_some pe_int) po_none) (pa_cons (pe_callTy call_tuple_of (by rfl) T.z_tuple (by decide +kernel) (pa_cons (pv 1) pa_nil)) (pa_cons pe_non (pa_cons (pe_lst pa_nil) (pa_cons (pe_op op_mulS pe_str (pe_callB call_len_seq (by rfl) T.z_len PySem.boot_len (pa_cons (pv 1) pa_nil))) (pa_cons pe_int (pa_cons (pe_op op_rep (pe_lst (pa_cons (pe_lst (pa_cons pe_int pa_nil)) pa_nil)) (pe_callB call_len_seq (by rfl) T.z_len PySem.boot_len (pa_cons (pv 1) pa_nil))) pa_nil))))))))))
        (pss_one (ps_ret (pe_cl c_pick hr (by first | decide | omega) (by rfl) (pa_cons (pv 0) (pa_cons (pv 6) pa_nil))))))
        pss_nil)
      (pss_one (ps_ret (pe_op op_cat (pe_op op_cat (pe_slice sl_list (pv 1) po_none (po_some (pv 3))) (pe_lst (pa_cons (pe_ix ix_list (pv 5) (pv 4) (fun _ _ => rfl)) pa_nil))) (pe_slice sl_list (pv 1) (po_some (pe_op op_add (pv 3) pe_int)) po_none)))))))), ?_⟩
    refine do_set (do_draw (n := F.length) (ev_var rfl) (ev_is (ev_len (ev_var rfl) (sq_of ha)) (by rw [List.length_map])) pu (by omega) f1 (by omega) fun at_ H1 at_l o1 pu1 => ?_)
    have ha1 := o1 _ _ ap ac ha
    show tSeq _ _ _ [some (.ref p), some (.ref a), some (vi n), some (vi at_), none, none, none] H1
    refine do_set (do_draw (n := 13) (ev_var rfl) ev_c pu1 (by omega) (by decide) (by decide) fun way H2 wl o2 pu2 => ?_)
    have ha2 := o2 _ _ ap ac ha1
    show tSeq _ _ _ [some (.ref p), some (.ref a), some (vi n), some (vi at_), some (vi way), none, none] H2
    refine do_set (do_lst (do_cons (do_draw (n := n) (ev_var rfl) (ev_var rfl) pu2 (by omega) n1 (by omega) fun k1 H3 k1l o3 pu3 => ?_)))
    have ha3 := o3 _ _ ap ac ha2
    have two : ∀ {i : Int}, Gb 2 100 (.int i) → ThZ K p c 2 100 (.int i) H3 := fun {i} g => ⟨_, .int _, g⟩
    refine (ezs_cons (K := K) (p := p) (c := c) (k := 2) (W := 100) (H := H3) (ep_zc (fun _ => .bl _) ((gb_bool _).mono (by decide) (by decide))) (ezs_cons (ep_ev (v := .int (-1)) (ev_un ev_c ru_neg) (fun _ _ => ⟨_, .int _, gim⟩)) (ezs_cons (ep_ev (ev_var rfl) fun _ _ => (th_nat (by omega : n ≤ 1000)).mono (by decide) (by decide)) (ezs_cons (ep_zc (fun _ => .non) (gb_none.mono (by decide) (by decide))) (ezs_cons (ep_zc (fun _ => .str _) ((gb_str (z := "0") (by decide)).mono (by decide) (by decide))) (ezs_cons (ep_zc (fun _ => .bl _) ((gb_bool _).mono (by decide) (by decide))) (ezs_cons (ep_mono (ep_lstN (k := 0) (W := 10) (n := 1) (ezs_cons (ep_ev ev_c fun _ _ => th_nat (j := 0) (by decide)) ezs_nil) (by decide) pu3) (by decide) (by decide)) (ezs_cons (ep_mono (ep_tupN (k := 0) (W := 10) (n := 1) (ezs_cons (ep_ev ev_c fun _ _ => th_nat (j := 0) (by decide)) ezs_nil) (by decide)) (by decide) (by decide)) (ezs_cons (ep_ev (v := .int ((n : Int) + 10 ^ 20)) ?_ fun _ _ => ⟨_, .int _, gb_big n6⟩) (ezs_cons (ep_ev (v := .int (-2)) (ev_un ev_c ru_neg) (fun _ _ => ⟨_, .int _, ?_⟩)) ezs_nil)))))))))) H3 (Ex.refl _) _ fun vs H4 e4 lv hv => ?_
    · exact ev_is (ev_op (ev_var rfl) (ev_op ev_c ev_c (rv_I ⟨by decide, by decide, by decide⟩)) rv_I0) rfl
    · exact gb_i ⟨by rw [PyData.weight]; decide, by rw [PyData.intsShort]; decide, by rw [PyData.showable]; decide⟩
    refine ⟨sz_of (by rw [List.length_cons, lv]; decide), fun ol nol => ?_⟩
    have e5 : Ex H4 (upd H4 ol (.lst (vi k1 :: vs))) := Ex.new nol
    have pu4 := pu3.ex (e4.trans e5)
    have hol : (upd H4 ol (.lst (vi k1 :: vs))) ol = some (.lst (vi k1 :: vs)) := upd_same
    have hall : ∀ x ∈ vi k1 :: vs, ThZ K p c 2 100 x (upd H4 ol (.lst (vi k1 :: vs))) := fun x hx => by
      rcases List.mem_cons.mp hx with z | z
      · rw [z]
        exact (th_nat (by omega)).mono (by decide) (by decide)
      · exact (hv x z).ex e5
    have e35 := e4.trans e5
    have ha5 := e35 _ _ ha3
    generalize (upd H4 ol (.lst (vi k1 :: vs))) = H5 at *
    have o5 : Off H H5 p c := ((o1.trans o2).trans o3).trans (Off.of_ex e35)
    have lol : (vi k1 :: vs).length = 11 := by rw [List.length_cons, lv]
    generalize vi k1 :: vs = odd at *
    show tSeq _ _ _ [some (.ref p), some (.ref a), some (vi n), some (vi at_), some (vi way), some (.ref ol), none] H5
    have fin : ∀ {v : V} {H' : Hp} {t' : Nat}, Off H5 H' p c → Pur H' p c t' → t' ≤ t + 4 → ThZ K p c 5 1000 v H' → Q v H' := fun {v H' t'} o pu' l z => q v H' t' (o5.trans o) pu' l z
    have thing : ∀ {H' : Hp} {σ : L2.St}, Ex H5 H' → σ[1]? = some (some (V.ref a)) → EvP (tVar 1) σ H' (LsZ K p c 0 10 F.length) := fun {H' σ} e hs => ep_ev (ev_var hs) fun H'' e'' => ⟨a, F.map vi, rfl, (e.trans e'') _ _ ha5, ap, ac, by rw [List.length_map], th_nats lo⟩
    have lenF : ∀ {H' : Hp} {σ : L2.St}, Ex H5 H' → σ[1]? = some (some (V.ref a)) → Ev (tCB (rLenS K) (tCons (tVar 1) tNil)) σ H' (vi F.length) := fun {H' σ} e hs => ev_is (ev_len (ev_var hs) (sq_of (e _ _ ha5))) (by rw [List.length_map])
    refine q_when (b := decide (10 < way)) (et_is (et_test (ev_op (ev_var rfl) ev_c rv_I0)) (by rw [decide_eq_decide]; omega)) (fun hb H6 e6 => ?_) (fun hb H6 e6 => ?_)
    · have ha6 := e6 _ _ ha5
      have pu6 := pu4.ex e6
      have nz := ezs_nil (K := K) (p := p) (c := c) (k := 0) (W := 10) (σ := [some (.ref p), some (.ref a), some (vi n), some (vi at_), some (vi way), some (.ref ol), none]) (H := H6)
      have z0 : EvZs K p c 0 10 1 (tCons (tC (.int 0)) tNil) [some (.ref p), some (.ref a), some (vi n), some (vi at_), some (vi way), some (.ref ol), none] H6 := ezs_cons (ep_ev ev_c fun _ _ => th_nat (j := 0) (by decide)) nz
      refine do_set (do_lst ((ezs_cons (K := K) (p := p) (c := c) (k := 3) (W := 1000) (H := H6) (ep_mono (ep_th (ep_catZ (K := K) (m := F.length) (n := 1) (k := 0) (W := 10) (thing e6 rfl) (ep_lstL z0 (by decide) pu6) (by omega) pu6)) (by decide) (by omega)) (ezs_cons (ep_mono (ep_th (ep_slF (K := K) (ws := (F.map vi).drop 1) (ev_var rfl) ha6 lo (eo_some ev_c) eo_none (cut_from' (k := 1)) (fun x hx => List.mem_of_mem_drop hx) pu6)) (by decide) (by rw [List.length_drop, List.length_map]; omega)) (ezs_cons (ep_mono (ep_tupF (K := K) (ev_var rfl) ha6 lo) (by decide) (by omega)) (ezs_cons (ep_zc (fun _ => .non) (gb_none.mono (by decide) (by decide))) (ezs_cons (ep_mono (ep_th (ep_lstL nz (by decide) pu6)) (by decide) (by decide)) (ezs_cons (ep_ev (ev_mulS ev_c (lenF e6 rfl) f1 (by omega) (by decide)) fun _ _ => ⟨_, .str _, (gb_str ⟨fun c hc => ?_, ?_⟩).mono (by decide) (by decide)⟩) (ezs_cons (ep_ev ev_c fun _ _ => (th_nat (j := 0) (by decide)).mono (by decide) (by decide)) (ezs_cons (ep_mono (ep_th (ep_repZ (K := K) (m := 1) (n := F.length) (k := 1) (W := 11) (ep_lstL (ezs_cons (ep_mono (ep_lstN z0 (by decide) pu6) (by decide) (by decide)) ezs_nil) (by decide) pu6) (fun H1 e1 => lenF (e6.trans e1) rfl) (by omega) (by omega) pu6)) (by decide) (by omega)) ezs_nil))))))))  H6 (Ex.refl _) _ fun vs2 H7 e7 lv2 hv2 => ⟨sz_of (by rw [lv2]; decide), fun sl nsl => ?_⟩))
      · have := repS_mem hc
        have all : ∀ c ∈ ("0" : Str).cps.toList, c < 0x110000 := by decide
        exact all c this
      · rw [repS_size]
        have : ("0" : Str).cps.size = 1 := by decide
        rw [this]
        omega
      · have e8 : Ex H7 (upd H7 sl (.lst vs2)) := Ex.new nsl
        obtain ⟨sp, sc⟩ := (pu6.ex e7).fresh nsl
        have hsl : (upd H7 sl (.lst vs2)) sl = some (.lst vs2) := upd_same
        have hv8 : ∀ x ∈ vs2, ThZ K p c 3 1000 x (upd H7 sl (.lst vs2)) := fun x hx => (hv2 x hx).ex e8
        have e78 := e7.trans e8
        generalize (upd H7 sl (.lst vs2)) = H8 at *
        show tRet _ _ [some (.ref p), some (.ref a), some (vi n), some (vi at_), some (vi way), some (.ref ol), some (.ref sl)] H8
        exact do_ret (do_cons (do_ev (ev_var rfl) fun H9 e9 => do_cons (do_ev (ev_var rfl) fun Ha ea => do_nil ⟨p, c, t + 3, (pu6.ex (e78.trans (e9.trans ea))), by omega, .inr ⟨sl, vs2, rfl, .inl (sq_of ((e9.trans ea) _ _ hsl)), sp, sc, by rw [lv2]; decide, by rw [lv2]; decide, fun j x Hb hx ob pub => fin ((Off.of_ex (e6.trans (e78.trans (e9.trans ea)))).trans ob) pub (by omega) ((((hv8 x (List.mem_of_getElem? hx)).ex (e9.trans ea)).off (pu6.ex (e78.trans (e9.trans ea))) ob).mono (by decide) (by decide))⟩⟩)))
    · have ha6 := e6 _ _ ha5
      have pu6 := pu4.ex e6
      have wl10 : way < odd.length := by
        have : ¬ 10 < way := of_decide_eq_false hb
        omega
      have hx := List.getElem?_eq_getElem wl10
      refine s_retP (ep_th (ep_catZ (K := K) (k := 2) (W := 100) (m := ((F.map vi).take at_).length + 1) (n := ((F.map vi).drop (at_ + 1)).length) (ep_catZ (K := K) (k := 2) (W := 100) (ls_mono (ep_slF (K := K) (ws := (F.map vi).take at_) (ev_var rfl) ha6 lo eo_none (eo_some (ev_var rfl)) cut_to' (fun x hx => List.mem_of_mem_take hx) pu6) (by decide) (by decide)) (ep_lstL (ezs_cons (ep_ev (ev_op (ev_var rfl) (ev_var rfl) (rv_ixL (K := K) (sq_of (e6 _ _ hol)) (atI_vi hx))) fun _ e => (hall _ (List.getElem_mem wl10)).ex (e6.trans e)) ezs_nil) (by decide) pu6) (by rw [List.length_take, List.length_map]; omega) pu6) (ls_mono (ep_slF (K := K) (ws := (F.map vi).drop (at_ + 1)) (ev_var rfl) ha6 lo (eo_some (ev_addM (a := at_) (b := 1) (ev_var rfl) ev_c)) eo_none cut_from' (fun x hx => List.mem_of_mem_drop hx) pu6) (by decide) (by decide)) (by rw [List.length_take, List.length_drop, List.length_map]; omega) pu6)) fun v H7 e7 hv => fin (Off.of_ex (e6.trans e7)) (pu6.ex e7) (by omega) (hv.mono (by decide) ?_)
      rw [List.length_take, List.length_drop, List.length_map]
      omega
end
end K72
end
section
namespace K72
open PySem PySem.Spec PyProof.Rows L2 Evl RZ Dw M20 M25 CL LD
theorem paired_takeZ {α β : Type} {R : α → β → Prop} : ∀ {xs : List α} {ys : List β} (k : Nat), Paired R xs ys → Paired R (xs.take k) (ys.take k)
  | _, _, k, .nil => by rw [List.take_nil, List.take_nil]; exact .nil
  | _, _, 0, .cons a b => .nil
  | _, _, k + 1, .cons a b => .cons a (paired_takeZ k b)
theorem paired_dropZ {α β : Type} {R : α → β → Prop} : ∀ {xs : List α} {ys : List β} (k : Nat), Paired R xs ys → Paired R (xs.drop k) (ys.drop k)
  | _, _, k, .nil => by rw [List.drop_nil, List.drop_nil]; exact .nil
  | _, _, 0, .cons a b => .cons a b
  | _, _, k + 1, .cons a b => paired_dropZ k b
/-- one put for another -/
def putAt {α : Type} (l : List α) (k : Nat) (x : α) : List α := l.take k ++ [x] ++ l.drop (k + 1)
theorem putAt_len {α : Type} {l : List α} {k : Nat} {x : α} (h : k < l.length) : (putAt l k x).length = l.length := by
  unfold putAt
  rw [List.length_append, List.length_append, List.length_take, List.length_drop, List.length_singleton]
  omega
theorem putAt_get {α : Type} {l : List α} {k i : Nat} {x : α} (h : k < l.length) : (putAt l k x)[i]? = if i = k then some x else l[i]? := by
  unfold putAt
  by_cases e : i = k
  · subst e
    rw [if_pos rfl, List.append_assoc, List.getElem?_append_right (by rw [List.length_take]; omega), List.length_take, Nat.min_eq_left (by omega), Nat.sub_self]
    rfl
  · rw [if_neg e, List.append_assoc]
    by_cases l1 : i < k
    · rw [List.getElem?_append_left (by rw [List.length_take]; omega), List.getElem?_take_of_lt l1]
    · rw [List.getElem?_append_right (by rw [List.length_take]; omega), List.length_take, Nat.min_eq_left (by omega)]
      obtain ⟨j, rfl⟩ : ∃ j, i = k + 1 + j := ⟨i - k - 1, by omega⟩
      rw [show k + 1 + j - k = j + 1 from by omega]
      show (l.drop (k + 1))[j]? = _
      rw [List.getElem?_drop]
theorem tab_put {n m at_ x : Nat} {t : List Nat} (h : Tab n m t) (ha : at_ < t.length) (hx : x < n) : Tab n m (putAt t at_ x) := ⟨by rw [putAt_len ha, h.len], fun k hk => by
  have : k < (putAt t at_ x).length := by rw [putAt_len ha, h.len]; exact hk
  have e := g_eq this
  rw [putAt_get ha] at e
  by_cases z : k = at_
  · rw [if_pos z] at e
    rw [← Option.some.inj e]
    exact hx
  · rw [if_neg z, g_eq (by rw [h.len]; exact hk)] at e
    rw [← Option.some.inj e]
    exact h.low k hk⟩
theorem mdl_put {sg : List (Str × Nat)} {n k : Nat} {ts : List (List Nat)} {t : List Nat} (h : MdlOk sg n ts) (hk : k < ts.length) (ht : ∀ (h1 : k < sg.length), Tab n sg[k].2 t) : MdlOk sg n (putAt ts k t) := ⟨h.n1, h.n6, by rw [putAt_len hk, h.len], fun i h1 h2 => by
  have e := List.getElem?_eq_getElem h2
  rw [putAt_get hk] at e
  by_cases z : i = k
  · rw [if_pos z] at e
    rw [← Option.some.inj e]
    subst z
    exact ht h1
  · rw [if_neg z, List.getElem?_eq_getElem (by rw [h.len]; exact h1)] at e
    rw [← Option.some.inj e]
    exact h.tab i h1 _⟩
section
variable {P : Program} {w : World} {K : PySem.W.Frag} {mg : Str → Option Value} {base : Heap} {σ : L2.St} {H H' : Hp} {p c : Addr}
def sp_near (K : PySem.W.Frag) : Sp := fun vs H Q _ => ∃ (p c : Addr) (t n : Nat) (sg : List (Str × Nat)) (ts : List (List Nat)) (v : V), vs = [.ref p, v] ∧ Pur H p c t ∧ t ≤ 80000 ∧ Mdl K H v n ts ∧ SigOk sg ∧ MdlOk sg n ts ∧ ∀ v' ts' H' t', Off H H' p c → Pur H' p c t' → t' ≤ t + 2 → Mdl K H' v' n ts' → MdlOk sg n ts' → Q v' H'
theorem c_near (T : Txt mg) (D : Df K mg "_law_near" s_near ["_law_purse_here", "_law_model_here"]) (c_draw : Cl P w K mg base 1 "_law_draw" sp_draw) : Cl P w K mg base 2 "_law_near" (sp_near K) := by
  refine cl_of (k := 1) D sc_near (fun vs H Q E h => ?_) (fun f cdv A outer s H vs Q E hr h => ?_)
  · obtain ⟨p, c, t, n, sg, ts, v, rfl, _⟩ := h
    rfl
  · obtain ⟨p, c, t, n, sg, ts, v, rfl, pu, t8, hM, sok, mok, q⟩ := h
    refine ⟨_, (pss_cons (ps_asg (pv 1) (pg_tup (by rfl) (pgs_cons (pg_name (i := 2) sc_near.nd rfl (.inl rfl)) (pgs_cons (pg_name (i := 3) sc_near.nd rfl (.inl rfl)) pgs_nil))))
      (pss_cons (ps_set (i := 4) sc_near.nd rfl (.inl rfl) (pe_cl c_draw hr (by first | decide | omega) (by rfl) (pa_cons (pv 0) (pa_cons (pe_callB call_len_seq (by rfl) T.z_len PySem.boot_len (pa_cons (pv 3) pa_nil)) pa_nil))))
      (pss_cons (ps_set (i := 5) sc_near.nd rfl (.inl rfl) (pe_cl c_draw hr (by first | decide | omega) (by rfl) (pa_cons (pv 0) (pa_cons (pe_callB call_len_seq (by rfl) T.z_len PySem.boot_len (pa_cons (pe_ix ix_tup (pv 3) (pv 4) (fun _ _ => rfl)) pa_nil)) pa_nil))))
      (pss_cons (ps_set (i := 6) sc_near.nd rfl (.inl rfl) (pe_op op_catA (pe_op op_catA (pe_slice sl_tupA (pe_ix ix_tup (pv 3) (pv 4) (fun _ _ => rfl)) po_none (po_some (pv 5))) (pe_tup (pa_cons (pe_op op_mod (pe_op op_add (pe_ix ix_tup (pe_ix ix_tup (pv 3) (pv 4) (fun _ _ => rfl)) (pv 5) (fun _ _ => rfl)) pe_int) (pv 2)) pa_nil))) (pe_slice sl_tupA (pe_ix ix_tup (pv 3) (pv 4) (fun _ _ => rfl)) (po_some (pe_op op_add (pv 5) pe_int)) po_none)))
      (pss_one (ps_ret (pe_tup (pa_cons (pv 2) (pa_cons (pe_op op_catA (pe_op op_catA (pe_slice sl_tupA (pv 3) po_none (po_some (pv 4))) (pe_tup (pa_cons (pv 6) pa_nil))) (pe_slice sl_tupA (pv 3) (po_some (pe_op op_add (pv 4) pe_int)) po_none)) pa_nil))))))))), ?_⟩
    obtain ⟨z, tv, rfl, hZ, hT⟩ := id hM
    obtain ⟨b, tvs, rfl, hB, hR⟩ := id hT
    replace hZ : SqT K H z [vi n, .ref b] := hZ
    replace hB : SqT K H b tvs := hB
    replace hR : Paired (Nats K H) tvs ts := hR
    have lT : tvs.length = ts.length := paired_len hR
    have n6 : n ≤ 6 := mok.n6
    have n1 : 1 ≤ n := mok.n1
    have l1 := sok.l1
    have l4 := sok.l4
    have lts := mok.len
    refine ⟨.ref z, rfl, z, _, rfl, hZ, rfl, _, _, rfl, _, _, rfl, rfl, ?_⟩
    show tSeq _ _ _ [some (.ref p), some (.ref z), some (vi n), some (.ref b), none, none, none] H
    refine do_set (do_draw (n := ts.length) (ev_var rfl) (ev_is (ev_lenT (ev_var rfl) hB) (by rw [lT])) pu (by omega) (by omega) (by omega) fun k H1 kl o1 pu1 => ?_)
    have et1 : ET K H H1 := o1.et pu
    show tSeq _ _ _ [some (.ref p), some (.ref z), some (vi n), some (.ref b), some (vi k), none, none] H1
    have ksg : k < sg.length := by omega
    have tb := mok.tab k ksg kl
    obtain ⟨tvk, etk, ta, rfl, hta⟩ := paired_get hR (List.getElem?_eq_getElem kl)
    have p2 := sok.pl _ (List.getElem_mem ksg)
    have b36 := pow_36 n6 p2
    have tlen := tb.len
    have pos : 1 ≤ n ^ sg[k].2 := Nat.pow_pos n1
    have cell : ∀ {H' : Hp} {σ : L2.St}, ET K H H' → σ[3]? = some (some (.ref b)) → σ[4]? = some (some (vi k)) → Ev (tOp (rIxT K) (tVar 3) (tVar 4)) σ H' (.ref ta) := fun {H' σ} et h3 h4 => ev_op (ev_var h3) (ev_var h4) (rv_ixT (K := K) (et _ _ hB) (atI_vi etk))
    refine do_set (do_draw (n := ts[k].length) (ev_var rfl) (ev_is (ev_lenT (cell et1 rfl rfl) (et1 _ _ hta)) (by rw [List.length_map])) pu1 (by omega) (by omega) (by omega) fun at_ H2 al o2 pu2 => ?_)
    have et2 : ET K H H2 := ET.trans et1 (o2.et pu1)
    show tSeq _ _ _ [some (.ref p), some (.ref z), some (vi n), some (.ref b), some (vi k), some (vi at_), none] H2
    have hta2 := et2 _ _ hta
    have xv := tb.low at_ (by rw [← tlen]; exact al)
    have xn : (g ts[k] at_ + 1) % n < n := Nat.mod_lt _ (by omega)
    have pm := putAt_len (l := ts[k]) (k := at_) (x := (g ts[k] at_ + 1) % n) al
    refine q_asgP (tv_is (tv_cat (K := K) (tv_cat (K := K) (tv_sl (K := K) (tv_ev (cell et2 rfl rfl) hta2) eo_none (eo_some (ev_var rfl))) (tv_tup (K := K) (xs := [vi ((g ts[k] at_ + 1) % n)]) (ea_cons (ev_modM (ev_addM (a := g ts[k] at_) (b := 1) (ev_op (cell et2 rfl rfl) (ev_var rfl) (rv_ixT (K := K) hta2 (atI_vi (k := at_) (by rw [List.getElem?_map, g_eq al]; rfl)))) ev_c) (ev_var rfl) (by omega)) ea_nil) (by show 1 ≤ 100000; decide)) (by rw [cut_to', List.length_take, List.length_map]; show _ + 1 ≤ _; omega)) (tv_sl (K := K) (tv_ev (cell et2 rfl rfl) hta2) (eo_some (ev_addM (a := at_) (b := 1) (ev_var rfl) ev_c)) eo_none) (by rw [cut_to', cut_from', List.length_append, List.length_take, List.length_drop, List.length_map]; show _ + 1 + _ ≤ _; omega)) (ys := (putAt ts[k] at_ ((g ts[k] at_ + 1) % n)).map vi) (by rw [cut_to', cut_from', putAt, List.map_append, List.map_append, List.map_take, List.map_drop]; rfl)) fun tn H3 e3 htn => ?_
    have et3 : ET K H H3 := ET.trans et2 (Dw.Ex.et e3)
    have pu3 := pu2.ex e3
    obtain ⟨ra, rfl, hra⟩ := htn
    show tRet _ _ [some (.ref p), some (.ref z), some (vi n), some (.ref b), some (vi k), some (vi at_), some (.ref ra)] H3
    refine do_ret (do_tup (do_cons (do_ev (ev_var rfl) fun H4 e4 => do_cons ((tv_is (tv_cat (K := K) (tv_cat (K := K) (tv_sl (K := K) (tv_ev (ev_var rfl) (et3.trans (Dw.Ex.et e4) _ _ hB)) eo_none (eo_some (ev_var rfl))) (tv_tup (K := K) (xs := [.ref ra]) (ea_cons (ev_var rfl) ea_nil) (by show 1 ≤ 100000; decide)) (by rw [cut_to', List.length_take]; show _ + 1 ≤ _; omega)) (tv_sl (K := K) (tv_ev (ev_var rfl) (et3.trans (Dw.Ex.et e4) _ _ hB)) (eo_some (ev_addM (a := k) (b := 1) (ev_var rfl) ev_c)) eo_none) (by rw [cut_to', cut_from', List.length_append, List.length_take, List.length_drop]; show _ + 1 + _ ≤ _; omega)) (ys := putAt tvs k (.ref ra)) (by rw [cut_to', cut_from', putAt])) H4 (Ex.refl _) _ fun vb H5 e5 ⟨rb, hvb, hrb⟩ => do_nil ⟨by show 2 ≤ sizeLine; decide, fun r nr => ?_⟩))))
    subst hvb
    have e6 : Ex H5 (upd H5 r (.tup [vi n, .ref rb])) := Ex.new nr
    have e36 := (e4.trans e5).trans e6
    have et6 : ET K H (upd H5 r (.tup [vi n, .ref rb])) := ET.trans et3 (Dw.Ex.et e36)
    refine q _ (putAt ts k (putAt ts[k] at_ ((g ts[k] at_ + 1) % n))) _ (t + 2) ((o1.trans o2).trans (Off.of_ex (e3.trans e36))) (pu3.ex e36) (by omega) ⟨r, .ref rb, rfl, st_of upd_same, rb, putAt tvs k (.ref ra), rfl, ex_t e6 hrb, ?_⟩ (mdl_put mok kl fun _ => tab_put tb al xn)
    have pR := paired_imp (fun _ _ zz => Nats.et et6 zz) hR
    exact paired_app (paired_app (paired_takeZ k pR) (.cons ⟨ra, rfl, ex_t e36 hra⟩ .nil)) (paired_dropZ (k + 1) pR)
end
end K72
end
section
namespace K72
open PySem PySem.Spec PyProof.Rows L2 Evl RZ Dw M20 M25 CL LD
/-! ### the model of the greatest of two, of six numbers -/
def mxT : List Nat := (rows 6 2).map fun r => need r - 1
def mxP : MArg := ([("f", 2)], 6, [mxT])
def rise : Nat → List (List Nat)
  | 0 => [[]]
  | k + 1 => (rise k).flatMap fun r => (List.range (6 - r.getLast?.getD 0)).map fun i => r ++ [r.getLast?.getD 0 + i]
def mxC : List LC := (rows 6 2).map fun r => (r, need r - 1, mxT)
theorem mx_lcs : lcs mxP mxP = mxC := by decide +kernel
theorem mx_rise : lvl 6 mxC 6 = rise 6 := by decide +kernel
theorem mx_few : ∀ k < 6, (lvl 6 mxC k).length ≤ 1600 := by decide +kernel
theorem rise_len : ∀ k < 7, (rise k).length ≤ 462 := by decide +kernel
theorem rise_six : (rise 6).length = 462 := by decide +kernel
theorem rise_low : ∀ k, ∀ r ∈ rise k, r.length = k ∧ ∀ y ∈ r, y < 6
  | 0, r, h => by
    rw [List.mem_singleton.mp h]
    exact ⟨rfl, fun y hy => by cases hy⟩
  | k + 1, r, h => by
    obtain ⟨r0, h0, h1⟩ := List.mem_flatMap.mp h
    obtain ⟨i, hi, rfl⟩ := List.mem_map.mp h1
    obtain ⟨l, lo⟩ := rise_low k r0 h0
    have := List.mem_range.mp hi
    refine ⟨by rw [List.length_append, l]; rfl, fun y hy => ?_⟩
    rcases List.mem_append.mp hy with z | z
    · exact lo y z
    · rw [List.mem_singleton.mp z]
      omega
theorem mx_ok : MOk mxP := ⟨⟨by decide, by decide, fun d hd => by
  rw [List.mem_singleton.mp hd]
  exact ⟨by decide, by decide, by decide⟩, by decide, by decide⟩, ⟨by decide, by decide, rfl, fun i h1 h2 => by
  have : i = 0 := by
    have : i < 1 := h1
    omega
  subst this
  show Tab 6 2 mxT
  exact ⟨by decide +kernel, by decide +kernel⟩⟩⟩
end K72
end
section
namespace K72
open PySem PySem.Spec PyProof.Rows L2 Evl RZ Dw M20 M25 CL LD
theorem gd_noneT : Gd 2 2000 .none := ⟨by rw [PyData.canLay0], by rw [PyData.depth]; decide, by rw [PyData.weight]; decide, by rw [PyData.intsShort], by rw [PyData.showable]⟩
theorem gd_leadW {p p2 : MArg} (ok : MOk p) (d : PyData) : Gd 2 2000 (leadW p p2 d) := by
  have gs : ∀ z : Str, (∀ c ∈ z.cps.toList, c < 0x110000) → z.cps.size ≤ 100 → Gd 1 400 (.str z) := fun z a b => (gd_str a b).mono (by decide) (by decide)
  unfold leadW
  split
  · split
    · exact gd_noneT
    · rename_i c hc
      have mem := List.mem_of_find?_eq_some hc
      obtain ⟨i, dd, hi, hcd, hr⟩ := sig_at ok (ordc_mem mem)
      have nm := ok.1.nm dd (List.mem_iff_getElem?.mpr ⟨i, hi⟩)
      have p2' := ok.1.pl dd (List.mem_iff_getElem?.mpr ⟨i, hi⟩)
      obtain ⟨lr, rl⟩ := rows_of hr
      have n6 := ok.2.n6
      refine (gd_tup (k := 1) (W := 400) (L := 3) (ds := [.str "cell", .str c.1, dN c.2]) (fun x hx => ?_) (by show 3 ≤ 3; decide)).mono (by decide) (by decide)
      rcases List.mem_cons.mp hx with e | hx
      · rw [e]; exact gs _ (by decide) (by decide)
      · rcases List.mem_cons.mp hx with e | hx
        · rw [e, hcd]
          have : dd.1.cps.size ≤ 4 := nm.l4
          exact gs _ (low_letters nm) (by omega)
        · rw [List.mem_singleton.mp hx]
          exact (gd_nats (ns := c.2) (fun k hk => by have := rl k hk; omega) (by omega)).mono (by decide) (by decide)
  · refine (gd_tup (k := 1) (W := 400) (L := 1) (ds := [.str "form"]) (fun x hx => ?_) (by decide)).mono (by decide) (by decide)
    rw [List.mem_singleton.mp hx]
    exact gs _ (by decide) (by decide)
theorem gb_six {F : List Nat} (l : F.length ≤ 6) (lo : ∀ y ∈ F, y ≤ 1000) : Gb 5 1000 (dL F) := (Gd.gb (gd_lst (k := 0) (W := 10) (L := 6) (fun d hd => by
  obtain ⟨n, hn, rfl⟩ := List.mem_map.mp hd
  exact gd_int (lo n hn)) (by rw [List.length_map]; exact l))).mono (by decide) (by decide)
theorem dz_nats {K : PySem.W.Frag} {H : Hp} {p c : Addr} : ∀ F : List Nat, DzAll K p c H (F.map vi) (F.map fun n => .int ((n : Nat) : Int))
  | [] => .nil
  | x :: F => .cons (.int _) (dz_nats F)
section
variable {P : Program} {w : World} {K : PySem.W.Frag} {mg : Str → Option Value} {base : Heap} {σ : L2.St} {H H' : Hp} {p c : Addr}
def sp_great : Sp := spX (fun (n : Nat) vs _ => vs = [vi n] ∧ n ≤ 1000) (fun _ v _ => v = .bl true)
theorem c_great (T : Txt mg) (D : Df K mg "_law_great_right" s_great ["_law_worth"]) (c_ways : Cl P w K mg base 1 "_law_ways" (sp_ways K)) (c_leads : Cl P w K mg base 9 "leads" (sp_leads K)) (c_lead_judged : Cl P w K mg base 9 "lead_judged" (sp_lead_judged K)) (c_ljudged : Cl P w K mg base 3 "_law_judged" (sp_ljudged K)) : Cl P w K mg base 10 "_law_great_right" sp_great := by
  refine cl_of (k := 9) D sc_great (fun vs H Q E h => ?_) (fun f cdv A outer s H vs Q E hr h => ?_)
  · obtain ⟨n, ⟨rfl, _⟩, _⟩ := h
    rfl
  · obtain ⟨n, ⟨rfl, n1000⟩, q⟩ := h
    refine ⟨_, (pss_cons (ps_set (i := 1) sc_great.nd rfl (.inl rfl) (pe_lst (pa_cons (pe_lst pa_nil) pa_nil)))
      (pss_cons (ps_for PassesOwn.never (by rfl) (pi_range1 (by rfl) T.z_range (pa_cons pe_int pa_nil)) (pg_name (i := 2) sc_great.nd rfl (.inl rfl))
        (pss_cons (ps_set (i := 3) sc_great.nd rfl (.inl rfl) (pe_lst pa_nil))
        (pss_cons (ps_for PassesOwn.never (by rfl) (pi_list (pv 1)) (pg_name (i := 4) sc_great.nd rfl (.inr rfl))
          (pss_one (ps_set (i := 3) sc_great.nd rfl (.inl rfl) (pe_op op_cat (pv 3) (pe_lc (own := [("_law_number", 8)]) (g := (gName 8)) (by rfl) sc_great.nd (pi_range2 (by rfl) T.z_range (pa_cons (pe_ix ix_list (pe_orW (pv 4) (pe_one (pe_lst (pa_cons pe_int pa_nil)))) (pe_un un_neg pe_int) (fun _ _ => rfl)) (pa_cons pe_int pa_nil))) (blkOk_by (own := [("_law_number", 8)]) (N := ["_law_worth", "_law_due", "_law_k", "_law_longer", "_law_row", "_law_signature_here", "_law_model_here", "_law_thing", "_law_number", "_law_args"]) (sc := (defScope s_great)) (by decide +kernel)) (fun _ _ _ _ _ => (pg_name (i := 8) sc_great.nd rfl (.inl rfl))) (fun _ _ _ _ _ => pts_nil) (fun _ _ _ _ _ => (pe_op op_cat (pv 4) (pe_lst (pa_cons (pv 8) pa_nil)))))))))
        (pss_one (ps_set (i := 1) sc_great.nd rfl (.inl rfl) (pv 3))))))
      (pss_cons (ps_set (i := 5) sc_great.nd rfl (.inl rfl) (pe_tup (pa_cons (pe_tup (pa_cons pe_str (pa_cons pe_int pa_nil))) pa_nil)))
      (pss_cons (ps_set (i := 6) sc_great.nd rfl (.inl rfl) (pe_tup (pa_cons pe_int (pa_cons (pe_tup (pa_cons (pe_callTy call_tuple_of (by rfl) T.z_tuple (by decide +kernel) (pa_cons (pe_lc (own := [("_law_args", 9)]) (g := (gName 9)) (by rfl) sc_great.nd (pi_list (pe_cl c_ways hr (by first | decide | omega) (by rfl) (pa_cons pe_int (pa_cons pe_int pa_nil)))) (blkOk_by (own := [("_law_args", 9)]) (N := ["_law_worth", "_law_due", "_law_k", "_law_longer", "_law_row", "_law_signature_here", "_law_model_here", "_law_thing", "_law_number", "_law_args"]) (sc := (defScope s_great)) (by decide +kernel)) (fun _ _ _ _ _ => (pg_name (i := 9) sc_great.nd rfl (.inl rfl))) (fun _ _ _ _ _ => pts_nil) (fun _ _ _ _ _ => (pe_callB (cr_maxTK K rfl hr) (by rfl) T.z_max (by decide +kernel) (pa_cons (pv 9) pa_nil)))) pa_nil)) pa_nil)) pa_nil))))
      (pss_cons (ps_if (PW.pt (pw_or (pt_cmpR (op_neD hr.units) (pe_cl c_leads hr (by first | decide | omega) (by rfl) (pa_cons (pv 5) (pa_cons (pv 6) (pa_cons (pv 6) pa_nil)))) (pv 1) (nomark _)) (pw_or1 (pt_cmpR op_ne (pe_callB call_len_seq (by rfl) T.z_len PySem.boot_len (pa_cons (pv 1) pa_nil)) pe_int (nomark _)))))
        (pss_one (ps_ret pe_bl))
        pss_nil)
      (pss_cons (ps_for PassesOwn.never (by rfl) (pi_list (pe_lst (pa_cons (pe_ix ix_list (pv 1) (pe_op op_mod (pv 0) pe_int) (fun _ _ => rfl)) (pa_cons (pe_revL (pe_ix ix_list (pv 1) (pe_op op_mod (pv 0) pe_int) (fun _ _ => rfl))) (pa_cons (pe_lst (pa_cons pe_int (pa_cons pe_int (pa_cons pe_int (pa_cons pe_int (pa_cons pe_int (pa_cons (pe_op op_mod (pv 0) pe_int) pa_nil))))))) pa_nil))))) (pg_name (i := 7) sc_great.nd rfl (.inl rfl))
        (pss_one (ps_if (pt_cmpR (op_neD hr.units) (pe_cl c_lead_judged hr (by first | decide | omega) (by rfl) (pa_cons (pv 5) (pa_cons (pv 6) (pa_cons (pv 6) (pa_cons (pv 7) pa_nil))))) (pe_cl c_ljudged hr (by first | decide | omega) (by rfl) (pa_cons (pv 5) (pa_cons (pv 6) (pa_cons (pv 6) (pa_cons (pv 7) pa_nil))))) (nomark _))
          (pss_one (ps_ret pe_bl))
          pss_nil)))
      (pss_one (ps_ret pe_bl)))))))), ?_⟩
    replace q : ∀ r H', Ex H H' → r = .bl true → Q r H' := q
    refine do_set (do_lst (do_cons (do_lst (do_nil ⟨Nat.zero_le _, fun r nr => do_nil ⟨by show 1 ≤ sizeLine; decide, fun f0 nf0 => ?_⟩⟩))))
    have e1 : Ex H (upd (upd H r (.lst [])) f0 (.lst [.ref r])) := (Ex.new nr).trans (Ex.new nf0)
    have rf : r ≠ f0 := fun z => by rw [z, upd_same] at nf0; cases nf0
    have ll1 : LLs H (upd (upd H r (.lst [])) f0 (.lst [.ref r])) f0 [r] (rise 0) := ⟨upd_same, by
      have := nf0
      rw [upd_ne (Ne.symm rf)] at this
      exact this, .cons ⟨by rw [upd_ne rf, upd_same]; rfl, nr⟩ .nil, List.pairwise_singleton _ _, fun z => rf (List.mem_singleton.mp z).symm⟩
    generalize upd (upd H r (.lst [])) f0 (.lst [.ref r]) = H1 at *
    show tSeq _ _ _ [some (vi n), some (.ref f0), none, none, none, none, none, none, none, none] H1
    refine q_forR1 (n := 6) (ea_cons ev_c ea_nil) ⟨by omega, by omega⟩ (fun k σ H' => Ex H H' ∧ ∃ b as y2 y3 y4, LLs H H' b as (rise k) ∧ σ = [some (vi n), some (.ref b), y2, y3, y4, none, none, none, none, none])
      (fun H2 e2 => ⟨e1.trans e2, f0, [r], none, none, none, ll1.ex e2, rfl⟩) (fun k σ H2 hk ⟨e2, b, as, y2, y3, y4, ll, hσ⟩ => ?_) (fun σ H2 ⟨e2, b, as, y2, y3, y4, ll, hσ⟩ => ?_)
    · subst hσ
      have hk6 : k < 6 := by omega
      have few := rise_len k (by omega)
      have few1 := rise_len (k + 1) (by omega)
      have la := ll.len
      refine q_asgL (el_lst ea_nil (Nat.zero_le _)) fun lo H3 nlo e3 hlo => ?_
      refine q_forLs (do_ev (ev_var rfl) fun H4 e4 => ⟨b, rfl, ⟨as.map V.ref, sq_of ((e3.trans e4) _ _ ll.at_)⟩, ?_⟩)
      have e34 := e3.trans e4
      let up : List Nat → List (List Nat) := fun r => (List.range (6 - r.getLast?.getD 0)).map fun i => r ++ [r.getLast?.getD 0 + i]
      refine qloops_list (K := K) (xs := as.map V.ref) (fun j σ H' => Ex H2 H' ∧ ∃ m bs y4, LLs H H' m bs (((rise k).take j).flatMap up) ∧ σ = [some (vi n), some (.ref b), some (vi k), some (.ref m), y4, none, none, none, none, none])
        ⟨e34, lo, [], y4, ⟨e4 _ _ hlo, fresh_back e2 nlo, .nil, .nil, by simp⟩, rfl⟩ (fun j σ' H' _ ⟨e, _⟩ => sq_of (e _ _ ll.at_)) (fun j x σ' H5 hx ⟨e5, m, bs, y4', lm, hσ⟩ => ?_) (fun σ' H5 ⟨e5, m, bs, y4', lm, hσ⟩ => ?_)
      · subst hσ
        rw [List.getElem?_map] at hx
        cases hb : as[j]? with
        | none => rw [hb] at hx; cases hx
        | some bb =>
        rw [hb] at hx
        cases Option.some.inj hx
        obtain ⟨row, hrow, qq, _⟩ := paired_at ll.each hb
        have hrw := rise_low k row (List.mem_iff_getElem?.mpr ⟨j, hrow⟩)
        have l5 : row.getLast?.getD 0 < 6 := by
          rcases List.eq_nil_or_concat row with e | ⟨i0, x0, e⟩
          · rw [e]; decide
          · have : x0 ∈ row := by rw [e]; simp
            rw [e]
            simp
            exact hrw.2 x0 this
        have e05 := e2.trans e5
        have lbs := lm.len
        have lenU : (((rise k).take (j + 1)).flatMap up).length ≤ 462 := by
          have e : (rise (k + 1)) = (rise k).flatMap up := rfl
          rw [e, ← List.take_append_drop (j + 1) (rise k), List.flatMap_append, List.length_append] at few1
          omega
        have snoc : ((rise k).take (j + 1)).flatMap up = ((rise k).take j).flatMap up ++ (List.range (6 - row.getLast?.getD 0)).map fun i => row ++ [row.getLast?.getD 0 + i] := by
          rw [List.take_add_one, hrow, List.flatMap_append]
          show _ ++ [row].flatMap up = _
          rw [List.flatMap_singleton]
        rw [snoc, List.length_append, List.length_map, List.length_range] at lenU
        refine do_asg (do_op (do_ev (v := .ref m) (ev_var rfl) fun H6 e6 => ?_))
        have hb6 := (e5.trans e6) _ _ qq
        refine do_lcNewR2 (lo := row.getLast?.getD 0) (n := 6 - row.getLast?.getD 0) (u := fun x => row ++ [x]) (j := 8) (ea_cons (ev_lastOr (K := K) (ev_var rfl) hb6) (ea_cons (ev_is (v := .int 6) ev_c (by show V.int 6 = V.int ((row.getLast?.getD 0 + (6 - row.getLast?.getD 0) : Nat) : Int); congr 1; omega)) ea_nil)) (by omega) (fun _ => rfl) (fun i H7 e7 hi => ?_) (fun l2 cs H7 e7 lc => ?_)
        · show EvL _ _ H7 ((row ++ [row.getLast?.getD 0 + i]).map vi)
          rw [List.map_append]
          intro H8 e8 Q' q'
          refine do_op (do_ev (v := .ref bb) (ev_var rfl) fun H9 e9 => do_evL (el_lst (ea_cons (ev_var rfl) ea_nil) (by show 1 ≤ 100000; decide)) fun r2 H10 nr2 e10 hr2 => ?_)
          exact ⟨bb, r2, row.map vi, [vi (row.getLast?.getD 0 + i)], rfl, rfl, (e7.trans (e8.trans (e9.trans e10))) _ _ hb6, hr2, by rw [List.length_map, hrw.1]; exact sz_of (by show k + 1 ≤ 100000; omega), fun l nl => q' l _ (fresh_back (e9.trans e10) nl) ((e9.trans e10).trans (Ex.new nl)) upd_same⟩
        · have lcs := lc.len
          rw [List.length_map, List.length_range] at lcs
          refine ⟨m, l2, bs.map V.ref, cs.map V.ref, rfl, rfl, (lm.ex (e6.trans e7)).at_, lc.at_, by rw [List.length_map, List.length_map]; exact sz_of (by omega), fun l nl => ?_⟩
          refine ⟨(e5.trans (e6.trans e7)).trans (Ex.new nl), l, bs ++ cs, _, ?_, rfl⟩
          rw [snoc]
          exact lls_cat (lm.ex e6) (e05.trans e6) e7 lc nl
      · subst hσ
        rw [List.length_map, la, List.take_length] at lm
        exact s_asg (v := .ref m) (ev_var rfl) fun H6 e6 => ⟨e2.trans (e5.trans e6), m, bs, _, _, _, lm.ex e6, rfl⟩
    · subst hσ
      replace ll : LLs H H2 b as (rise 6) := ll
      have la := ll.len
      rw [rise_six] at la
      refine do_set (do_tup (do_cons (do_tup (do_cons (do_ev ev_c fun H3 e3 => do_cons (do_ev ev_c fun H4 e4 => do_nil ⟨by show 2 ≤ sizeLine; decide, fun d nd => do_nil ⟨by show 1 ≤ sizeLine; decide, fun u nu => ?_⟩⟩))))))
      have e5 : Ex H4 (upd H4 d (.tup [.str "f", .int 2])) := Ex.new nd
      have e6 : Ex (upd H4 d (.tup [.str "f", .int 2])) (upd (upd H4 d (.tup [.str "f", .int 2])) u (.tup [.ref d])) := Ex.new nu
      have sg : Sig K (upd (upd H4 d (.tup [.str "f", .int 2])) u (.tup [.ref d])) (.ref u) [("f", 2)] := ⟨u, [.ref d], rfl, st_of upd_same, .cons ⟨d, rfl, st_of (e6 _ _ upd_same)⟩ .nil⟩
      have e26 := e3.trans (e4.trans (e5.trans e6))
      generalize (upd (upd H4 d (.tup [.str "f", .int 2])) u (.tup [.ref d])) = H5 at *
      clear e5 e6
      show tSeq _ _ _ [some (vi n), some (.ref b), y2, y3, y4, some (.ref u), none, none, none, none] H5
      refine do_set (do_tup (do_cons (do_ev ev_c fun H6 e6 => do_cons (do_tup (do_cons (do_cb (do_cons (lc_src (do_evP (ep_callF (6, 2) (ea_cons ev_c (ea_cons ev_c ea_nil)) (fun _ _ => ⟨rfl, by decide, by decide⟩)) fun rv H7 e7 ⟨⟨ra, rvs, hra, hrl, prs⟩, nra⟩ => ?_)))))))))
      subst hra
      replace prs : Paired (Nats K H7) rvs (rows 6 2) := prs
      have lrv := paired_len prs
      rw [rows_len'] at lrv
      refine do_elp (elp_lcL (K := K) ev_c (sq_of hrl) (by rw [lrv]; decide) (fun _ => true) (fun v i _ => v = vi (need ((rows 6 2).getD i []) - 1)) (fun _ _ _ _ _ z => z) (fun _ => rfl) (fun i x H8 e8 hx => ⟨et_yes, fun _ => ?_⟩)) fun t ws H8 nt e8 ht hw => do_nil ⟨t, ws, rfl, .inl ⟨sq_of ht, fun l nl => do_nil ⟨by show 1 ≤ sizeLine; decide, fun l2 nl2 => do_nil ⟨by show 2 ≤ sizeLine; decide, fun mm nmm => ?_⟩⟩⟩⟩
      · obtain ⟨row, hrow, xa, rfl, hxa⟩ := paired_at prs hx
        rw [List.getD_eq_getElem?_getD, hrow]
        have ne : row ≠ [] := fun z => by
          have := (rows_of (List.mem_iff_getElem?.mpr ⟨i, hrow⟩)).1
          rw [z] at this
          cases this
        exact ep_ev (ev_maxP (K := K) (ep_ev (ev_var rfl) fun H9 e9 => ⟨xa, rfl, ex_t (e8.trans e9) hxa⟩) ne) fun _ _ => rfl
      rw [range_all, lrv] at hw
      have hws := paired_eqs hw
      have hmx : ws = mxT.map vi := by
        rw [hws, mxT, List.map_map]
        have z := range_getD ([] : List Nat) (rows 6 2)
        rw [rows_len'] at z
        conv => rhs; rw [← z]
        rw [List.map_map]
        rfl
      subst hmx
      have f1 : Ex H8 (upd H8 l (.tup (mxT.map vi))) := Ex.new nl
      have f2 : Ex (upd H8 l (.tup (mxT.map vi))) (upd (upd H8 l (.tup (mxT.map vi))) l2 (.tup [.ref l])) := Ex.new nl2
      have f3 : Ex (upd (upd H8 l (.tup (mxT.map vi))) l2 (.tup [.ref l])) (upd (upd (upd H8 l (.tup (mxT.map vi))) l2 (.tup [.ref l])) mm (.tup [vi 6, .ref l2])) := Ex.new nmm
      have md : Mdl K (upd (upd (upd H8 l (.tup (mxT.map vi))) l2 (.tup [.ref l])) mm (.tup [vi 6, .ref l2])) (.ref mm) 6 [mxT] := ⟨mm, .ref l2, rfl, st_of upd_same, l2, [.ref l], rfl, st_of (f3 _ _ upd_same), .cons ⟨l, rfl, st_of (f3 _ _ (f2 _ _ upd_same))⟩ .nil⟩
      have e58 := e6.trans (e7.trans (e8.trans (f1.trans (f2.trans f3))))
      show tSeq _ _ _ [some (vi n), some (.ref b), y2, y3, y4, some (.ref u), some (.ref mm), none, none, none] (upd (upd (upd H8 l (.tup (mxT.map vi))) l2 (.tup [.ref l])) mm (.tup [vi 6, .ref l2]))
      generalize (upd (upd (upd H8 l (.tup (mxT.map vi))) l2 (.tup [.ref l])) mm (.tup [vi 6, .ref l2])) = H9 at *
      clear f1 f2 f3
      have ma : MA K H9 (.ref u) (.ref mm) mxP := ⟨sg.ex e58, md⟩
      have ll9 := ll.ex (e26.trans e58)
      have e29 := e26.trans e58
      have gdR : Gd 2 (720 * 397) (.list ((rise 6).map dL)) := gd_lls (fun o ho => ⟨fun k hk => by have := (rise_low 6 o ho).2 k hk; omega, by rw [(rise_low 6 o ho).1]; decide⟩) (by rw [rise_six]; decide)
      refine q_when (b := false) (et_is (et_or (a := false) (b := false) (et_test (fun H10 e10 Q10 q10 => do_op (ea_cons (ev_var rfl) (ea_cons (ev_var rfl) (ea_cons (ev_var rfl) ea_nil)) H10 e10 _ fun H11 e11 => ⟨mxP, mxP, .ref u, .ref mm, .ref mm, rfl, ma.ex (e10.trans e11), md.ex (e10.trans e11), mx_ok, mx_ok, rfl, fun k hk => by rw [mx_lcs]; exact mx_few k hk, fun a as2 H12 e12 la2 => do_ev (ev_var rfl) fun H13 e13 => ?_⟩))) (fun _ => et_test (ev_is (ev_op (ev_len (ev_var rfl) (sq_of ll9.at_)) ev_c (rv_ne rfl)) (by show V.bl (!decide (V.int ((as.map V.ref).length : Int) = V.int 462)) = V.bl false; rw [List.length_map, la]; rfl)))) rfl) (fun hb => by cases hb) (fun _ H10 e10 => ?_)
      · have la3 : LLs H11 H12 a as2 (rise 6) := by
          have e : lvl 6 (lcs mxP mxP) 6 = rise 6 := by rw [mx_lcs, mx_rise]
          rw [← e]
          exact la2
        exact rv_neD (K := K) (fun H14 e14 => (la3.ex (e13.trans e14)).dp) (fun H14 e14 => (ll9.ex (e10.trans (e11.trans (e12.trans (e13.trans e14))))).dp) gdR (by decide) _ (Ex.refl _) _ fun H14 e14 => q10 H14 (e11.trans (e12.trans (e13.trans e14)))
      · have ll10 := ll9.ex e10
        have jl : n % 462 < (rise 6).length := by rw [rise_six]; exact Nat.mod_lt _ (by decide)
        have jl2 : n % 462 < as.length := by rw [la]; exact Nat.mod_lt _ (by decide)
        have hb0 := List.getElem?_eq_getElem jl2
        obtain ⟨F, hF, qF, _⟩ := paired_at ll10.each hb0
        have hFl := rise_low 6 F (List.mem_iff_getElem?.mpr ⟨_, hF⟩)
        have cell : ∀ {H' : Hp} {σ : L2.St}, Ex H10 H' → σ[0]? = some (some (vi n)) → σ[1]? = some (some (V.ref b)) → Ev (tOp (rIxL K) (tVar 1) (tOp (rI (fun _ j => 0 < j) fun i j => .int (i % j)) (tVar 0) (tC (.int 462)))) σ H' (.ref as[n % 462]) := fun {H' σ} e h0 h1 => ev_op (ev_var h1) (ev_modM (a := n) (b := 462) (ev_var h0) ev_c (by decide)) (rv_ixL (K := K) (sq_of (e _ _ ll10.at_)) (atI_vi (k := n % 462) (by rw [List.getElem?_map, hb0]; rfl)))
        refine q_forLs (do_lst (do_cons (do_ev (cell (Ex.refl _) rfl rfl) fun H11 e11 => do_cons (el_revL (K := K) (cell e11 rfl rfl) (e11 _ _ qF) H11 (Ex.refl _) _ fun r2 H12 nr2 e12 hr2 => do_cons (do_evL (el_lst (vs := [vi 5, vi 0, vi 0, vi 0, vi 0, vi (n % 6)]) (ea_cons ev_c (ea_cons ev_c (ea_cons ev_c (ea_cons ev_c (ea_cons ev_c (ea_cons (ev_modM (a := n) (b := 6) (ev_var rfl) ev_c (by decide)) ea_nil)))))) (by show 6 ≤ 100000; decide)) fun r3 H13 nr3 e13 hr3 => do_nil ⟨by show 3 ≤ sizeLine; decide, fun D3 nD3 => ⟨D3, rfl, ⟨_, sq_of upd_same⟩, ?_⟩⟩)))))
        have e14 : Ex H13 (upd H13 D3 (.lst [.ref as[n % 462], .ref r2, .ref r3])) := Ex.new nD3
        have hD : (upd H13 D3 (.lst [.ref as[n % 462], .ref r2, .ref r3])) D3 = some (.lst [.ref as[n % 462], .ref r2, .ref r3]) := upd_same
        have hA := (e11.trans (e12.trans (e13.trans e14))) _ _ qF
        have hB := (e13.trans e14) _ _ hr2
        have hC := e14 _ _ hr3
        have e10' := e11.trans (e12.trans (e13.trans e14))
        generalize (upd H13 D3 (.lst [.ref as[n % 462], .ref r2, .ref r3])) = H14 at *
        have things : ∀ x ∈ [V.ref as[n % 462], .ref r2, .ref r3], ∃ (a : Addr) (G : List Nat), x = .ref a ∧ H14 a = some (.lst (G.map vi)) ∧ G.length = 6 ∧ ∀ y ∈ G, y < 6 := fun x hx => by
          rcases List.mem_cons.mp hx with z | hx
          · exact ⟨_, F, z, hA, hFl⟩
          · rcases List.mem_cons.mp hx with z | hx
            · exact ⟨_, F.reverse, z, by rw [List.map_reverse]; exact hB, by rw [List.length_reverse]; exact hFl.1, fun y hy => hFl.2 y (List.mem_reverse.mp hy)⟩
            · refine ⟨_, [5, 0, 0, 0, 0, n % 6], List.mem_singleton.mp hx, hC, rfl, fun y hy => ?_⟩
              have m6 : n % 6 < 6 := Nat.mod_lt _ (by decide)
              simp only [List.mem_cons, List.not_mem_nil, or_false] at hy
              omega
        refine qloops_list (K := K) (xs := [V.ref as[n % 462], .ref r2, .ref r3]) (fun i σ H' => Ex H14 H' ∧ ∃ y7, σ = [some (vi n), some (.ref b), y2, y3, y4, some (.ref u), some (.ref mm), y7, none, none]) ⟨Ex.refl _, none, rfl⟩ (fun i σ' H' _ ⟨e, _⟩ => sq_of (e _ _ hD)) (fun i x σ' H15 hx ⟨e15, y7, hσ⟩ => ?_) (fun σ' H15 ⟨e15, y7, hσ⟩ => ?_)
        · subst hσ
          obtain ⟨a, G, rfl, ha, lG, lowG⟩ := things x (List.mem_iff_getElem?.mpr ⟨i, hx⟩)
          refine do_name ?_
          show tIfS _ _ _ _ [some (vi n), some (.ref b), y2, y3, y4, some (.ref u), some (.ref mm), some (.ref a), none, none] H15
          have e9 := e10.trans (e10'.trans e15)
          have gb : Gb 5 1000 (dL G) := gb_six (by omega) (fun y hy => by have := lowG y hy; omega)
          have dz : ∀ {H' : Hp}, Ex H15 H' → Dz K (a + 1) (a + 1) H' (.ref a) (dL G) := fun {H'} e => .lst ((e15.trans e) _ _ ha) (Nat.ne_of_lt (Nat.lt_succ_self _)) (Nat.ne_of_lt (Nat.lt_succ_self _)) (dz_nats G)
          refine s_when (b := false) (et_test (ev_neSame (K := K) (ep_call ((a + 1, a + 1), mxP, mxP, dL G) (ea_cons (ev_var rfl) (ea_cons (ev_var rfl) (ea_cons (ev_var rfl) (ea_cons (ev_var rfl) ea_nil)))) (fun H16 e16 => ⟨⟨_, _, _, _, rfl, ma.ex (e9.trans e16), md.ex (e9.trans e16), dz e16⟩, mx_ok, mx_ok, rfl, few_of gb⟩)) (ep_call ((a + 1, a + 1), mxP, mxP, dL G) (ea_cons (ev_var rfl) (ea_cons (ev_var rfl) (ea_cons (ev_var rfl) (ea_cons (ev_var rfl) ea_nil)))) (fun H16 e16 => ⟨⟨_, _, _, _, rfl, ma.ex (e9.trans e16), md.ex (e9.trans e16), dz e16⟩, mx_ok, mx_ok, rfl, gb⟩)) (fun _ _ _ e z => dpEx e z) (fun _ _ z => z) (fun _ _ z => z) (gd_leadW mx_ok _) (by decide))) (fun hb => by cases hb) (fun _ H16 e16 => ⟨e15.trans e16, _, rfl⟩)
        · subst hσ
          exact s_ret (v := .bl true) ev_c fun H16 e16 => q _ H16 (e2.trans (e29.trans (e10.trans (e10'.trans (e15.trans e16))))) rfl
end
end K72
end
section
namespace K72
open PySem PySem.Spec PyProof.Rows L2 Evl RZ Dw M20 M25 CL LD
section
variable {P : Program} {w : World} {K : PySem.W.Frag} {mg : Str → Option Value} {base : Heap}
theorem c_signature (T : Txt mg) (D : Df K mg "_law_signature" s_signature ["_law_purse_here"]) (c_pick : Cl P w K mg base 2 "_law_pick" (sp_pick K)) : Cl P w K mg base 3 "_law_signature" (sp_signature K) := by
  refine cl_of (k := 2) D sc_signature (fun vs H Q E h => ?_) (fun f cdv A outer s H vs Q E hr h => ?_)
  · obtain ⟨p, c, t, rfl, _⟩ := h
    rfl
  · obtain ⟨p, c, t, rfl, pu, t1, q⟩ := h
    refine ⟨_, (pss_cons (ps_set (i := 1) sc_signature.nd rfl (.inl rfl) (pe_lst (pa_cons (pe_tup (pa_cons (pe_tup (pa_cons pe_str (pa_cons pe_int pa_nil))) pa_nil)) (pa_cons (pe_tup (pa_cons (pe_tup (pa_cons pe_str (pa_cons pe_int pa_nil))) pa_nil)) (pa_cons (pe_tup (pa_cons (pe_tup (pa_cons pe_str (pa_cons pe_int pa_nil))) (pa_cons (pe_tup (pa_cons pe_str (pa_cons pe_int pa_nil))) pa_nil))) (pa_cons (pe_tup (pa_cons (pe_tup (pa_cons pe_str (pa_cons pe_int pa_nil))) (pa_cons (pe_tup (pa_cons pe_str (pa_cons pe_int pa_nil))) pa_nil))) (pa_cons (pe_tup (pa_cons (pe_tup (pa_cons pe_str (pa_cons pe_int pa_nil))) (pa_cons (pe_tup (pa_cons pe_str (pa_cons pe_int pa_nil))) (pa_cons (pe_tup (pa_cons pe_str (pa_cons pe_int pa_nil))) pa_nil)))) pa_nil)))))))
      (pss_cons (ps_set (i := 1) sc_signature.nd rfl (.inl rfl) (pe_op op_cat (pv 1) (pe_lst (pa_cons (pe_tup (pa_cons (pe_tup (pa_cons pe_str (pa_cons pe_int pa_nil))) (pa_cons (pe_tup (pa_cons pe_str (pa_cons pe_int pa_nil))) pa_nil))) (pa_cons (pe_tup (pa_cons (pe_tup (pa_cons pe_str (pa_cons pe_int pa_nil))) (pa_cons (pe_tup (pa_cons pe_str (pa_cons pe_int pa_nil))) pa_nil))) (pa_cons (pe_tup (pa_cons (pe_tup (pa_cons pe_str (pa_cons pe_int pa_nil))) (pa_cons (pe_tup (pa_cons pe_str (pa_cons pe_int pa_nil))) pa_nil))) pa_nil))))))
      (pss_one (ps_ret (pe_cl c_pick hr (by first | decide | omega) (by rfl) (pa_cons (pv 0) (pa_cons (pe_op op_cat (pv 1) (pe_lst (pa_cons (pe_tup (pa_cons (pe_tup (pa_cons pe_str (pa_cons pe_int pa_nil))) (pa_cons (pe_tup (pa_cons pe_str (pa_cons pe_int pa_nil))) pa_nil))) (pa_cons (pe_tup (pa_cons (pe_tup (pa_cons pe_str (pa_cons pe_int pa_nil))) (pa_cons (pe_tup (pa_cons pe_str (pa_cons pe_int pa_nil))) pa_nil))) (pa_cons (pe_tup (pa_cons (pe_tup (pa_cons pe_str (pa_cons pe_int pa_nil))) (pa_cons (pe_tup (pa_cons pe_str (pa_cons pe_int pa_nil))) (pa_cons (pe_tup (pa_cons pe_str (pa_cons pe_int pa_nil))) pa_nil)))) pa_nil))))) pa_nil))))))), ?_⟩
    refine q_asgP (ep_lstR (st_sg (K := K)) (eas_cons (st_sg (K := K)) (ep_sgT (K := K) (sg := [("f", 2)]) (eds_cons eds_nil) (by decide) (by decide +kernel)) (eas_cons (st_sg (K := K)) (ep_sgT (K := K) (sg := [("g", 1)]) (eds_cons eds_nil) (by decide) (by decide +kernel)) (eas_cons (st_sg (K := K)) (ep_sgT (K := K) (sg := [("g", 1), ("h", 1)]) (eds_cons (eds_cons eds_nil)) (by decide) (by decide +kernel)) (eas_cons (st_sg (K := K)) (ep_sgT (K := K) (sg := [("c", 0), ("f", 2)]) (eds_cons (eds_cons eds_nil)) (by decide) (by decide +kernel)) (eas_cons (st_sg (K := K)) (ep_sgT (K := K) (sg := [("g", 1), ("c", 0), ("d", 0)]) (eds_cons (eds_cons (eds_cons eds_nil))) (by decide) (by decide +kernel)) eas_nil))))) (by decide) pu) fun v1 H1 e1 hv1 => ?_
    have pu1 := pu.ex e1
    have e01 := e1
    refine q_asgP (ep_catR (n1 := 5) (n2 := 3) (st_sg (K := K)) (ep_ev (ev_var rfl) fun _ e => LsR.ex (st_sg (K := K)) e hv1) (ep_lstR (st_sg (K := K)) (eas_cons (st_sg (K := K)) (ep_sgT (K := K) (sg := [("h", 1), ("g", 1)]) (eds_cons (eds_cons eds_nil)) (by decide) (by decide +kernel)) (eas_cons (st_sg (K := K)) (ep_sgT (K := K) (sg := [("g", 1), ("f", 2)]) (eds_cons (eds_cons eds_nil)) (by decide) (by decide +kernel)) (eas_cons (st_sg (K := K)) (ep_sgT (K := K) (sg := [("d", 0), ("c", 0)]) (eds_cons (eds_cons eds_nil)) (by decide) (by decide +kernel)) eas_nil))) (by decide) pu1) (by decide) pu1) fun v2 H2 e2 hv2 => ?_
    have pu2 := pu1.ex e2
    have e02 := e01.trans e2
    refine do_ret (do_pickR (K := K) (R := SgV K) (n := 11) (ev_var rfl) pu2 (by omega) (ep_catR (n1 := 8) (n2 := 3) (st_sg (K := K)) (ep_ev (ev_var rfl) fun _ e => LsR.ex (st_sg (K := K)) e hv2) (ep_lstR (st_sg (K := K)) (eas_cons (st_sg (K := K)) (ep_sgT (K := K) (sg := [("f", 2), ("g", 1)]) (eds_cons (eds_cons eds_nil)) (by decide) (by decide +kernel)) (eas_cons (st_sg (K := K)) (ep_sgT (K := K) (sg := [("c", 0), ("d", 0)]) (eds_cons (eds_cons eds_nil)) (by decide) (by decide +kernel)) (eas_cons (st_sg (K := K)) (ep_sgT (K := K) (sg := [("f", 2), ("c", 0), ("g", 1)]) (eds_cons (eds_cons (eds_cons eds_nil))) (by decide) (by decide +kernel)) eas_nil))) (by decide) pu2) (by decide) pu2) (by decide) (by decide) (fun v H2 H' pu2 o2 h => h.et (o2.et pu2)) fun v H' o pu' ⟨sg, hs, so⟩ => q v sg H' ((Off.of_ex e02).trans o) pu' hs so)
end
/-! lists of lists and a purse that is drawn from -/
section
variable {H0 H H' : Hp} {a p c : Addr} {as : List Addr} {L : List (List Nat)} {t : Nat}
theorem lls_pur (pu : Pur H0 p c t) (h : LLs H0 H a as L) : a ≠ p ∧ a ≠ c ∧ ∀ b ∈ as, b ≠ p ∧ b ≠ c := by
  have ne : ∀ b, H0 b = none → b ≠ p ∧ b ≠ c := fun b hb => pu.fresh hb
  exact ⟨(ne _ h.new).1, (ne _ h.new).2, fun b hb => ne b (let ⟨_, _, _, z⟩ := h.some hb; z)⟩
theorem lls_offP (pu : Pur H0 p c t) (h : LLs H0 H a as L) (o : Off H H' p c) : LLs H0 H' a as L := by
  obtain ⟨h1, h2, h3⟩ := lls_pur pu h
  refine ⟨o _ _ h1 h2 h.at_, h.new, ?_, h.nd, h.ne⟩
  have : ∀ {as : List Addr} {L : List (List Nat)}, (∀ b ∈ as, b ≠ p ∧ b ≠ c) → Paired (fun b ns => H b = some (.lst (ns.map vi)) ∧ H0 b = none) as L → Paired (fun b ns => H' b = some (.lst (ns.map vi)) ∧ H0 b = none) as L := fun {as L} hn pr => by
    induction pr with
    | nil => exact .nil
    | cons q r ih => exact .cons ⟨o _ _ (hn _ (List.mem_cons_self ..)).1 (hn _ (List.mem_cons_self ..)).2 q.1, q.2⟩ (ih fun b hb => hn b (List.mem_cons_of_mem _ hb))
  exact this h3 h.each
/-- what stands now where something stood -/
def cutH (H0 H : Hp) : Hp := fun b => match H0 b with
  | none => none
  | some _ => H b
theorem cutH_ex : Ex (cutH H0 H) H := fun b o h => by
  unfold cutH at h
  cases hb : H0 b with
  | none => rw [hb] at h; cases h
  | some o' => rw [hb] at h; exact h
theorem cutH_none {b : Addr} (h : H0 b = none) : cutH H0 H b = none := by
  unfold cutH
  rw [h]
theorem lls_reb (h : LLs H0 H a as L) : LLs (cutH H0 H) H a as L := ⟨h.at_, cutH_none h.new, paired_imp (fun _ _ z => ⟨z.1, cutH_none z.2⟩) h.each, h.nd, h.ne⟩
theorem cut_pur (pu : Pur H0 p c t) {t' : Nat} (pu' : Pur H p c t') : Pur (cutH H0 H) p c t' := by
  obtain ⟨x, cs, n, l, y⟩ := pu
  obtain ⟨x', cs', n', l', y'⟩ := pu'
  exact ⟨by unfold cutH; rw [x]; exact x', cs', n', l', by unfold cutH; rw [y]; exact y'⟩
end
/-! the leads are those that the law finds -/
theorem fods_eq {p p2 : MArg} (ok : MOk p) (ok2 : MOk p2) (es : p2.1 = p.1) (F : List Nat) : allOk p2.2.1 (lcs p p2) F = (fod p p2 F).isNone := by
  rw [Bool.eq_iff_iff, Option.isNone_iff_eq_none]
  unfold fod allOk
  rw [List.find?_eq_none, List.all_eq_true]
  constructor
  · intro h c hc
    have mem := ordc_mem hc
    obtain ⟨i, d, hi, hcd, hr⟩ := sig_at ok mem
    obtain ⟨il, e1, tb⟩ := tbOf_sig ok ok rfl hi
    have p2' := ok.1.pl d (List.mem_iff_getElem?.mpr ⟨i, hi⟩)
    obtain ⟨j, hj⟩ := List.mem_iff_getElem?.mp hr
    obtain ⟨pe, jl⟩ := rows_plc' p2' ok.2.n1 hj
    have z := h (lcOf p p2 c) (List.mem_map.mpr ⟨(c.1, c.2, g p.2.2[i] j), cws_mem.mpr ⟨i, d, p.2.2[i], j, c.2, hi, List.getElem?_eq_getElem il, hj, g_eq (by rw [tb.len]; exact jl), hcd, rfl⟩, by
      unfold lcOf
      rw [hcd, e1, pe]⟩)
    rw [z]
    decide
  · intro h c hc
    obtain ⟨c0, hc0, rfl⟩ := List.mem_map.mp hc
    obtain ⟨i, d, t, j, r, h1, h2, h3, h4, h5, h6⟩ := cws_mem.mp hc0
    have p2' := ok.1.pl d (List.mem_iff_getElem?.mpr ⟨i, h1⟩)
    obtain ⟨pe, jl⟩ := rows_plc' p2' ok.2.n1 h3
    obtain ⟨il, e1, tb⟩ := tbOf_sig ok ok rfl h1
    have et : p.2.2[i] = t := Option.some.inj ((List.getElem?_eq_getElem il).symm.trans h2)
    have mem : (d.1, r) ∈ ordc p.2.1 p.1 := by
      unfold ordc
      have ma : (d.1, r) ∈ allc p.2.1 p.1 := by
        unfold allc
        exact List.mem_flatMap.mpr ⟨d, List.mem_iff_getElem?.mpr ⟨i, h1⟩, List.mem_map.mpr ⟨r, List.mem_iff_getElem?.mpr ⟨j, h3⟩, rfl⟩⟩
      have nl : need r ≤ p.2.1 := need_le (rows_of (List.mem_iff_getElem?.mpr ⟨j, h3⟩)).2
      exact List.mem_flatMap.mpr ⟨need r, List.mem_range.mpr (by omega), List.mem_filter.mpr ⟨ma, decide_eq_true rfl⟩⟩
    have z := h _ mem
    have e : lcOf p p2 (d.1, r) = (c0.2.1, c0.2.2, tbOf p.1 p2.2.2 c0.1) := by
      unfold lcOf
      rw [h5, h6, pe, e1, et]
      have : g t j = c0.2.2 := by
        show t.getD j 0 = c0.2.2
        rw [List.getD_eq_getElem?_getD, h4]
        rfl
      rw [this]
    rw [← e]
    simpa using z
theorem lvl_due {p p2 : MArg} (ok : MOk p) (ok2 : MOk p2) (es : p2.1 = p.1) : lvl p2.2.1 (lcs p p2) p.2.1 = (rows p2.2.1 p.2.1).filter fun F => (fod p p2 F).isNone := by
  rw [leads_eq (lcs_grt ok)]
  exact List.filter_congr fun F _ => fods_eq ok ok2 es F
end K72
end
section
namespace K72
open PySem PySem.Spec PyProof.Rows L2 Evl RZ Dw M20 M25 CL LD
section
variable {P : Program} {w : World} {K : PySem.W.Frag} {mg : Str → Option Value} {base : Heap}
/-- nothing has changed but at some places -/
def OffL (as : List Addr) (H H' : Hp) : Prop := ∀ b o, b ∉ as → H b = some o → H' b = some o
theorem OffL.trans {as : List Addr} {H H1 H2 : Hp} (a : OffL as H H1) (b : OffL as H1 H2) : OffL as H H2 := fun x o n h => b x o n (a x o n h)
theorem OffL.of {as : List Addr} {H H' : Hp} (e : Ex H H') : OffL as H H' := fun b o _ h => e b o h
theorem OffL.et {as : List Addr} {H H' : Hp} (e : OffL as H H') (h : ∀ b ∈ as, ∃ xs, H b = some (.lst xs)) : ET K H H' := fun a xs q => by
  have no : ∀ o, H a = some o → (∀ ys, o ≠ .lst ys) → a ∉ as := fun o ho hn z => by
    obtain ⟨ys, hy⟩ := h a z
    rw [hy] at ho
    exact hn ys (Option.some.inj ho).symm
  rcases q with (q | ⟨o, q⟩) | q
  · exact .inl (.inl (e _ _ (no _ q (fun _ z => by cases z)) q))
  · exact .inl (.inr ⟨o, e _ _ (no _ q (fun _ z => by cases z)) q⟩)
  · exact .inr q
theorem pow_256 {n m : Nat} (n4 : n ≤ 4) (m4 : m ≤ 4) : n ^ m ≤ 256 := by
  have h1 : n ^ m ≤ 4 ^ m := Nat.pow_le_pow_left n4 m
  have h2 : 4 ^ m ≤ 4 ^ 4 := Nat.pow_le_pow_right (by decide) m4
  exact Nat.le_trans h1 (Nat.le_trans h2 (by decide))
theorem gd_rows {n m : Nat} (n4 : n ≤ 4) (m4 : m ≤ 4) {f : List Nat → Bool} : Gd 2 (720 * 397) (.list (((rows n m).filter f).map dL)) := gd_lls (fun o ho => by
  obtain ⟨l, lo⟩ := rows_of (List.mem_filter.mp ho).1
  exact ⟨fun k hk => by have := lo k hk; omega, by omega⟩) (by
  have a := List.length_filter_le f (rows n m)
  have b := pow_256 n4 m4
  rw [rows_len'] at a
  omega)
theorem form_row {p p2 : MArg} {F : List Nat} (l : F.length = p.2.1) (lo : ∀ y ∈ F, y < p2.2.1) : formB p.2.1 p2.2.1 (dL F) = true ∧ natsOf (dL F) = F := by
  have e : listOf (dL F) = F.map fun n => .int ((n : Nat) : Int) := rfl
  refine ⟨?_, ?_⟩
  · rw [formB, e, List.length_map, decide_eq_true l, List.all_map]
    have : F.all (belowB (p2.2.1 : Int) ∘ fun n => PyData.int ((n : Nat) : Int)) = true := by
      rw [List.all_eq_true]
      intro y hy
      have := lo y hy
      show (decide ((0 : Int) ≤ (y : Int)) && decide ((y : Int) < (p2.2.1 : Int))) = true
      rw [decide_eq_true (by omega), decide_eq_true (by omega)]
      rfl
    rw [this]
    rfl
  · unfold natsOf
    rw [e, List.map_map]
    have : (natOf ∘ fun n => PyData.int ((n : Nat) : Int)) = id := by
      funext n
      show (n : Int).toNat = n
      omega
    rw [this, List.map_id]
/-- judged is None, of a row -/
theorem et_fits {σ : L2.St} {H : Hp} {ta : TA} {p p2 : MArg} {u v w : V} {b : Addr} {F : List Nat} (h : EvA ta σ H [u, v, w, .ref b]) (hm : MA K H u v p) (hw : Mdl K H w p2.2.1 p2.2.2) (ok : MOk p) (ok2 : MOk p2) (es : p2.1 = p.1) (hb : H b = some (.lst (F.map vi))) (l : F.length = p.2.1) (lo : ∀ y ∈ F, y < p2.2.1) : EvT (tTest (tOp (fun x y H Q => y = .non ∧ Q (.bl (decide (x = .non))) H) (tCall (sp_ljudged K) [] E0 ta) (tC .non))) σ H (fod p p2 F).isNone := fun H1 e Q q => by
  have n6 := ok2.2.n6
  have m6 := ok.2.n6
  have gb : Gb 5 1000 (dL F) := gb_six (by omega) (fun y hy => by have := lo y hy; omega)
  obtain ⟨f1, f2⟩ := form_row (p := p) (p2 := p2) l lo
  refine do_test (do_op (do_evP (ep_call ((b + 1, b + 1), p, p2, dL F) (fun H2 e2 => h H2 (e.trans e2)) (fun H2 e2 => ⟨⟨_, _, _, _, rfl, hm.ex (e.trans e2), hw.ex (e.trans e2), .lst ((e.trans e2) _ _ hb) (Nat.ne_of_lt (Nat.lt_succ_self _)) (Nat.ne_of_lt (Nat.lt_succ_self _)) (dz_nats F)⟩, ok, ok2, es, gb⟩)) fun r H2 e2 hr => do_ev ev_c fun H3 e3 => ⟨rfl, _, rfl, ?_⟩))
  replace hr : Dp K H2 r (leadW p p2 (dL F)) := hr
  rw [leadW, if_pos f1, f2] at hr
  have z := q H3 (e2.trans e3)
  cases ho : fod p p2 F with
  | none =>
    rw [ho] at hr z
    cases hr
    rw [decide_eq_true rfl]
    exact z
  | some c =>
    rw [ho] at hr z
    cases hr with
    | tup _ _ =>
      rw [decide_eq_false (by intro z; cases z)]
      exact z
section
variable {σ : L2.St} {H H0 : Hp} {ta tb te : TE} {a : Addr} {as : List Addr} {L : List (List Nat)}
theorem ev_neE (h : Ev te σ H (.ref a)) (ll : LLs H0 H a as L) (g : Gd 2 (720 * 397) (.list (L.map dL))) : Ev (tOp (rNeD K) te (tLst tNil)) σ H (.bl (!L.isEmpty)) := fun H1 e Q q =>
  do_op (do_ev (h.mono e) fun H2 e2 => do_lst (do_nil ⟨Nat.zero_le _, fun r nr => ⟨.list (L.map dL), .list [], (ll.ex (e.trans (e2.trans (Ex.new nr)))).dp, .lst (sq_of upd_same) .nil, g.shaped (by decide), by decide, by
    rw [eqv_nil]
    have : (L.map dL).isEmpty = L.isEmpty := by cases L <;> rfl
    rw [this]
    exact q _ (e2.trans (Ex.new nr))⟩⟩))
theorem ev_neSameB {x y : V} {d : PyData} {k W : Nat} (ha : Ev ta σ H x) (hb : Ev tb σ H y) (hx : ∀ H1, Ex H H1 → Dp K H1 x d) (hy : ∀ H1, Ex H H1 → Dp K H1 y d) (g : Gb k W d) (hk : k ≤ 60) : Ev (tOp (rNeD K) ta tb) σ H (.bl false) := fun H1 e Q q =>
  do_op (do_ev (ha.mono e) fun H2 e2 => do_ev (hb.mono (e.trans e2)) fun H3 e3 => ⟨d, d, hx _ (e.trans (e2.trans e3)), hy _ (e.trans (e2.trans e3)), g.shaped hk, g.shaped hk, by
    rw [SeqAt.eqv_refl _ g.lay]
    exact q H3 (e2.trans e3)⟩)
theorem el_catV {b : Addr} {xs ys : List V} (ha : Ev ta σ H (.ref b)) (hx : H b = some (.lst xs)) (hb : EvL tb σ H ys) (hz : xs.length + ys.length ≤ 100000) : EvL (tOp rCat ta tb) σ H (xs ++ ys) := fun H1 e Q q =>
  do_op (do_ev (ha.mono e) fun H2 e2 => hb H2 (e.trans e2) _ fun r H3 nr e3 hr => ⟨b, r, xs, ys, rfl, rfl, (e.trans (e2.trans e3)) _ _ hx, hr, sz_of hz, fun l nl => q l _ (fresh_back (e2.trans e3) nl) ((e2.trans e3).trans (Ex.new nl)) upd_same⟩)
/-- the place of a row -/
def RowAt (p c : Addr) (R : List (List Nat)) (H : Hp) (x : V) : Prop := ∃ b F, x = .ref b ∧ F ∈ R ∧ H b = some (.lst (F.map vi)) ∧ b ≠ p ∧ b ≠ c
theorem RowAt.ex {p c : Addr} {R : List (List Nat)} {H H' : Hp} {x : V} (e : Ex H H') (h : RowAt p c R H x) : RowAt p c R H' x := let ⟨b, F, q, m, s, n1, n2⟩ := h; ⟨b, F, q, m, e _ _ s, n1, n2⟩
theorem RowAt.off {p c : Addr} {R : List (List Nat)} {H H' : Hp} {x : V} (o : Off H H' p c) (h : RowAt p c R H x) : RowAt p c R H' x := let ⟨b, F, q, m, s, n1, n2⟩ := h; ⟨b, F, q, m, o _ _ n1 n2 s, n1, n2⟩
theorem lls_rows {p c : Addr} {t : Nat} (pu : Pur H0 p c t) (ll : LLs H0 H a as L) {R : List (List Nat)} (sub : ∀ F ∈ L, F ∈ R) : ∀ x ∈ as.map V.ref, RowAt p c R H x := fun x hx => by
  obtain ⟨b, hb, rfl⟩ := List.mem_map.mp hx
  obtain ⟨ns, hn, q1, _⟩ := ll.some hb
  exact ⟨b, ns, rfl, sub _ hn, q1, (lls_pur pu ll).2.2 b hb⟩
end
end
end K72
end
section
namespace K72
open PySem PySem.Spec PyProof.Rows L2 Evl RZ Dw M20 M25 CL LD
section
variable {P : Program} {w : World} {K : PySem.W.Frag} {mg : Str → Option Value} {base : Heap}
theorem el_lstO {σ : L2.St} {H : Hp} {te : TE} {a : Addr} {xs : List V} (h : Ev te σ H (.ref a)) (ha : SqT K H a xs) : EvL (tCB (rLstO K) (tCons te tNil)) σ H xs := fun H1 e Q q =>
  h H1 e _ fun H2 e2 => ⟨a, xs, rfl, .inr (ex_t (e.trans e2) ha), fun l nl => q l _ (fresh_back e2 nl) (e2.trans (Ex.new nl)) upd_same⟩
theorem lvl_few {n m : Nat} (n4 : n ≤ 4) (m4 : m ≤ 4) (cs : List LC) : (lvl n cs m).length ≤ 1600 := by
  rw [lvl_eq]
  have a := List.length_filter_le (allOk n (cs.filter fun c => decide (grt c < m))) (rows n m)
  have b := pow_256 n4 m4
  rw [rows_len'] at a
  omega
def Turn (a p c : Addr) (i : Nat) (σ : L2.St) (H : Hp) : Prop := (∃ t, Pur H p c t ∧ t ≤ 1000 * i) ∧ ∃ y2 y3 y4 y5 y6 y7 y8 y9 y10 y11 y12 y13 y14 y15, σ = [some (.ref a), some (.ref p), y2, y3, y4, y5, y6, y7, y8, y9, y10, y11, y12, y13, y14, y15, none]
theorem law_ok (T : Txt mg) (c_purse : Cl P w K mg base 1 "_law_purse" (sp_purse K)) (c_draw : Cl P w K mg base 1 "_law_draw" sp_draw) (c_pick : Cl P w K mg base 2 "_law_pick" (sp_pick K)) (c_signature : Cl P w K mg base 3 "_law_signature" (sp_signature K)) (c_model : Cl P w K mg base 3 "_law_model" (sp_model K)) (c_ways : Cl P w K mg base 1 "_law_ways" (sp_ways K))
    (c_ljudged : Cl P w K mg base 3 "_law_judged" (sp_ljudged K)) (c_leads : Cl P w K mg base 9 "leads" (sp_leads K)) (c_near : Cl P w K mg base 2 "_law_near" (sp_near K)) (c_bentL : Cl P w K mg base 3 "_law_bent" (sp_bentL K)) (c_copied : Cl P w K mg base 7 "_law_copied" (sp_copied K 6)) (c_lead_judged : Cl P w K mg base 9 "lead_judged" (sp_lead_judged K)) (c_great : Cl P w K mg base 10 "_law_great_right" sp_great)
    (room : Room 11 callerA) (s : Shared) (H : Hp) (fa : Addr) (cdv : Value) (a : Addr) (ns : List Int) (len : ns.length ≤ 63) (seq : SqL K H a (ns.map V.int)) :
    ∃ t, PSs (cxOf CX0 P w K mg base ["_law_script", "_law_purse_here", "_law_time", "_law_signature_here", "_law_one", "_law_other", "_law_every", "_law_due", "_law_told_here", "_law_near_here", "_law_right", "_law_k", "_law_thing", "_law_kept", "_law_found", "_law_lead", "_law_images"] "law" (defScope s_law) fa cdv callerA [] s H E0).nox (defBody s_law) t ∧ t { nx := fun _ _ => False, rt := fun v _ => v = .bl true } (start ["_law_script", "_law_purse_here", "_law_time", "_law_signature_here", "_law_one", "_law_other", "_law_every", "_law_due", "_law_told_here", "_law_near_here", "_law_right", "_law_k", "_law_thing", "_law_kept", "_law_found", "_law_lead", "_law_images"] [.ref a]) H := by
  have hr : Room 10 (callerA.deeper (envOfC "law" (defScope s_law) s.heap.objs.size fa cdv)) := room.deeper _
  refine ⟨_, (pss_cons (ps_set (i := 1) sc_law.nd rfl (.inl rfl) (pe_cl c_purse hr (by first | decide | omega) (by rfl) (pa_cons (pv 0) pa_nil)))
      (pss_cons (ps_for PassesOwn.never (by rfl) (pi_range1 (by rfl) T.z_range (pa_cons pe_int pa_nil)) (pg_name (i := 2) sc_law.nd rfl (.inl rfl))
        (pss_cons (ps_set (i := 3) sc_law.nd rfl (.inr rfl) (pe_cl c_signature hr (by first | decide | omega) (by rfl) (pa_cons (pv 1) pa_nil)))
        (pss_cons (ps_set (i := 4) sc_law.nd rfl (.inr rfl) (pe_cl c_model hr (by first | decide | omega) (by rfl) (pa_cons (pv 1) (pa_cons (pv 3) (pa_cons (pe_op op_add pe_int (pe_cl c_draw hr (by first | decide | omega) (by rfl) (pa_cons (pv 1) (pa_cons pe_int pa_nil)))) pa_nil)))))
        (pss_cons (ps_set (i := 5) sc_law.nd rfl (.inr rfl) (pe_cl c_model hr (by first | decide | omega) (by rfl) (pa_cons (pv 1) (pa_cons (pv 3) (pa_cons (pe_op op_add pe_int (pe_cl c_draw hr (by first | decide | omega) (by rfl) (pa_cons (pv 1) (pa_cons pe_int pa_nil)))) pa_nil)))))
        (pss_cut (ps_if (pt_cmpR op_eq (pe_cl c_draw hr (by first | decide | omega) (by rfl) (pa_cons (pv 1) (pa_cons pe_int pa_nil))) pe_int (nomark _))
          (pss_one (ps_set (i := 5) sc_law.nd rfl (.inr rfl) (pv 4)))
          pss_nil)
        (pss_cons (ps_setLc (i := 6) (own := [("_law_images", 16)]) (g := (gName 16)) (by rfl) sc_law.nd rfl rfl (sw_true rfl rfl rfl (by decide +kernel)) (pi_list (pe_cl c_ways hr (by first | decide | omega) (by rfl) (pa_cons (pe_ix ix_tup (pv 4) pe_int (fun _ _ => rfl)) (pa_cons (pe_ix ix_tup (pv 5) pe_int (fun _ _ => rfl)) pa_nil)))) (blkOk_by (own := [("_law_images", 16)]) (N := ["_law_script", "_law_purse_here", "_law_time", "_law_signature_here", "_law_one", "_law_other", "_law_every", "_law_due", "_law_told_here", "_law_near_here", "_law_right", "_law_k", "_law_thing", "_law_kept", "_law_found", "_law_lead", "_law_images"]) (sc := (defScope s_law)) (by decide +kernel)) (fun _ _ _ _ _ => (pg_name (i := 16) sc_law.nd rfl (.inl rfl))) (fun _ _ _ _ _ => pts_nil) (fun _ _ _ _ _ => (pe_callTy (call_list_ofK K) (by rfl) T.z_list (by decide +kernel) (pa_cons (pv 16) pa_nil))))
        (pss_cons (ps_setLc (i := 7) (own := [("_law_images", 16)]) (g := (gName 16)) (by rfl) sc_law.nd rfl rfl (sw_true rfl rfl rfl (by decide +kernel)) (pi_list (pv 6)) (blkOk_by (own := [("_law_images", 16)]) (N := ["_law_script", "_law_purse_here", "_law_time", "_law_signature_here", "_law_one", "_law_other", "_law_every", "_law_due", "_law_told_here", "_law_near_here", "_law_right", "_law_k", "_law_thing", "_law_kept", "_law_found", "_law_lead", "_law_images"]) (sc := (defScope s_law)) (by decide +kernel)) (fun _ _ _ _ _ => (pg_name (i := 16) sc_law.nd rfl (.inl rfl))) (fun _ _ _ _ _ => (pts_one (pt_cmpR op_isN (pe_cl c_ljudged hr (by first | decide | omega) (by rfl) (pa_cons (pv 3) (pa_cons (pv 4) (pa_cons (pv 5) (pa_cons (pv 16) pa_nil))))) pe_non (nomark _)))) (fun _ _ _ _ _ => (pv 16)))
        (pss_cons (ps_set (i := 8) sc_law.nd rfl (.inl rfl) (pe_cl c_leads hr (by first | decide | omega) (by rfl) (pa_cons (pv 3) (pa_cons (pv 4) (pa_cons (pv 5) pa_nil)))))
        (pss_cons (ps_if (PW.pt (pw_or (pt_not (pt_val (pe_callB call_isi (by rfl) T.z_isinstance (by decide +kernel) (pa_cons (pv 8) (pa_cons (pe_ty "list" (by rfl) T.z_list (by decide +kernel)) pa_nil))))) (pw_or1 (pt_cmpR (op_neD hr.units) (pv 8) (pv 7) (nomark _)))))
          (pss_one (ps_ret pe_bl))
          pss_nil)
        (pss_cons (ps_set (i := 9) sc_law.nd rfl (.inr rfl) (pe_cl c_near hr (by first | decide | omega) (by rfl) (pa_cons (pv 1) (pa_cons (pv 5) pa_nil))))
        (pss_cons (ps_setLc (i := 10) (own := [("_law_images", 16)]) (g := (gName 16)) (by rfl) sc_law.nd rfl rfl (sw_true rfl rfl rfl (by decide +kernel)) (pi_list (pv 6)) (blkOk_by (own := [("_law_images", 16)]) (N := ["_law_script", "_law_purse_here", "_law_time", "_law_signature_here", "_law_one", "_law_other", "_law_every", "_law_due", "_law_told_here", "_law_near_here", "_law_right", "_law_k", "_law_thing", "_law_kept", "_law_found", "_law_lead", "_law_images"]) (sc := (defScope s_law)) (by decide +kernel)) (fun _ _ _ _ _ => (pg_name (i := 16) sc_law.nd rfl (.inl rfl))) (fun _ _ _ _ _ => (pts_one (pt_cmpR op_isN (pe_cl c_ljudged hr (by first | decide | omega) (by rfl) (pa_cons (pv 3) (pa_cons (pv 4) (pa_cons (pv 9) (pa_cons (pv 16) pa_nil))))) pe_non (nomark _)))) (fun _ _ _ _ _ => (pv 16)))
        (pss_cons (ps_for PassesOwn.never (by rfl) (pi_range1 (by rfl) T.z_range (pa_cons pe_int pa_nil)) (pg_name (i := 11) sc_law.nd rfl (.inl rfl))
          (pss_cons (ps_set (i := 12) sc_law.nd rfl (.inl rfl) (pe_callTy call_list_of (by rfl) T.z_list (by decide +kernel) (pa_cons (pe_cl c_pick hr (by first | decide | omega) (by rfl) (pa_cons (pv 1) (pa_cons (pe_ix ix_list (pe_lst (pa_cons (pv 6) (pa_cons (pe_op op_cat (pv 7) (pe_slice sl_list (pv 6) po_none (po_some pe_int))) pa_nil))) (pe_op op_mod (pv 11) pe_int) (fun _ _ => rfl)) pa_nil))) pa_nil)))
          (pss_cut (ps_if (PW.pt (pw_and (pt_cmpR op_gt (pv 11) pe_int (nomark _)) (pw_and1 (pt_cmpR (op_neD hr.units) (pv 10) (pe_lst pa_nil) (nomark _)))))
            (pss_one (ps_set (i := 12) sc_law.nd rfl (.inl rfl) (pe_callTy call_list_of (by rfl) T.z_list (by decide +kernel) (pa_cons (pe_cl c_pick hr (by first | decide | omega) (by rfl) (pa_cons (pv 1) (pa_cons (pv 10) pa_nil))) pa_nil))))
            pss_nil)
          (pss_cut (ps_if (PW.pt (pw_and (pt_cmpR op_gt (pv 11) pe_int (nomark _)) (pw_and1 (pt_cmpR op_lt (pv 11) pe_int (nomark _)))))
            (pss_one (ps_set (i := 12) sc_law.nd rfl (.inl rfl) (pe_cl c_bentL hr (by first | decide | omega) (by rfl) (pa_cons (pv 1) (pa_cons (pv 12) (pa_cons (pe_ix ix_tup (pv 5) pe_int (fun _ _ => rfl)) pa_nil))))))
            pss_nil)
          (pss_cons (ps_set (i := 13) sc_law.nd rfl (.inl rfl) (pe_cl c_copied hr (by first | decide | omega) (by rfl) (pa_cons (pv 12) pa_nil)))
          (pss_cons (ps_set (i := 14) sc_law.nd rfl (.inl rfl) (pe_cl c_lead_judged hr (by first | decide | omega) (by rfl) (pa_cons (pv 3) (pa_cons (pv 4) (pa_cons (pv 5) (pa_cons (pv 12) pa_nil))))))
          (pss_one (ps_if (PW.pt (pw_or (pt_cmpR (op_neD hr.units) (pv 12) (pv 13) (nomark _)) (pw_or1 (pt_cmpR (op_neD hr.units) (pv 14) (pe_cl c_ljudged hr (by first | decide | omega) (by rfl) (pa_cons (pv 3) (pa_cons (pv 4) (pa_cons (pv 5) (pa_cons (pv 12) pa_nil))))) (nomark _)))))
            (pss_one (ps_ret pe_bl))
            pss_nil))))))))
        (pss_cons (ps_for PassesOwn.never (by rfl) (pi_list (pv 8)) (pg_name (i := 15) sc_law.nd rfl (.inl rfl))
          (pss_one (ps_expr (pe_bm PySem.F.plainAttrs_list PySem.F.slot_list_append PySem.F.type_list_append mt_append (pv 15) (pa_cons pe_int pa_nil)))))
        (pss_one (ps_if (pt_cmpR (op_neD hr.units) (pe_cl c_leads hr (by first | decide | omega) (by rfl) (pa_cons (pv 3) (pa_cons (pv 4) (pa_cons (pv 5) pa_nil)))) (pv 7) (nomark _))
          (pss_one (ps_ret pe_bl))
          pss_nil)))))))))))))))
      (pss_one (ps_ret (pe_cl c_great hr (by first | decide | omega) (by rfl) (pa_cons (pe_cl c_draw hr (by first | decide | omega) (by rfl) (pa_cons (pv 1) (pa_cons pe_int pa_nil))) pa_nil)))))), ?_⟩
  refine do_set (ea_cons (ev_var rfl) ea_nil H (Ex.refl H) _ fun H0 e0 => ⟨a, ns, rfl, ex_l e0 seq, len, fun p c H1 e1 np nc pu => ?_⟩)
  refine q_forR1 (n := ((3 : Nat) : Int)) (ea_cons ev_c ea_nil) ⟨by decide, by decide⟩ (Turn a p c) (fun H2 e2 => ⟨⟨0, pu.ex e2, Nat.zero_le _⟩, none, none, none, none, none, none, none, none, none, none, none, none, none, none, rfl⟩) (fun i σ H2 hi tn => ?_) (fun σ H2 tn => ?_)
  · obtain ⟨⟨t, pu2, lt⟩, y2, y3, y4, y5, y6, y7, y8, y9, y10, y11, y12, y13, y14, y15, hσ⟩ := tn
    subst hσ
    have i3 : i < 3 := by omega
    -- the signature
    refine do_set (ea_cons (ev_var rfl) ea_nil H2 (Ex.refl H2) _ fun H3 e3 => ⟨p, c, t, rfl, pu2.ex e3, by omega, fun sv sg H4 o4 pu4 hG4 sok => ?_⟩)
    show tSeq _ _ _ [some (.ref a), some (.ref p), some (vi i), some sv, y4, y5, y6, y7, y8, y9, y10, y11, y12, y13, y14, y15, none] H4
    have add1 : ∀ k : Nat, V.int ((1 : Int) + ((k : Nat) : Int)) = vi (k + 1) := fun k => by
      show V.int _ = V.int (((k + 1 : Nat)) : Int)
      rw [Int.natCast_add, Int.add_comm]
      rfl
    -- the one
    refine do_set (do_cons (do_ev (v := .ref p) (ev_var rfl) fun H5 e5 => do_cons (do_ev (v := sv) (ev_var rfl) fun H6 e6 => do_cons (do_op (do_ev ev_c fun H7 e7 => do_draw (n := 4) (ev_var rfl) ev_c (pu4.ex (e5.trans (e6.trans e7))) (by omega) (by decide) (by decide) fun k1 H8 hk1 o8 pu8 => ⟨1, (k1 : Int), rfl, rfl, do_nil ?_⟩)))))
    have o48 : Off H4 H8 p c := (Off.of_ex (e5.trans (e6.trans e7))).trans o8
    have hG8 : Sig K H8 sv sg := hG4.et (o48.et pu4)
    show sp_model K [V.ref p, sv, V.int ((1 : Int) + ((k1 : Nat) : Int))] H8 _ _
    rw [add1 k1]
    refine ⟨p, c, _, k1 + 1, sv, sg, rfl, pu8, by omega, by omega, by omega, hG8, sok, fun v1 ts1 t9 H9 o9 pu9 l9 hM9 mok1 => ?_⟩
    have hG9 : Sig K H9 sv sg := hG8.et (o9.et pu8)
    show tSeq _ _ _ [some (.ref a), some (.ref p), some (vi i), some sv, some v1, y5, y6, y7, y8, y9, y10, y11, y12, y13, y14, y15, none] H9
    clear o48 o8 hG8
    -- the other
    refine do_set (do_cons (do_ev (v := .ref p) (ev_var rfl) fun H5 e5 => do_cons (do_ev (v := sv) (ev_var rfl) fun H6 e6 => do_cons (do_op (do_ev ev_c fun H7 e7 => do_draw (n := 4) (ev_var rfl) ev_c (pu9.ex (e5.trans (e6.trans e7))) (by omega) (by decide) (by decide) fun k2 H10 hk2 o10 pu10 => ⟨1, (k2 : Int), rfl, rfl, do_nil ?_⟩)))))
    have o910 : Off H9 H10 p c := (Off.of_ex (e5.trans (e6.trans e7))).trans o10
    have hG10 : Sig K H10 sv sg := hG9.et (o910.et pu9)
    have hM10 := hM9.et (o910.et pu9)
    show sp_model K [V.ref p, sv, V.int ((1 : Int) + ((k2 : Nat) : Int))] H10 _ _
    rw [add1 k2]
    refine ⟨p, c, _, k2 + 1, sv, sg, rfl, pu10, by omega, by omega, by omega, hG10, sok, fun v2 ts2 t11 H11 o11 pu11 l11 hM11 mok2 => ?_⟩
    have hG11 : Sig K H11 sv sg := hG10.et (o11.et pu10)
    have hN11 := hM10.et (o11.et pu10)
    show tCut _ _ _ [some (.ref a), some (.ref p), some (vi i), some sv, some v1, some v2, y6, y7, y8, y9, y10, y11, y12, y13, y14, y15, none] H11
    clear hG10 hM10 o910 o10
    -- the other may be the one
    refine q_cut (M := fun σ H' => ∃ w2 m2 us2, 1 ≤ m2 ∧ m2 ≤ 4 ∧ Mdl K H' w2 m2 us2 ∧ MdlOk sg m2 us2 ∧ Off H11 H' p c ∧ Pur H' p c (t11 + 1) ∧ σ = [some (.ref a), some (.ref p), some (vi i), some sv, some v1, some w2, y6, y7, y8, y9, y10, y11, y12, y13, y14, y15, none]) ?_ (fun σ H12 ⟨w2, m2, us2, m21, m24, hM12, mok12, o12, pu12, hσ⟩ => ?_)
    · refine do_if (do_test (do_op (do_draw (n := 3) (ev_var rfl) ev_c pu11 (by omega) (by decide) (by decide) fun k3 H12 hk3 o12 pu12 => do_ev ev_c fun H13 e13 => ⟨rfl, _, rfl, ?_⟩)))
      have et13 : ET K H11 H13 := ET.trans (o12.et pu11) (Dw.Ex.et e13)
      split
      · exact s_asg (v := v1) (ev_var rfl) fun H14 e14 => ⟨v1, k1 + 1, ts1, by omega, by omega, (hN11.et et13).ex e14, mok1, o12.trans (.of_ex (e13.trans e14)), pu12.ex (e13.trans e14), rfl⟩
      · exact ⟨v2, k2 + 1, ts2, by omega, by omega, hM11.et et13, mok2, o12.trans (.of_ex e13), pu12.ex e13, rfl⟩
    · subst hσ
      have et12 : ET K H11 H12 := o12.et pu11
      obtain ⟨q, hq⟩ : ∃ q : MArg, q = (sg, k1 + 1, ts1) := ⟨_, rfl⟩
      obtain ⟨q2, hq2⟩ : ∃ q2 : MArg, q2 = (sg, m2, us2) := ⟨_, rfl⟩
      have ok : MOk q := by rw [hq]; exact ⟨sok, mok1⟩
      have ok2 : MOk q2 := by rw [hq2]; exact ⟨sok, mok12⟩
      have es : q2.1 = q.1 := by rw [hq, hq2]
      have hm12 : MA K H12 sv v1 q := by rw [hq]; exact ⟨hG11.et et12, hN11.et et12⟩
      have hw12 : Mdl K H12 w2 q2.2.1 q2.2.2 := by rw [hq2]; exact hM12
      have n14 : q.2.1 ≤ 4 := by rw [hq]; show k1 + 1 ≤ 4; omega
      have n24 : q2.2.1 ≤ 4 := by rw [hq2]; exact m24
      have n11 : 1 ≤ q.2.1 := ok.2.n1
      have n21 : 1 ≤ q2.2.1 := ok2.2.n1
      have lt12 : t11 + 1 ≤ t + 804 := by omega
      clear hG4 hG9 hG11 hN11 hM11 hM9 hM12 mok1 mok2 mok12 hq hq2 sok
      obtain ⟨z, tv, hz, hZ, hT⟩ := id hm12.2
      subst hz
      obtain ⟨z2, tv2, hz2, hZ2, hT2⟩ := id hw12
      subst hz2
      have R1 : (rows q2.2.1 q.2.1).length ≤ 256 := by rw [rows_len']; exact pow_256 n24 n14
      have R0 : 1 ≤ (rows q2.2.1 q.2.1).length := by rw [rows_len']; exact Nat.pow_pos n21
      -- every row
      refine do_set (lc_src (do_evP (ep_callF (q2.2.1, q.2.1) (ea_cons (ev_op (ev_var rfl) ev_c (rv_ixT (K := K) hZ (atI_vi (k := 0) rfl))) (ea_cons (ev_op (ev_var rfl) ev_c (rv_ixT (K := K) hZ2 (atI_vi (k := 0) rfl))) ea_nil)) (fun _ _ => ⟨rfl, by show q2.2.1 ≤ 6; omega, n14⟩)) fun rv H13 e13 ⟨⟨ra, rvs, hra, hrl, prs⟩, nra⟩ => ?_))
      subst hra
      replace prs : Paired (Nats K H13) rvs (rows q2.2.1 q.2.1) := prs
      have lrv := paired_len prs
      have pu13 := pu12.ex e13
      refine do_lcNew (K := K) (L := rows q2.2.1 q.2.1) ev_c (sq_of hrl) lrv.symm (by omega) (fun _ => rfl) (fun j x ns H14 e14 hx hns => ?_) (fun a6 as6 H14 e14 ll6 => ?_)
      · obtain ⟨ns', hns', xa, rfl, hxa⟩ := paired_at prs hx
        cases Option.some.inj (hns.symm.trans hns')
        exact el_lstO (ev_var rfl) (ex_t e14 hxa)
      have hm14 := hm12.ex (e13.trans e14)
      have hw14 := hw12.ex (e13.trans e14)
      show tSeq _ _ _ [some (.ref a), some (.ref p), some (vi i), some sv, some (.ref z), some (.ref z2), some (.ref a6), y7, y8, y9, y10, y11, y12, y13, y14, y15, none] H14
      -- what is due
      refine do_set (do_lcFit (K := K) (f := fun F => (fod q q2 F).isNone) (ev_var rfl) ll6 e14 (by omega) (fun _ => rfl) (fun _ => rfl) (fun b ns H15 e15 hns hb => et_fits (ea_cons (ev_var rfl) (ea_cons (ev_var rfl) (ea_cons (ev_var rfl) (ea_cons (ev_var rfl) ea_nil)))) (hm14.ex e15) (hw14.ex e15) ok ok2 es hb (rows_of hns).1 (rows_of hns).2) (fun a7 as7 H15 e15 sub7 ll7 => ?_))
      replace ll6 := ll6.ex e15
      have hm15 := hm14.ex e15
      have hw15 := hw14.ex e15
      have pu15 := pu13.ex (e14.trans e15)
      show tSeq _ _ _ [some (.ref a), some (.ref p), some (vi i), some sv, some (.ref z), some (.ref z2), some (.ref a6), some (.ref a7), y8, y9, y10, y11, y12, y13, y14, y15, none] H15
      -- what is told
      refine do_set (ea_cons (ev_var rfl) (ea_cons (ev_var rfl) (ea_cons (ev_var rfl) ea_nil)) H15 (Ex.refl _) _ fun H16 e16 => ⟨q, q2, sv, .ref z, .ref z2, rfl, hm15.ex e16, hw15.ex e16, ok, ok2, es, fun k hk => lvl_few n24 (by omega) _, fun a8 as8 H17 e17 ll8 => ?_⟩)
      rw [lvl_due ok ok2 es] at ll8
      have pu16 := pu15.ex e16
      have x16 := ll6.ex e16
      have x17 := ll7.ex e16
      replace ll6 := x16.ex e17
      replace ll7 := x17.ex e17
      have hm17 := hm15.ex (e16.trans e17)
      have hw17 := hw15.ex (e16.trans e17)
      have pu17 := pu16.ex e17
      have gD : Gd 2 (720 * 397) (.list (((rows q2.2.1 q.2.1).filter fun F => (fod q q2 F).isNone).map dL)) := gd_rows n24 n14
      show tSeq _ _ _ [some (.ref a), some (.ref p), some (vi i), some sv, some (.ref z), some (.ref z2), some (.ref a6), some (.ref a7), some (.ref a8), y9, y10, y11, y12, y13, y14, y15, none] H17
      refine q_when (b := false) (et_is (et_or (et_not (et_val (ev_isi (ev_var rfl) ev_c (.ty _) (fun _ e => .base (.lst (e _ _ ll8.at_))) kit_ll))) (fun _ => et_test (ev_op (ev_var rfl) (ev_var rfl) (rv_neD (K := K) (fun H' e' => (ll8.ex e').dp) (fun H' e' => (ll7.ex e').dp) gD (by decide))))) rfl) (fun hb => by cases hb) (fun _ H18 e18 => ?_)
      -- one that is near
      refine do_set (ea_cons (ev_var rfl) (ea_cons (ev_var rfl) ea_nil) H18 (Ex.refl _) _ fun H19 e19 => ⟨p, c, t11 + 1, q2.2.1, q2.1, q2.2.2, .ref z2, rfl, pu17.ex (e18.trans e19), by omega, hw17.ex (e18.trans e19), ok2.1, ok2.2, fun w3 us3 H20 t20 o20 pu20 l20 hM20 mok20 => ?_⟩)
      obtain ⟨q3, hq3⟩ : ∃ q3 : MArg, q3 = (q2.1, q2.2.1, us3) := ⟨_, rfl⟩
      have ok3 : MOk q3 := by rw [hq3]; exact ⟨ok2.1, mok20⟩
      have es3 : q3.1 = q.1 := by rw [hq3]; exact es
      have en3 : q3.2.1 = q2.2.1 := by rw [hq3]
      have hn20 : Mdl K H20 w3 q3.2.1 q3.2.2 := by rw [hq3]; exact hM20
      have x19 := e18.trans e19
      have pu19 := pu17.ex x19
      replace ll6 := lls_offP pu13 (ll6.ex x19) o20
      replace ll7 := lls_offP pu13 (ll7.ex x19) o20
      replace ll8 := lls_offP pu16 (ll8.ex x19) o20
      have hm20 := (hm17.ex x19).et (o20.et pu19)
      have hw20 := (hw17.ex x19).et (o20.et pu19)
      have puC := cut_pur pu13 pu20
      show tSeq _ _ _ [some (.ref a), some (.ref p), some (vi i), some sv, some (.ref z), some (.ref z2), some (.ref a6), some (.ref a7), some (.ref a8), some w3, y10, y11, y12, y13, y14, y15, none] H20
      clear hM20 mok20
      -- those that lead to it
      refine do_set (do_lcFit (K := K) (f := fun F => (fod q q3 F).isNone) (ev_var rfl) (lls_reb ll6) cutH_ex (by omega) (fun _ => rfl) (fun _ => rfl) (fun b ns H21 e21 hns hb => et_fits (ea_cons (ev_var rfl) (ea_cons (ev_var rfl) (ea_cons (ev_var rfl) (ea_cons (ev_var rfl) ea_nil)))) (hm20.ex e21) (hn20.ex e21) ok ok3 es3 hb (rows_of hns).1 (by rw [en3]; exact (rows_of hns).2)) (fun a10 as10 H21 e21 sub10 ll10 => ?_))
      replace ll6 := ll6.ex e21
      replace ll7 := ll7.ex e21
      replace ll8 := ll8.ex e21
      have hm21 := hm20.ex e21
      have hw21 := hw20.ex e21
      have pu21 := pu20.ex e21
      show tSeq _ _ _ [some (.ref a), some (.ref p), some (vi i), some sv, some (.ref z), some (.ref z2), some (.ref a6), some (.ref a7), some (.ref a8), some w3, some (.ref a10), y11, y12, y13, y14, y15, none] H21
      have rw6 := lls_rows pu13 ll6 (R := rows q2.2.1 q.2.1) (fun _ h => h)
      have rw7 := lls_rows pu13 ll7 (R := rows q2.2.1 q.2.1) (fun _ h => (List.mem_filter.mp h).1)
      have rw10 := lls_rows puC ll10 (R := rows q2.2.1 q.2.1) (fun _ h => (List.mem_filter.mp h).1)
      obtain ⟨a6p, a6c, _⟩ := lls_pur pu13 ll6
      obtain ⟨a7p, a7c, _⟩ := lls_pur pu13 ll7
      obtain ⟨a10p, a10c, _⟩ := lls_pur puC ll10
      have la6 := ll6.len
      have la7 := ll7.len
      have la10 := ll10.len
      have lD : ((rows q2.2.1 q.2.1).filter fun F => (fod q q2 F).isNone).length ≤ 256 := Nat.le_trans (List.length_filter_le _ _) R1
      have lD3 : ((rows q2.2.1 q.2.1).filter fun F => (fod q q3 F).isNone).length ≤ 256 := Nat.le_trans (List.length_filter_le _ _) R1
      have gD3 : Gd 2 (720 * 397) (.list (((rows q2.2.1 q.2.1).filter fun F => (fod q q3 F).isNone).map dL)) := gd_rows n24 n14
      refine q_forR1 (n := ((10 : Nat) : Int)) (ea_cons ev_c ea_nil) ⟨by decide, by decide⟩ (fun k σ H' => Off H21 H' p c ∧ (∃ t', Pur H' p c t' ∧ t' ≤ t20 + 6 * k) ∧ ∃ y11 y12 y13 y14, σ = [some (.ref a), some (.ref p), some (vi i), some sv, some (.ref z), some (.ref z2), some (.ref a6), some (.ref a7), some (.ref a8), some w3, some (.ref a10), y11, y12, y13, y14, y15, none])
        (fun H2 e2 => ⟨.of_ex e2, ⟨t20, pu21.ex e2, Nat.le_refl _⟩, y11, y12, y13, y14, rfl⟩) (fun k σ H22 hk ⟨o22, ⟨t22, pu22, l22⟩, x11, x12, x13, x14, hσ⟩ => ?_) (fun σ H22 ⟨o22, ⟨t22, pu22, l22⟩, x11, x12, x13, x14, hσ⟩ => ?_)
      · subst hσ
        have k10 : k < 10 := by omega
        show tSeq _ _ _ [some (.ref a), some (.ref p), some (vi i), some sv, some (.ref z), some (.ref z2), some (.ref a6), some (.ref a7), some (.ref a8), some w3, some (.ref a10), some (vi k), x12, x13, x14, y15, none] H22
        have ll6b := lls_offP pu13 ll6 o22
        have ll7b := lls_offP pu13 ll7 o22
        have ll10b := lls_offP puC ll10 o22
        have sl1 : cutV (as6.map V.ref) none (some 1) = (as6.map V.ref).take 1 := cut_to' (k := 1)
        -- one of the rows
        refine do_set (do_cb (do_cons (do_cons (do_ev (v := .ref p) (ev_var rfl) fun H23 e23 => do_cons (do_op (do_lst (do_cons (do_ev (v := .ref a6) (ev_var rfl) fun H24 e24 => do_cons (do_evL (el_catV (xs := as7.map V.ref) (ys := (as6.map V.ref).take 1) (ev_var rfl) ((ll7b.ex (e23.trans e24)).at_) (by rw [← sl1]; exact el_sl (K := K) (ev_var rfl) eo_none (eo_some ev_c) (sq_of ((ll6b.ex (e23.trans e24)).at_))) (by rw [List.length_take, List.length_map, List.length_map]; omega)) fun cA H25 nc25 e25 hcA => do_nil ⟨by show 2 ≤ sizeLine; decide, fun l nl => do_ev (v := vi (k % 2)) (ev_modM (a := k) (b := 2) (ev_var rfl) ev_c (by decide)) fun H26 e26 => ?_⟩)))))))))
        have hl26 := e26 _ _ (upd_same (H := H25) (a := l) (o := .lst [V.ref a6, .ref cA]))
        have e2226 : Ex H22 H26 := e23.trans (e24.trans (e25.trans ((Ex.new nl).trans e26)))
        have ch : ∃ (l' : Addr) (ws : List V), [V.ref a6, .ref cA][k % 2]? = some (.ref l') ∧ H26 l' = some (.lst ws) ∧ l' ≠ p ∧ l' ≠ c ∧ 1 ≤ ws.length ∧ ws.length ≤ 600 ∧ ∀ x ∈ ws, RowAt p c (rows q2.2.1 q.2.1) H26 x := by
          have r6 : ∀ x ∈ as6.map V.ref, RowAt p c (rows q2.2.1 q.2.1) H26 x := fun x hx => ((rw6 x hx).off o22).ex e2226
          have r7 : ∀ x ∈ as7.map V.ref, RowAt p c (rows q2.2.1 q.2.1) H26 x := fun x hx => ((rw7 x hx).off o22).ex e2226
          rcases Nat.mod_two_eq_zero_or_one k with h | h
          · exact ⟨a6, as6.map V.ref, by rw [h]; rfl, (ll6b.ex e2226).at_, a6p, a6c, by rw [List.length_map, la6]; exact R0, by rw [List.length_map, la6]; omega, r6⟩
          · obtain ⟨cp, cc⟩ := (pu22.ex (e23.trans e24)).fresh nc25
            refine ⟨cA, as7.map V.ref ++ (as6.map V.ref).take 1, by rw [h]; rfl, ((Ex.new nl).trans e26) _ _ hcA, cp, cc, by rw [List.length_append, List.length_take, List.length_map, List.length_map]; omega, by rw [List.length_append, List.length_take, List.length_map, List.length_map]; omega, fun x hx => ?_⟩
            rcases List.mem_append.mp hx with y | y
            · exact r7 x y
            · exact r6 x (List.mem_of_mem_take y)
        obtain ⟨l', ws, hch, hl', lp', lc', n1', n2', rws⟩ := ch
        refine ⟨l, [V.ref a6, .ref cA], _, .ref l', rfl, rfl, sq_of hl26, atI_vi hch, do_nil ⟨p, c, t22, pu22.ex e2226, by omega, .inr ⟨l', ws, rfl, .inl (sq_of hl'), lp', lc', n1', by omega, fun j x H27 hx o27 pu27 => ?_⟩⟩⟩
        obtain ⟨b0, F0, rfl, mF, hb0, bp0, bc0⟩ := (rws x (List.mem_of_getElem? hx)).off o27
        refine do_nil ⟨b0, F0.map vi, rfl, .inl (sq_of hb0), fun l2 nl2 => ?_⟩
        have e28 : Ex H27 (upd H27 l2 (.lst (F0.map vi))) := Ex.new nl2
        obtain ⟨l2p, l2c⟩ := pu27.fresh nl2
        have hl2 : (upd H27 l2 (.lst (F0.map vi))) l2 = some (.lst (F0.map vi)) := upd_same
        have o28 : Off H21 (upd H27 l2 (.lst (F0.map vi))) p c := o22.trans ((Off.of_ex e2226).trans (o27.trans (.of_ex e28)))
        have pu28 := pu27.ex e28
        generalize (upd H27 l2 (.lst (F0.map vi))) = H28 at *
        clear e28 hl26 hch hl' rws hb0
        show tCut _ _ _ [some (.ref a), some (.ref p), some (vi i), some sv, some (.ref z), some (.ref z2), some (.ref a6), some (.ref a7), some (.ref a8), some w3, some (.ref a10), some (vi k), some (.ref l2), x13, x14, y15, none] H28
        -- one that leads nearby
        refine q_cut (M := fun σ H' => ∃ (l : Addr) (F : List Nat) (t' : Nat), Off H21 H' p c ∧ Pur H' p c t' ∧ t' ≤ t22 + 2 ∧ H' l = some (.lst (F.map vi)) ∧ F ∈ rows q2.2.1 q.2.1 ∧ l ≠ p ∧ l ≠ c ∧ σ = [some (.ref a), some (.ref p), some (vi i), some sv, some (.ref z), some (.ref z2), some (.ref a6), some (.ref a7), some (.ref a8), some w3, some (.ref a10), some (vi k), some (.ref l), x13, x14, y15, none]) ?_ (fun σ H29 ⟨l3, F, t29, o29, pu29, l29, hl3, mF3, l3p, l3c, hσ⟩ => ?_)
        · have ll10c := lls_offP puC ll10 o28
          refine s_when (b := decide (7 < k) && !((rows q2.2.1 q.2.1).filter fun F => (fod q q3 F).isNone).isEmpty) (et_and (et_is (et_test (ev_op (ev_var rfl) ev_c rv_I0)) (by rw [decide_eq_decide]; omega)) (fun _ => et_test (ev_neE (K := K) (ev_var rfl) ll10c gD3))) (fun hb H29 e29 => ?_) (fun hb H29 e29 => ⟨l2, F0, t22 + 1, o28.trans (.of_ex e29), pu28.ex e29, by omega, e29 _ _ hl2, mF, l2p, l2c, rfl⟩)
          rw [Bool.and_eq_true, Bool.not_eq_true', List.isEmpty_eq_false_iff] at hb
          have ne10 := List.length_pos_iff.mpr hb.2
          have ll10d := ll10c.ex e29
          refine do_asg (do_cb (do_cons (do_cons (do_ev (v := .ref p) (ev_var rfl) fun H30 e30 => do_cons (do_ev (v := .ref a10) (ev_var rfl) fun H31 e31 => do_nil ⟨p, c, t22 + 1, pu28.ex (e29.trans (e30.trans e31)), by omega, .inr ⟨a10, as10.map V.ref, rfl, .inl (sq_of ((ll10d.ex (e30.trans e31)).at_)), a10p, a10c, by rw [List.length_map, la10]; exact ne10, by rw [List.length_map, la10]; omega, fun j x H32 hx o32 pu32 => ?_⟩⟩)))))
          obtain ⟨b1, F1, rfl, mF1, hb1, bp1, bc1⟩ := ((((rw10 x (List.mem_of_getElem? hx)).off o28).ex (e29.trans (e30.trans e31)))).off o32
          refine do_nil ⟨b1, F1.map vi, rfl, .inl (sq_of hb1), fun l4 nl4 => ?_⟩
          obtain ⟨l4p, l4c⟩ := pu32.fresh nl4
          exact ⟨l4, F1, t22 + 1 + 1, o28.trans ((Off.of_ex (e29.trans (e30.trans e31))).trans (o32.trans (.of_ex (Ex.new nl4)))), pu32.ex (Ex.new nl4), by omega, upd_same, mF1, l4p, l4c, rfl⟩
        · subst hσ
          obtain ⟨lF, lowF⟩ := rows_of mF3
          -- bent
          refine q_cut (M := fun σ H' => ∃ (v : V) (d : PyData) (t' : Nat), Off H21 H' p c ∧ Pur H' p c t' ∧ t' ≤ t22 + 6 ∧ Dz K p c H' v d ∧ Gb 5 1000 d ∧ σ = [some (.ref a), some (.ref p), some (vi i), some sv, some (.ref z), some (.ref z2), some (.ref a6), some (.ref a7), some (.ref a8), some w3, some (.ref a10), some (vi k), some v, x13, x14, y15, none]) ?_ (fun σ H30 ⟨v, d, t30, o30, pu30, l30, dz30, gb, hσ⟩ => ?_)
          · refine s_when (b := decide (3 < k) && decide (k < 8)) (et_and (et_is (et_test (ev_op (ev_var rfl) ev_c rv_I0)) (by rw [decide_eq_decide]; omega)) (fun _ => et_is (et_test (ev_op (ev_var rfl) ev_c rv_I0)) (by rw [decide_eq_decide]; omega))) (fun hb H30 e30 => ?_) (fun hb H30 e30 => ⟨.ref l3, dL F, t29, o29.trans (.of_ex e30), pu29.ex e30, by omega, .lst (e30 _ _ hl3) l3p l3c (dz_nats F), gb_six (by omega) (fun y hy => by have := lowF y hy; omega), rfl⟩)
            have hw29 := hw21.et (o29.et pu21)
            obtain ⟨z3, tv3, hz3, hZ3, _⟩ := id hw29
            cases (V.ref.inj hz3)
            refine do_asg (do_cons (do_ev (v := .ref p) (ev_var rfl) fun H31 e31 => do_cons (do_ev (v := .ref l3) (ev_var rfl) fun H32 e32 => do_cons (do_ev (v := vi q2.2.1) (ev_op (ev_var rfl) ev_c (rv_ixT (K := K) (ex_t (e30.trans (e31.trans e32)) hZ3) (atI_vi (k := 0) rfl))) fun H33 e33 => do_nil ⟨p, c, l3, t29, q2.2.1, F, rfl, pu29.ex (e30.trans (e31.trans (e32.trans e33))), by omega, (e30.trans (e31.trans (e32.trans e33))) _ _ hl3, l3p, l3c, by omega, by omega, fun y hy => by have := lowF y hy; omega, n21, by omega, fun v' H34 t34 o34 pu34 l34 ⟨d, dz, gb⟩ => ⟨v', d, t34, o29.trans ((Off.of_ex (e30.trans (e31.trans (e32.trans e33)))).trans o34), pu34, by omega, dz, gb, rfl⟩⟩))))
          · subst hσ
            have hm30 := hm21.et (o30.et pu21)
            have hw30 := hw21.et (o30.et pu21)
            -- copied, judged
            refine do_set (do_cons (do_ev (v := v) (ev_var rfl) fun H31 e31 => do_nil ⟨p, c, d, v, rfl, dz30.ex e31, by have := gb.dep; omega, by have := gb.wgt; omega, fun kv H32 e32 hkv => ?_⟩))
            show tSeq _ _ _ [some (.ref a), some (.ref p), some (vi i), some sv, some (.ref z), some (.ref z2), some (.ref a6), some (.ref a7), some (.ref a8), some w3, some (.ref a10), some (vi k), some v, some kv, x14, y15, none] H32
            have e02 := e31.trans e32
            refine q_asgP (ep_call ((p, c), q, q2, d) (ea_cons (ev_var rfl) (ea_cons (ev_var rfl) (ea_cons (ev_var rfl) (ea_cons (ev_var rfl) ea_nil)))) (fun H33 e33 => ⟨⟨_, _, _, _, rfl, hm30.ex (e02.trans e33), hw30.ex (e02.trans e33), dz30.ex (e02.trans e33)⟩, ok, ok2, es, few_of gb⟩)) fun fv H33 e33 hfv => ?_
            replace hfv : Dp K H33 fv (leadW q q2 d) := hfv
            show tIfS _ _ _ _ [some (.ref a), some (.ref p), some (vi i), some sv, some (.ref z), some (.ref z2), some (.ref a6), some (.ref a7), some (.ref a8), some w3, some (.ref a10), some (vi k), some v, some kv, some fv, y15, none] H33
            have e03 := e02.trans e33
            have kd := hkv.here
            refine s_when (b := false) (et_is (et_or (a := false) (b := false) (et_test (ev_neSameB (K := K) (ev_var rfl) (ev_var rfl) (fun H' e' => (dz30.ex (e03.trans e')).dp) (fun H' e' => dpEx (e33.trans e') kd) gb (by decide))) (fun _ => et_test (ev_neSame (K := K) (P := fun v H' => Dp K H' v (leadW q q2 d)) (d := leadW q q2 d) (ep_ev (ev_var rfl) fun H' e' => dpEx e' hfv) (ep_call ((p, c), q, q2, d) (ea_cons (ev_var rfl) (ea_cons (ev_var rfl) (ea_cons (ev_var rfl) (ea_cons (ev_var rfl) ea_nil)))) (fun H34 e34 => ⟨⟨_, _, _, _, rfl, hm30.ex (e03.trans e34), hw30.ex (e03.trans e34), dz30.ex (e03.trans e34)⟩, ok, ok2, es, gb⟩)) (fun _ _ _ e z => dpEx e z) (fun _ _ z => z) (fun _ _ z => z) (gd_leadW ok _) (by decide)))) rfl) (fun hb => by cases hb) (fun _ H34 e34 => ⟨o30.trans (.of_ex (e03.trans e34)), ⟨t30, pu30.ex (e03.trans e34), by omega⟩, _, _, _, _, rfl⟩)
      · subst hσ
        have ll7b := lls_offP pu13 ll7 o22
        have ll8b := lls_offP pu16 ll8 o22
        have hm22 := hm21.et (o22.et pu21)
        have hw22 := hw21.et (o22.et pu21)
        -- what was told is spoilt
        have new8 : ∀ b ∈ as8, H16 b = none := fun b hb => let ⟨_, _, _, zz⟩ := ll8.some hb; zz
        have off8 : ∀ {b : Addr} {o : HO}, H16 b = some o → b ∉ as8 := fun {b o} hb z => by
          rw [new8 b z] at hb
          cases hb
        refine q_forLs (do_ev (ev_var rfl) fun H23 e23 => ⟨a8, rfl, ⟨_, sq_of (e23 _ _ ll8b.at_)⟩, ?_⟩)
        have ll7c := ll7b.ex e23
        have ll8c := ll8b.ex e23
        have hm23 := hm22.ex e23
        have hw23 := hw22.ex e23
        have pu23 := pu22.ex e23
        have lists : ∀ b ∈ as8, ∃ xs, H23 b = some (.lst xs) ∧ xs.length ≤ 4 := fun b hb => by
          obtain ⟨ns, hn, q1, _⟩ := ll8c.some hb
          have := (rows_of (List.mem_filter.mp hn).1).1
          exact ⟨_, q1, by rw [List.length_map]; omega⟩
        have l8 : as8.length ≤ 256 := by rw [ll8c.len]; exact lD
        refine qloops_list (K := K) (xs := as8.map V.ref) (fun j σ H' => OffL as8 H23 H' ∧ (∀ b ∈ as8, ∃ xs, H' b = some (.lst xs) ∧ xs.length ≤ 4 + j) ∧ ∃ y15, σ = [some (.ref a), some (.ref p), some (vi i), some sv, some (.ref z), some (.ref z2), some (.ref a6), some (.ref a7), some (.ref a8), some w3, some (.ref a10), x11, x12, x13, x14, y15, none])
          ⟨.of (Ex.refl _), lists, y15, rfl⟩ (fun j σ' H' _ ⟨o, _⟩ => sq_of (o _ _ ll8c.ne ll8c.at_)) (fun j x σ' H24 hx ⟨o24, ls24, y15', hσ⟩ => ?_) (fun σ' H24 ⟨o24, ls24, y15', hσ⟩ => ?_)
        · subst hσ
          rw [List.getElem?_map] at hx
          cases hb : as8[j]? with
          | none => rw [hb] at hx; cases hx
          | some b =>
          rw [hb] at hx
          cases Option.some.inj hx
          have bm := List.mem_iff_getElem?.mpr ⟨j, hb⟩
          have jl := (List.getElem?_eq_some_iff.mp hb).1
          obtain ⟨xs, hxs, lxs⟩ := ls24 b bm
          refine do_name ?_
          show tDrop _ _ [some (.ref a), some (.ref p), some (vi i), some sv, some (.ref z), some (.ref z2), some (.ref a6), some (.ref a7), some (.ref a8), some w3, some (.ref a10), x11, x12, x13, x14, some (.ref b), none] H24
          refine s_appP hxs (ev_var rfl) (ep_ev (P := fun _ _ => True) (v := .int 9) ev_c fun _ _ => trivial) (by omega) fun v H25 e25 _ => ⟨fun x o hx ho => ?_, fun b' hb' => ?_, _, rfl⟩
          · rw [upd_ne (show x ≠ b from fun zz => hx (by rw [zz]; exact bm))]
            exact e25 _ _ (o24 _ _ hx ho)
          · by_cases e : b' = b
            · rw [e, upd_same]
              exact ⟨_, rfl, by rw [List.length_append]; show xs.length + 1 ≤ _; omega⟩
            · rw [upd_ne e]
              obtain ⟨ys, hys, lys⟩ := ls24 b' hb'
              exact ⟨ys, e25 _ _ hys, by omega⟩
        · subst hσ
          have et24 : ET K H23 H24 := o24.et fun b hb => let ⟨xs, h, _⟩ := lists b hb; ⟨xs, h⟩
          have hm24 := hm23.et et24
          have hw24 := hw23.et et24
          have pu24 : Pur H24 p c t22 := by
            obtain ⟨hp1, cs, cne, c63, hc1⟩ := pu23
            obtain ⟨qp, cs2, _, _, qc⟩ := pu16
            exact ⟨o24 _ _ (off8 qp) hp1, cs, cne, c63, o24 _ _ (off8 qc) hc1⟩
          have ll24 : LLs H13 H24 a7 as7 ((rows q2.2.1 q.2.1).filter fun F => (fod q q2 F).isNone) := ⟨o24 _ _ (off8 x17.at_) ll7c.at_, ll7c.new, by
            have : ∀ {as : List Addr} {L : List (List Nat)}, (∀ b ∈ as, b ∈ as7) → Paired (fun b ns => H23 b = some (.lst (ns.map vi)) ∧ H13 b = none) as L → Paired (fun b ns => H24 b = some (.lst (ns.map vi)) ∧ H13 b = none) as L := fun {as L} hs pr => by
              induction pr with
              | nil => exact .nil
              | cons x r ih => exact .cons ⟨o24 _ _ (by
                  obtain ⟨_, _, q1, _⟩ := x17.some (hs _ (List.mem_cons_self ..))
                  exact off8 q1) x.1, x.2⟩ (ih fun b hb => hs b (List.mem_cons_of_mem _ hb))
            exact this (fun _ h => h) ll7c.each, ll7c.nd, ll7c.ne⟩
          refine s_when (b := false) (et_test (fun H25 e25 Q25 q25 => do_op (ea_cons (ev_var rfl) (ea_cons (ev_var rfl) (ea_cons (ev_var rfl) ea_nil)) H25 e25 _ fun H26 e26 => ⟨q, q2, sv, .ref z, .ref z2, rfl, hm24.ex (e25.trans e26), hw24.ex (e25.trans e26), ok, ok2, es, fun k hk => lvl_few n24 (by omega) _, fun a9 as9 H27 e27 ll9 => do_ev (ev_var rfl) fun H28 e28 => ?_⟩))) (fun hb => by cases hb) (fun _ H25 e25 => ⟨⟨t22, pu24.ex e25, by omega⟩, _, _, _, _, _, _, _, _, _, _, _, _, _, _, rfl⟩)
          rw [lvl_due ok ok2 es] at ll9
          exact rv_neD (K := K) (fun H' e' => (ll9.ex (e28.trans e')).dp) (fun H' e' => (ll24.ex (e25.trans (e26.trans (e27.trans (e28.trans e'))))).dp) gD (by decide) _ (Ex.refl _) _ fun H29 e29 => q25 H29 (e26.trans (e27.trans (e28.trans e29)))
  · obtain ⟨⟨t, pu2, lt⟩, y2, y3, y4, y5, y6, y7, y8, y9, y10, y11, y12, y13, y14, y15, hσ⟩ := tn
    subst hσ
    refine do_ret (do_cons (do_draw (n := 462) (ev_var rfl) ev_c pu2 (by omega) (by decide) (by decide) fun k H3 hk o3 pu3 => do_nil ⟨k, ⟨rfl, by omega⟩, fun v H4 e4 hv => hv⟩))
end
end K72
end
section
namespace K72
open PySem PySem.Spec PyProof.Rows L2 Evl RZ Dw M20
section
variable {K : PySem.W.Frag} {h : Heap} {mg : Str → Option Value}
/-- a def by what the top has written -/
structure Wr (K : PySem.W.Frag) (x : Str) (st : Stmt) (f : Addr) : Prop where
  ex : ∃ (fd : FuncData), Fun K x x st f fd
  at_ : PySem.W.nsIn K mainGlobals x = some (some (.ref f))
theorem wr_mk {x : Str} {st : Stmt} {f : Addr} {od an : Option Addr} {sl : Array (Option Value)} {oc kV dc pm cd ct : Value} (a1 : PySem.W.nsIn K mainGlobals x = some (some (.ref f)))
    (l1 : K.lookup f = some ⟨oc, od, .func (PySem.W.fnOf x x (defArgs st) (defBody st) (defScope st) .none kV dc pm an cd ct), sl⟩) (c1 : PySem.W.codeIn K cd x = true) (k1 : PySem.W.keepIn K (.ref f) = true) : Wr K x st f := ⟨⟨_, fun_mk l1 c1 k1⟩, a1⟩
theorem Wr.df {x : Str} {st : Stmt} {f : Addr} {ps : List Str} (W : Wr K x st f) (X : K.In h) (G : h.Ns mainGlobals mg) (b : ∀ fd, Fun K x x st f fd → Binds K fd ps []) : Df K mg x st ps := by
  obtain ⟨fd, F⟩ := W.ex
  exact ⟨f, fd, F, PySem.W.mg_of X G W.at_, b fd F⟩
/-- a def by another name -/
structure WrQ (K : PySem.W.Frag) (x y : Str) (st : Stmt) (f : Addr) : Prop where
  ex : ∃ (fd : FuncData), Fun K y y st f fd
  at_ : PySem.W.nsIn K mainGlobals x = some (some (.ref f))
theorem wrq_mk {x y : Str} {st : Stmt} {f : Addr} {od an : Option Addr} {sl : Array (Option Value)} {oc kV dc pm cd ct : Value} (a1 : PySem.W.nsIn K mainGlobals x = some (some (.ref f)))
    (l1 : K.lookup f = some ⟨oc, od, .func (PySem.W.fnOf y y (defArgs st) (defBody st) (defScope st) .none kV dc pm an cd ct), sl⟩) (c1 : PySem.W.codeIn K cd y = true) (k1 : PySem.W.keepIn K (.ref f) = true) : WrQ K x y st f := ⟨⟨_, fun_mk l1 c1 k1⟩, a1⟩
theorem WrQ.df {x y : Str} {st : Stmt} {f : Addr} {ps : List Str} (W : WrQ K x y st f) (X : K.In h) (G : h.Ns mainGlobals mg) (b : ∀ fd, Fun K y y st f fd → Binds K fd ps []) : DfQ K mg x y st ps := by
  obtain ⟨fd, F⟩ := W.ex
  exact ⟨f, fd, F, PySem.W.mg_of X G W.at_, b fd F⟩
end

theorem all_mk {P : Program} {w : World} {K : PySem.W.Frag} {h : Heap} {mg : Str → Option Value} {fa : Addr} (X : K.In h) (G : h.Ns mainGlobals mg) (hfa : mg "law" = some (.ref fa)) (room : Room 11 callerA)
    {fl : Addr} {f0 : Addr} {f1 : Addr} {f2 : Addr} {f3 : Addr} {f4 : Addr} {f5 : Addr} {f6 : Addr} {f7 : Addr} {f8 : Addr} {f9 : Addr} {f10 : Addr} {f11 : Addr} {f12 : Addr} {f13 : Addr} {f14 : Addr} {f15 : Addr} {f16 : Addr} {f17 : Addr} {f18 : Addr} {f19 : Addr} {f20 : Addr} {f21 : Addr} {f22 : Addr} {f23 : Addr} {f24 : Addr} {f25 : Addr} {f26 : Addr} {f27 : Addr} {f28 : Addr} {f29 : Addr} {f30 : Addr} {f31 : Addr} {f32 : Addr} {f33 : Addr} {f34 : Addr} {f35 : Addr} {f36 : Addr} {f37 : Addr} {f38 : Addr} {f39 : Addr} {f40 : Addr} {f41 : Addr} {f42 : Addr}
    {t_NAME_LETTERS : Tok} {t_MOST_NAME : Tok} {t_MOST_DEEDS : Tok} {t_MOST_PLACES : Tok} {t_MOST_SIZE : Tok}
    (w0 : Wr K "_law_purse" s_purse f0)
    (w1 : Wr K "_law_draw" s_draw f1)
    (w2 : Wr K "_law_pick" s_pick f2)
    (w3 : Wr K "_law_signature" s_signature f3)
    (w4 : Wr K "_law_ways" s_ways f4)
    (w5 : Wr K "_law_table" s_table f5)
    (w6 : Wr K "_law_model" s_mdl f6)
    (w7 : Wr K "_law_is_whole" s_lwhole f7)
    (w8 : Wr K "_law_cells" s_cells f8)
    (w9 : Wr K "_law_did" s_did f9)
    (w10 : Wr K "_law_judged" s_ljudged f10)
    (w11 : Wr K "is_name" s_is_name f11)
    (w12 : Wr K "is_whole" s_is_whole f12)
    (w13 : Wr K "is_below" s_is_below f13)
    (w14 : Wr K "is_deed" s_is_deed f14)
    (w15 : Wr K "signature_wrong" s_signature_wrong f15)
    (w16 : Wr K "need_signature" s_need_signature f16)
    (w17 : Wr K "is_size" s_is_size f17)
    (w18 : Wr K "power" s_power f18)
    (w19 : WrQ K "first_odd_cell_models" "first_odd_cell" s_first_odd_cell f19)
    (w20 : Wr K "model_wrong" s_model_wrong f20)
    (w21 : Wr K "need_model" s_need_model f21)
    (w22 : Wr K "need_two_models" s_need_two_models f22)
    (w23 : Wr K "rows_below" s_rows_below f23)
    (w24 : Wr K "cells_with_worths" s_cells_with_worths f24)
    (w25 : Wr K "table_of" s_table_of f25)
    (w26 : Wr K "cells_by_greatest" s_cells_by_greatest f26)
    (w27 : Wr K "place_of_row" s_place_of_row f27)
    (w28 : Wr K "leads_on" s_leads_on f28)
    (w29 : Wr K "leads" s_leads f29)
    (w30 : Wr K "_law_near" s_near f30)
    (w31 : Wr K "_law_bent" s_bentL f31)
    (w32 : Wr K "_law_copied" s_copied f32)
    (w33 : Wr K "is_whole" s_is_whole f33)
    (w34 : Wr K "is_below" s_is_below f34)
    (w35 : Wr K "is_row" s_is_row f35)
    (w36 : Wr K "has_lead_form" s_has_lead_form f36)
    (w37 : Wr K "cells_in_order" s_cells_in_order f37)
    (w38 : Wr K "place_of_row" s_place_of_row f38)
    (w39 : WrQ K "first_odd_cell_leads" "first_odd_cell" s_first_odd_lead f39)
    (w40 : Wr K "lead_wrong" s_lead_wrong f40)
    (w41 : Wr K "lead_judged" s_lead_judged f41)
    (w42 : Wr K "_law_great_right" s_great f42)
    (wl : Wr K "law" s_law fl)
    (z_abs : PySem.W.nsIn K mainGlobals "abs" = some none)
    (z_all : PySem.W.nsIn K mainGlobals "all" = some none)
    (z_bool : PySem.W.nsIn K mainGlobals "bool" = some none)
    (z_enumerate : PySem.W.nsIn K mainGlobals "enumerate" = some none)
    (z_int : PySem.W.nsIn K mainGlobals "int" = some none)
    (z_isinstance : PySem.W.nsIn K mainGlobals "isinstance" = some none)
    (z_len : PySem.W.nsIn K mainGlobals "len" = some none)
    (z_list : PySem.W.nsIn K mainGlobals "list" = some none)
    (z_max : PySem.W.nsIn K mainGlobals "max" = some none)
    (z_min : PySem.W.nsIn K mainGlobals "min" = some none)
    (z_range : PySem.W.nsIn K mainGlobals "range" = some none)
    (z_sorted : PySem.W.nsIn K mainGlobals "sorted" = some none)
    (z_str : PySem.W.nsIn K mainGlobals "str" = some none)
    (z_sum : PySem.W.nsIn K mainGlobals "sum" = some none)
    (z_tuple : PySem.W.nsIn K mainGlobals "tuple" = some none)
    (z_zip : PySem.W.nsIn K mainGlobals "zip" = some none)
    (z_repr : PySem.W.nsIn K mainGlobals "repr" = some none)
    (z_set : PySem.W.nsIn K mainGlobals "set" = some none)
    (k_NAME_LETTERS : PySem.W.nsIn K mainGlobals "NAME_LETTERS" = some (some (.str "abcdefghijklmnopqrst" t_NAME_LETTERS)))
    (k_MOST_NAME : PySem.W.nsIn K mainGlobals "MOST_NAME" = some (some (.int 4 t_MOST_NAME)))
    (k_MOST_DEEDS : PySem.W.nsIn K mainGlobals "MOST_DEEDS" = some (some (.int 4 t_MOST_DEEDS)))
    (k_MOST_PLACES : PySem.W.nsIn K mainGlobals "MOST_PLACES" = some (some (.int 2 t_MOST_PLACES)))
    (k_MOST_SIZE : PySem.W.nsIn K mainGlobals "MOST_SIZE" = some (some (.int 6 t_MOST_SIZE))) :
    ∃ (fd : FuncData) (st : Stmt) (N : List Str), Fun K "law" "law" st fa fd ∧ FnScope N ["_law_script"] (defScope st) ∧ (∀ (s : Shared) (u : Value), BindsTo s fd ⟨[u], []⟩ [("_law_script", u)]) ∧
      ∀ (base : Heap) (s : Shared) (H : Hp) (cdv : Value) (a : Addr) (ns : List Int), K.In base → base.Ns mainGlobals mg → ns.length ≤ 63 → SqL K H a (ns.map V.int) →
        ∃ t, PSs (cxOf CX0 P w K mg base N "law" (defScope st) fa cdv callerA [] s H E0).nox (defBody st) t ∧ t { nx := fun _ _ => False, rt := fun v _ => v = .bl true } (L2.start N [.ref a]) H := by
  have e := hfa.symm.trans (PySem.W.mg_of X G wl.at_)
  cases e
  have T : Txt mg := {
    z_abs := PySem.W.mg_none_of X G z_abs
    z_all := PySem.W.mg_none_of X G z_all
    z_bool := PySem.W.mg_none_of X G z_bool
    z_enumerate := PySem.W.mg_none_of X G z_enumerate
    z_int := PySem.W.mg_none_of X G z_int
    z_isinstance := PySem.W.mg_none_of X G z_isinstance
    z_len := PySem.W.mg_none_of X G z_len
    z_list := PySem.W.mg_none_of X G z_list
    z_max := PySem.W.mg_none_of X G z_max
    z_min := PySem.W.mg_none_of X G z_min
    z_range := PySem.W.mg_none_of X G z_range
    z_sorted := PySem.W.mg_none_of X G z_sorted
    z_str := PySem.W.mg_none_of X G z_str
    z_sum := PySem.W.mg_none_of X G z_sum
    z_tuple := PySem.W.mg_none_of X G z_tuple
    z_zip := PySem.W.mg_none_of X G z_zip
    z_repr := PySem.W.mg_none_of X G z_repr
    z_set := PySem.W.mg_none_of X G z_set
    c_NAME_LETTERS := ⟨_, PySem.W.mg_of X G k_NAME_LETTERS⟩
    c_MOST_NAME := ⟨_, PySem.W.mg_of X G k_MOST_NAME⟩
    c_MOST_DEEDS := ⟨_, PySem.W.mg_of X G k_MOST_DEEDS⟩
    c_MOST_PLACES := ⟨_, PySem.W.mg_of X G k_MOST_PLACES⟩
    c_MOST_SIZE := ⟨_, PySem.W.mg_of X G k_MOST_SIZE⟩ }
  have D0 : Df K mg "_law_purse" s_purse ["_law_script"] := w0.df X G fun fd F => by
    obtain ⟨oc, od, kV, doc, pm, an, cdv, ct, osl, e, _⟩ := F.ex
    subst e
    exact F.binds fun _ _ _ _ _ _ us hl => match us, hl with | [_], _ => rfl
  have D1 : Df K mg "_law_draw" s_draw ["_law_purse_here", "_law_out_of"] := w1.df X G fun fd F => by
    obtain ⟨oc, od, kV, doc, pm, an, cdv, ct, osl, e, _⟩ := F.ex
    subst e
    exact F.binds fun _ _ _ _ _ _ us hl => match us, hl with | [_, _], _ => rfl
  have D2 : Df K mg "_law_pick" s_pick ["_law_purse_here", "_law_some"] := w2.df X G fun fd F => by
    obtain ⟨oc, od, kV, doc, pm, an, cdv, ct, osl, e, _⟩ := F.ex
    subst e
    exact F.binds fun _ _ _ _ _ _ us hl => match us, hl with | [_, _], _ => rfl
  have D3 : Df K mg "_law_signature" s_signature ["_law_purse_here"] := w3.df X G fun fd F => by
    obtain ⟨oc, od, kV, doc, pm, an, cdv, ct, osl, e, _⟩ := F.ex
    subst e
    exact F.binds fun _ _ _ _ _ _ us hl => match us, hl with | [_], _ => rfl
  have D4 : Df K mg "_law_ways" s_ways ["_law_many", "_law_size"] := w4.df X G fun fd F => by
    obtain ⟨oc, od, kV, doc, pm, an, cdv, ct, osl, e, _⟩ := F.ex
    subst e
    exact F.binds fun _ _ _ _ _ _ us hl => match us, hl with | [_, _], _ => rfl
  have D5 : Df K mg "_law_table" s_table ["_law_purse_here", "_law_many", "_law_size"] := w5.df X G fun fd F => by
    obtain ⟨oc, od, kV, doc, pm, an, cdv, ct, osl, e, _⟩ := F.ex
    subst e
    exact F.binds fun _ _ _ _ _ _ us hl => match us, hl with | [_, _, _], _ => rfl
  have D6 : Df K mg "_law_model" s_mdl ["_law_purse_here", "_law_signature_here", "_law_size"] := w6.df X G fun fd F => by
    obtain ⟨oc, od, kV, doc, pm, an, cdv, ct, osl, e, _⟩ := F.ex
    subst e
    exact F.binds fun _ _ _ _ _ _ us hl => match us, hl with | [_, _, _], _ => rfl
  have D7 : Df K mg "_law_is_whole" s_lwhole ["_law_thing"] := w7.df X G fun fd F => by
    obtain ⟨oc, od, kV, doc, pm, an, cdv, ct, osl, e, _⟩ := F.ex
    subst e
    exact F.binds fun _ _ _ _ _ _ us hl => match us, hl with | [_], _ => rfl
  have D8 : Df K mg "_law_cells" s_cells ["_law_signature_here", "_law_size"] := w8.df X G fun fd F => by
    obtain ⟨oc, od, kV, doc, pm, an, cdv, ct, osl, e, _⟩ := F.ex
    subst e
    exact F.binds fun _ _ _ _ _ _ us hl => match us, hl with | [_, _], _ => rfl
  have D9 : Df K mg "_law_did" s_did ["_law_signature_here", "_law_model_here", "_law_name", "_law_args"] := w9.df X G fun fd F => by
    obtain ⟨oc, od, kV, doc, pm, an, cdv, ct, osl, e, _⟩ := F.ex
    subst e
    exact F.binds fun _ _ _ _ _ _ us hl => match us, hl with | [_, _, _, _], _ => rfl
  have D10 : Df K mg "_law_judged" s_ljudged ["_law_signature_here", "_law_one", "_law_other", "_law_thing"] := w10.df X G fun fd F => by
    obtain ⟨oc, od, kV, doc, pm, an, cdv, ct, osl, e, _⟩ := F.ex
    subst e
    exact F.binds fun _ _ _ _ _ _ us hl => match us, hl with | [_, _, _, _], _ => rfl
  have D11 : Df K mg "is_name" s_is_name ["thing"] := w11.df X G fun fd F => by
    obtain ⟨oc, od, kV, doc, pm, an, cdv, ct, osl, e, _⟩ := F.ex
    subst e
    exact F.binds fun _ _ _ _ _ _ us hl => match us, hl with | [_], _ => rfl
  have D12 : Df K mg "is_whole" s_is_whole ["thing"] := w12.df X G fun fd F => by
    obtain ⟨oc, od, kV, doc, pm, an, cdv, ct, osl, e, _⟩ := F.ex
    subst e
    exact F.binds fun _ _ _ _ _ _ us hl => match us, hl with | [_], _ => rfl
  have D13 : Df K mg "is_below" s_is_below ["thing", "size"] := w13.df X G fun fd F => by
    obtain ⟨oc, od, kV, doc, pm, an, cdv, ct, osl, e, _⟩ := F.ex
    subst e
    exact F.binds fun _ _ _ _ _ _ us hl => match us, hl with | [_, _], _ => rfl
  have D14 : Df K mg "is_deed" s_is_deed ["thing"] := w14.df X G fun fd F => by
    obtain ⟨oc, od, kV, doc, pm, an, cdv, ct, osl, e, _⟩ := F.ex
    subst e
    exact F.binds fun _ _ _ _ _ _ us hl => match us, hl with | [_], _ => rfl
  have D15 : Df K mg "signature_wrong" s_signature_wrong ["thing"] := w15.df X G fun fd F => by
    obtain ⟨oc, od, kV, doc, pm, an, cdv, ct, osl, e, _⟩ := F.ex
    subst e
    exact F.binds fun _ _ _ _ _ _ us hl => match us, hl with | [_], _ => rfl
  have D16 : Df K mg "need_signature" s_need_signature ["signature"] := w16.df X G fun fd F => by
    obtain ⟨oc, od, kV, doc, pm, an, cdv, ct, osl, e, _⟩ := F.ex
    subst e
    exact F.binds fun _ _ _ _ _ _ us hl => match us, hl with | [_], _ => rfl
  have D17 : Df K mg "is_size" s_is_size ["thing"] := w17.df X G fun fd F => by
    obtain ⟨oc, od, kV, doc, pm, an, cdv, ct, osl, e, _⟩ := F.ex
    subst e
    exact F.binds fun _ _ _ _ _ _ us hl => match us, hl with | [_], _ => rfl
  have D18 : Df K mg "power" s_power ["base", "many"] := w18.df X G fun fd F => by
    obtain ⟨oc, od, kV, doc, pm, an, cdv, ct, osl, e, _⟩ := F.ex
    subst e
    exact F.binds fun _ _ _ _ _ _ us hl => match us, hl with | [_, _], _ => rfl
  have D19 : DfQ K mg "first_odd_cell_models" "first_odd_cell" s_first_odd_cell ["size", "tables"] := w19.df X G fun fd F => by
    obtain ⟨oc, od, kV, doc, pm, an, cdv, ct, osl, e, _⟩ := F.ex
    subst e
    exact F.binds fun _ _ _ _ _ _ us hl => match us, hl with | [_, _], _ => rfl
  have D20 : Df K mg "model_wrong" s_model_wrong ["signature", "thing"] := w20.df X G fun fd F => by
    obtain ⟨oc, od, kV, doc, pm, an, cdv, ct, osl, e, _⟩ := F.ex
    subst e
    exact F.binds fun _ _ _ _ _ _ us hl => match us, hl with | [_, _], _ => rfl
  have D21 : Df K mg "need_model" s_need_model ["signature", "model"] := w21.df X G fun fd F => by
    obtain ⟨oc, od, kV, doc, pm, an, cdv, ct, osl, e, _⟩ := F.ex
    subst e
    exact F.binds fun _ _ _ _ _ _ us hl => match us, hl with | [_, _], _ => rfl
  have D22 : Df K mg "need_two_models" s_need_two_models ["signature", "one", "other"] := w22.df X G fun fd F => by
    obtain ⟨oc, od, kV, doc, pm, an, cdv, ct, osl, e, _⟩ := F.ex
    subst e
    exact F.binds fun _ _ _ _ _ _ us hl => match us, hl with | [_, _, _], _ => rfl
  have D23 : Df K mg "rows_below" s_rows_below ["size", "many"] := w23.df X G fun fd F => by
    obtain ⟨oc, od, kV, doc, pm, an, cdv, ct, osl, e, _⟩ := F.ex
    subst e
    exact F.binds fun _ _ _ _ _ _ us hl => match us, hl with | [_, _], _ => rfl
  have D24 : Df K mg "cells_with_worths" s_cells_with_worths ["signature", "model"] := w24.df X G fun fd F => by
    obtain ⟨oc, od, kV, doc, pm, an, cdv, ct, osl, e, _⟩ := F.ex
    subst e
    exact F.binds fun _ _ _ _ _ _ us hl => match us, hl with | [_, _], _ => rfl
  have D25 : Df K mg "table_of" s_table_of ["signature", "tables", "name"] := w25.df X G fun fd F => by
    obtain ⟨oc, od, kV, doc, pm, an, cdv, ct, osl, e, _⟩ := F.ex
    subst e
    exact F.binds fun _ _ _ _ _ _ us hl => match us, hl with | [_, _, _], _ => rfl
  have D26 : Df K mg "cells_by_greatest" s_cells_by_greatest ["signature", "one", "other"] := w26.df X G fun fd F => by
    obtain ⟨oc, od, kV, doc, pm, an, cdv, ct, osl, e, _⟩ := F.ex
    subst e
    exact F.binds fun _ _ _ _ _ _ us hl => match us, hl with | [_, _, _], _ => rfl
  have D27 : Df K mg "place_of_row" s_place_of_row ["size", "row"] := w27.df X G fun fd F => by
    obtain ⟨oc, od, kV, doc, pm, an, cdv, ct, osl, e, _⟩ := F.ex
    subst e
    exact F.binds fun _ _ _ _ _ _ us hl => match us, hl with | [_, _], _ => rfl
  have D28 : Df K mg "leads_on" s_leads_on ["cells", "size", "images"] := w28.df X G fun fd F => by
    obtain ⟨oc, od, kV, doc, pm, an, cdv, ct, osl, e, _⟩ := F.ex
    subst e
    exact F.binds fun _ _ _ _ _ _ us hl => match us, hl with | [_, _, _], _ => rfl
  have D29 : Df K mg "leads" s_leads ["signature", "one", "other"] := w29.df X G fun fd F => by
    obtain ⟨oc, od, kV, doc, pm, an, cdv, ct, osl, e, _⟩ := F.ex
    subst e
    exact F.binds fun _ _ _ _ _ _ us hl => match us, hl with | [_, _, _], _ => rfl
  have D30 : Df K mg "_law_near" s_near ["_law_purse_here", "_law_model_here"] := w30.df X G fun fd F => by
    obtain ⟨oc, od, kV, doc, pm, an, cdv, ct, osl, e, _⟩ := F.ex
    subst e
    exact F.binds fun _ _ _ _ _ _ us hl => match us, hl with | [_, _], _ => rfl
  have D31 : Df K mg "_law_bent" s_bentL ["_law_purse_here", "_law_thing", "_law_size"] := w31.df X G fun fd F => by
    obtain ⟨oc, od, kV, doc, pm, an, cdv, ct, osl, e, _⟩ := F.ex
    subst e
    exact F.binds fun _ _ _ _ _ _ us hl => match us, hl with | [_, _, _], _ => rfl
  have D32 : Df K mg "_law_copied" s_copied ["_law_thing"] := w32.df X G fun fd F => by
    obtain ⟨oc, od, kV, doc, pm, an, cdv, ct, osl, e, _⟩ := F.ex
    subst e
    exact F.binds fun _ _ _ _ _ _ us hl => match us, hl with | [_], _ => rfl
  have D33 : Df K mg "is_whole" s_is_whole ["thing"] := w33.df X G fun fd F => by
    obtain ⟨oc, od, kV, doc, pm, an, cdv, ct, osl, e, _⟩ := F.ex
    subst e
    exact F.binds fun _ _ _ _ _ _ us hl => match us, hl with | [_], _ => rfl
  have D34 : Df K mg "is_below" s_is_below ["thing", "size"] := w34.df X G fun fd F => by
    obtain ⟨oc, od, kV, doc, pm, an, cdv, ct, osl, e, _⟩ := F.ex
    subst e
    exact F.binds fun _ _ _ _ _ _ us hl => match us, hl with | [_, _], _ => rfl
  have D35 : Df K mg "is_row" s_is_row ["thing", "many", "size"] := w35.df X G fun fd F => by
    obtain ⟨oc, od, kV, doc, pm, an, cdv, ct, osl, e, _⟩ := F.ex
    subst e
    exact F.binds fun _ _ _ _ _ _ us hl => match us, hl with | [_, _, _], _ => rfl
  have D36 : Df K mg "has_lead_form" s_has_lead_form ["one", "other", "thing"] := w36.df X G fun fd F => by
    obtain ⟨oc, od, kV, doc, pm, an, cdv, ct, osl, e, _⟩ := F.ex
    subst e
    exact F.binds fun _ _ _ _ _ _ us hl => match us, hl with | [_, _, _], _ => rfl
  have D37 : Df K mg "cells_in_order" s_cells_in_order ["signature", "size"] := w37.df X G fun fd F => by
    obtain ⟨oc, od, kV, doc, pm, an, cdv, ct, osl, e, _⟩ := F.ex
    subst e
    exact F.binds fun _ _ _ _ _ _ us hl => match us, hl with | [_, _], _ => rfl
  have D38 : Df K mg "place_of_row" s_place_of_row ["size", "row"] := w38.df X G fun fd F => by
    obtain ⟨oc, od, kV, doc, pm, an, cdv, ct, osl, e, _⟩ := F.ex
    subst e
    exact F.binds fun _ _ _ _ _ _ us hl => match us, hl with | [_, _], _ => rfl
  have D39 : DfQ K mg "first_odd_cell_leads" "first_odd_cell" s_first_odd_lead ["signature", "one", "other", "images"] := w39.df X G fun fd F => by
    obtain ⟨oc, od, kV, doc, pm, an, cdv, ct, osl, e, _⟩ := F.ex
    subst e
    exact F.binds fun _ _ _ _ _ _ us hl => match us, hl with | [_, _, _, _], _ => rfl
  have D40 : Df K mg "lead_wrong" s_lead_wrong ["signature", "one", "other", "thing"] := w40.df X G fun fd F => by
    obtain ⟨oc, od, kV, doc, pm, an, cdv, ct, osl, e, _⟩ := F.ex
    subst e
    exact F.binds fun _ _ _ _ _ _ us hl => match us, hl with | [_, _, _, _], _ => rfl
  have D41 : Df K mg "lead_judged" s_lead_judged ["signature", "one", "other", "thing"] := w41.df X G fun fd F => by
    obtain ⟨oc, od, kV, doc, pm, an, cdv, ct, osl, e, _⟩ := F.ex
    subst e
    exact F.binds fun _ _ _ _ _ _ us hl => match us, hl with | [_, _, _, _], _ => rfl
  have D42 : Df K mg "_law_great_right" s_great ["_law_worth"] := w42.df X G fun fd F => by
    obtain ⟨oc, od, kV, doc, pm, an, cdv, ct, osl, e, _⟩ := F.ex
    subst e
    exact F.binds fun _ _ _ _ _ _ us hl => match us, hl with | [_], _ => rfl
  obtain ⟨fd, F⟩ := wl.ex
  refine ⟨fd, s_law, ["_law_script", "_law_purse_here", "_law_time", "_law_signature_here", "_law_one", "_law_other", "_law_every", "_law_due", "_law_told_here", "_law_near_here", "_law_right", "_law_k", "_law_thing", "_law_kept", "_law_found", "_law_lead", "_law_images"], F, sc_law, fun s u => ?_, fun base s H cdv a ns inB nsB len seq => ?_⟩
  · obtain ⟨oc, od, kV, doc, pm, an, cdv, ct, osl, e, _⟩ := F.ex
    subst e
    exact .of_eq rfl
  · have c_purse := c_purse (P := P) (w := w) (base := base) T D0 
    have c_draw := c_draw (P := P) (w := w) (base := base) T D1 
    have c_pick := c_pick (P := P) (w := w) (base := base) T D2 c_draw
    have c_signature := c_signature (P := P) (w := w) (base := base) T D3 c_pick
    have c_ways := c_ways (P := P) (w := w) (base := base) T D4 
    have c_table := c_table (P := P) (w := w) (base := base) T D5 c_draw c_ways
    have c_model := c_model (P := P) (w := w) (base := base) T D6 c_table
    have c_lwhole_any := c_lwhole_any (P := P) (w := w) (base := base) T D7 
    have c_cellsO := c_cellsO (P := P) (w := w) (base := base) T D8 c_ways
    have c_did := c_did (P := P) (w := w) (base := base) T D9 
    have c_ljudged := c_ljudged (P := P) (w := w) (base := base) T D10 c_lwhole_any c_cellsO c_did
    have c_is_name := c_is_name (P := P) (w := w) (base := base) T D11 
    have c_is_whole := c_is_whole (P := P) (w := w) (base := base) T D12 
    have c_is_below := c_is_below (P := P) (w := w) (base := base) T D13 c_is_whole
    have c_is_deed := c_is_deed (P := P) (w := w) (base := base) T D14 c_is_name c_is_below
    have c_signature_wrong := c_signature_wrong (P := P) (w := w) (base := base) T D15 c_is_deed
    have c_need_signature := c_need_signature (P := P) (w := w) (base := base) T D16 c_signature_wrong
    have c_is_size := c_is_size (P := P) (w := w) (base := base) T D17 c_is_whole
    have c_power := c_power (P := P) (w := w) (base := base) T D18 
    have c_first_odd_cell_models := c_first_odd_cell_models (P := P) (w := w) (base := base) T D19 c_is_below
    have c_model_wrong := c_model_wrong (P := P) (w := w) (base := base) T D20 c_need_signature c_is_size c_power c_first_odd_cell_models
    have c_need_model := c_need_model (P := P) (w := w) (base := base) T D21 c_model_wrong
    have c_need_two_models := c_need_two_models (P := P) (w := w) (base := base) T D22 c_need_model
    have c_rows_below := c_rows_below (P := P) (w := w) (base := base) T D23 
    have c_cells_with_worths := c_cells_with_worths (P := P) (w := w) (base := base) T D24 c_rows_below
    have c_table_of := c_table_of (P := P) (w := w) (base := base) T D25 
    have c_cells_by_greatest := c_cells_by_greatest (P := P) (w := w) (base := base) T D26 c_cells_with_worths c_table_of
    have c_place_of_row := c_place_of_row (P := P) (w := w) (base := base) T D27 
    have c_leads_on := c_leads_on (P := P) (w := w) (base := base) T D28 c_place_of_row
    have c_leads := c_leads (P := P) (w := w) (base := base) T D29 c_need_two_models c_cells_by_greatest c_leads_on
    have c_near := c_near (P := P) (w := w) (base := base) T D30 c_draw
    have c_bentL := c_bentL (P := P) (w := w) (base := base) T D31 c_draw c_pick
    have c_copied := c_copied (P := P) (w := w) (base := base) T D32  6
    have c_whole_any := c_whole_any (P := P) (w := w) (base := base) T D33 
    have c_below_any := c_below_any (P := P) (w := w) (base := base) T D34 c_whole_any
    have c_row_any := c_row_any (P := P) (w := w) (base := base) T D35 c_below_any
    have c_has_lead_form := c_has_lead_form (P := P) (w := w) (base := base) T D36 c_row_any
    have c_cells_in_order := c_cells_in_order (P := P) (w := w) (base := base) T D37 c_rows_below
    have c_place_of_rowT := c_place_of_rowT (P := P) (w := w) (base := base) T D38 
    have c_first_odd_cell_leads := c_first_odd_cell_leads (P := P) (w := w) (base := base) T D39 c_cells_in_order c_table_of c_place_of_rowT c_leads_on
    have c_lead_wrong := c_lead_wrong (P := P) (w := w) (base := base) T D40 c_has_lead_form c_first_odd_cell_leads
    have c_lead_judged := c_lead_judged (P := P) (w := w) (base := base) T D41 c_need_two_models c_lead_wrong
    have c_great := c_great (P := P) (w := w) (base := base) T D42 c_ways c_leads c_lead_judged c_ljudged
    exact law_ok T c_purse c_draw c_pick c_signature c_model c_ways c_ljudged c_leads c_near c_bentL c_copied c_lead_judged c_great room s H fa cdv a ns len seq
end K72
end
open PySem PySem.W PyProof.Rows
set_option maxHeartbeats 0 in
theorem PySem.Challenge.cw_deedworlds_k72_leads_told_and_judged_holds : PySem.Challenge.rw_deedworlds_k72_leads_told_and_judged.Holds := by
  w_on; o_law; k_head; (case hw => w_witness2)
  k_fill
  refine Dw.walkG (l := PySem.Challenge.rw_deedworlds_k72_leads_told_and_judged) (n := 63) (k := 10) (x := "_law_script") rfl (by decide) rfl ⟨rfl, by decide, by decide⟩ (fun w h Y => PySem.W.kIn_of Y) ?F
  case F =>
    intro w mg fa h KX G hmg
    refine' K72.all_mk KX G hmg ⟨rfl, by decide, by decide⟩ (K72.wr_mk ?a0 ?l0 ?c0 ?k0) (K72.wr_mk ?a1 ?l1 ?c1 ?k1) (K72.wr_mk ?a2 ?l2 ?c2 ?k2) (K72.wr_mk ?a3 ?l3 ?c3 ?k3) (K72.wr_mk ?a4 ?l4 ?c4 ?k4) (K72.wr_mk ?a5 ?l5 ?c5 ?k5) (K72.wr_mk ?a6 ?l6 ?c6 ?k6) (K72.wr_mk ?a7 ?l7 ?c7 ?k7) (K72.wr_mk ?a8 ?l8 ?c8 ?k8) (K72.wr_mk ?a9 ?l9 ?c9 ?k9) (K72.wr_mk ?a10 ?l10 ?c10 ?k10) (K72.wr_mk ?a11 ?l11 ?c11 ?k11) (K72.wr_mk ?a12 ?l12 ?c12 ?k12) (K72.wr_mk ?a13 ?l13 ?c13 ?k13) (K72.wr_mk ?a14 ?l14 ?c14 ?k14) (K72.wr_mk ?a15 ?l15 ?c15 ?k15) (K72.wr_mk ?a16 ?l16 ?c16 ?k16) (K72.wr_mk ?a17 ?l17 ?c17 ?k17) (K72.wr_mk ?a18 ?l18 ?c18 ?k18) (K72.wrq_mk ?a19 ?l19 ?c19 ?k19) (K72.wr_mk ?a20 ?l20 ?c20 ?k20) (K72.wr_mk ?a21 ?l21 ?c21 ?k21) (K72.wr_mk ?a22 ?l22 ?c22 ?k22) (K72.wr_mk ?a23 ?l23 ?c23 ?k23) (K72.wr_mk ?a24 ?l24 ?c24 ?k24) (K72.wr_mk ?a25 ?l25 ?c25 ?k25) (K72.wr_mk ?a26 ?l26 ?c26 ?k26) (K72.wr_mk ?a27 ?l27 ?c27 ?k27) (K72.wr_mk ?a28 ?l28 ?c28 ?k28) (K72.wr_mk ?a29 ?l29 ?c29 ?k29) (K72.wr_mk ?a30 ?l30 ?c30 ?k30) (K72.wr_mk ?a31 ?l31 ?c31 ?k31) (K72.wr_mk ?a32 ?l32 ?c32 ?k32) (K72.wr_mk ?a33 ?l33 ?c33 ?k33) (K72.wr_mk ?a34 ?l34 ?c34 ?k34) (K72.wr_mk ?a35 ?l35 ?c35 ?k35) (K72.wr_mk ?a36 ?l36 ?c36 ?k36) (K72.wr_mk ?a37 ?l37 ?c37 ?k37) (K72.wr_mk ?a38 ?l38 ?c38 ?k38) (K72.wrq_mk ?a39 ?l39 ?c39 ?k39) (K72.wr_mk ?a40 ?l40 ?c40 ?k40) (K72.wr_mk ?a41 ?l41 ?c41 ?k41) (K72.wr_mk ?a42 ?l42 ?c42 ?k42) (K72.wr_mk ?al ?ll ?cl ?kl) ?z_abs ?z_all ?z_bool ?z_enumerate ?z_int ?z_isinstance ?z_len ?z_list ?z_max ?z_min ?z_range ?z_sorted ?z_str ?z_sum ?z_tuple ?z_zip ?z_repr ?z_set ?k_NAME_LETTERS ?k_MOST_NAME ?k_MOST_DEEDS ?k_MOST_PLACES ?k_MOST_SIZE
    (case a0 => k_is); (case l0 => k_is); (case c0 => k_is); (case k0 => k_is)
    (case a1 => k_is); (case l1 => k_is); (case c1 => k_is); (case k1 => k_is)
    (case a2 => k_is); (case l2 => k_is); (case c2 => k_is); (case k2 => k_is)
    (case a3 => k_is); (case l3 => k_is); (case c3 => k_is); (case k3 => k_is)
    (case a4 => k_is); (case l4 => k_is); (case c4 => k_is); (case k4 => k_is)
    (case a5 => k_is); (case l5 => k_is); (case c5 => k_is); (case k5 => k_is)
    (case a6 => k_is); (case l6 => k_is); (case c6 => k_is); (case k6 => k_is)
    (case a7 => k_is); (case l7 => k_is); (case c7 => k_is); (case k7 => k_is)
    (case a8 => k_is); (case l8 => k_is); (case c8 => k_is); (case k8 => k_is)
    (case a9 => k_is); (case l9 => k_is); (case c9 => k_is); (case k9 => k_is)
    (case a10 => k_is); (case l10 => k_is); (case c10 => k_is); (case k10 => k_is)
    (case a11 => k_is); (case l11 => k_is); (case c11 => k_is); (case k11 => k_is)
    (case a12 => k_is); (case l12 => k_is); (case c12 => k_is); (case k12 => k_is)
    (case a13 => k_is); (case l13 => k_is); (case c13 => k_is); (case k13 => k_is)
    (case a14 => k_is); (case l14 => k_is); (case c14 => k_is); (case k14 => k_is)
    (case a15 => k_is); (case l15 => k_is); (case c15 => k_is); (case k15 => k_is)
    (case a16 => k_is); (case l16 => k_is); (case c16 => k_is); (case k16 => k_is)
    (case a17 => k_is); (case l17 => k_is); (case c17 => k_is); (case k17 => k_is)
    (case a18 => k_is); (case l18 => k_is); (case c18 => k_is); (case k18 => k_is)
    (case a19 => k_is); (case l19 => k_is); (case c19 => k_is); (case k19 => k_is)
    (case a20 => k_is); (case l20 => k_is); (case c20 => k_is); (case k20 => k_is)
    (case a21 => k_is); (case l21 => k_is); (case c21 => k_is); (case k21 => k_is)
    (case a22 => k_is); (case l22 => k_is); (case c22 => k_is); (case k22 => k_is)
    (case a23 => k_is); (case l23 => k_is); (case c23 => k_is); (case k23 => k_is)
    (case a24 => k_is); (case l24 => k_is); (case c24 => k_is); (case k24 => k_is)
    (case a25 => k_is); (case l25 => k_is); (case c25 => k_is); (case k25 => k_is)
    (case a26 => k_is); (case l26 => k_is); (case c26 => k_is); (case k26 => k_is)
    (case a27 => k_is); (case l27 => k_is); (case c27 => k_is); (case k27 => k_is)
    (case a28 => k_is); (case l28 => k_is); (case c28 => k_is); (case k28 => k_is)
    (case a29 => k_is); (case l29 => k_is); (case c29 => k_is); (case k29 => k_is)
    (case a30 => k_is); (case l30 => k_is); (case c30 => k_is); (case k30 => k_is)
    (case a31 => k_is); (case l31 => k_is); (case c31 => k_is); (case k31 => k_is)
    (case a32 => k_is); (case l32 => k_is); (case c32 => k_is); (case k32 => k_is)
    (case a33 => k_is); (case l33 => k_is); (case c33 => k_is); (case k33 => k_is)
    (case a34 => k_is); (case l34 => k_is); (case c34 => k_is); (case k34 => k_is)
    (case a35 => k_is); (case l35 => k_is); (case c35 => k_is); (case k35 => k_is)
    (case a36 => k_is); (case l36 => k_is); (case c36 => k_is); (case k36 => k_is)
    (case a37 => k_is); (case l37 => k_is); (case c37 => k_is); (case k37 => k_is)
    (case a38 => k_is); (case l38 => k_is); (case c38 => k_is); (case k38 => k_is)
    (case a39 => k_is); (case l39 => k_is); (case c39 => k_is); (case k39 => k_is)
    (case a40 => k_is); (case l40 => k_is); (case c40 => k_is); (case k40 => k_is)
    (case a41 => k_is); (case l41 => k_is); (case c41 => k_is); (case k41 => k_is)
    (case a42 => k_is); (case l42 => k_is); (case c42 => k_is); (case k42 => k_is)
    (case al => k_is); (case ll => k_is); (case cl => k_is); (case kl => k_is)
    (case z_abs => k_is); (case z_all => k_is); (case z_bool => k_is); (case z_enumerate => k_is); (case z_int => k_is); (case z_isinstance => k_is); (case z_len => k_is); (case z_list => k_is); (case z_max => k_is); (case z_min => k_is); (case z_range => k_is); (case z_sorted => k_is); (case z_str => k_is); (case z_sum => k_is); (case z_tuple => k_is); (case z_zip => k_is); (case z_repr => k_is); (case z_set => k_is)
    (case k_NAME_LETTERS => k_is); (case k_MOST_NAME => k_is); (case k_MOST_DEEDS => k_is); (case k_MOST_PLACES => k_is); (case k_MOST_SIZE => k_is)
