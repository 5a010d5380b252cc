package tests

import (
	"reflect"
	"slices"
	"strings"
	"testing"

	"loop.example/warp/impl"
)

// twig is a node with its kids below it; listed makes a tree of it.
type twig struct {
	impl.Node
	below []twig
}

func tw(n impl.Node, below ...twig) twig { return twig{n, below} }

func kind(k int, below ...twig) twig { return tw(impl.Node{Kind: k}, below...) }

// lay puts a twig behind the nodes of a list, those below it first, and answers where it stands.
func lay(nodes *[]impl.Node, x twig) int {
	var kids []int
	for _, kid := range x.below {
		kids = append(kids, lay(nodes, kid))
	}
	x.Node.Kids = kids
	*nodes = append(*nodes, x.Node)
	return len(*nodes) - 1
}

func listed(x twig) impl.Tree {
	var nodes []impl.Node
	lay(&nodes, x)
	return impl.Tree{Nodes: nodes}
}

// text is the tree of a SBlock with these statements.
func text(stats ...twig) impl.Tree { return listed(kind(impl.SBlock, stats...)) }

// held is the tree of a text in which a twig stands, and its place there.
func held(x twig) (impl.Tree, int) {
	size := len(listed(x).Nodes)
	switch {
	case x.Kind >= 40:
		x = kind(impl.SThrow, kind(impl.ETable, x))
	case x.Kind >= 20:
		x = kind(impl.SThrow, x)
	}
	return text(x), size - 1
}

// sample is a small twig of a Kind of the tables.
func sample(k int) twig {
	for _, r := range treeRows {
		if r.node.Kind == k {
			return r.with(r.good[0])
		}
	}
	return kind(k)
}

// treeRow is a row of the tables of chapter 2: a node as it says, the fields that it names,
// and rows of kids that are right and wrong, a letter (see standing) for each kid.
type treeRow struct {
	node  impl.Node
	named string
	good  []string
	wrong []string
}

func (r treeRow) with(kids string) twig {
	x := tw(r.node)
	for i := range len(kids) {
		x.below = append(x.below, sample(standing[kids[i]][0]))
	}
	return x
}

func span(from, to int) []int {
	var all []int
	for k := from; k <= to; k++ {
		all = append(all, k)
	}
	return all
}

// standing holds the Kinds that may stand for a letter.
var standing = map[byte][]int{
	's': {11, 1, 2, 3, 4, 5, 6, 7, 8, 9, 10, 12, 13, 14, 15, 16},
	'e': span(20, 37),
	'h': append(span(20, 26), span(28, 37)...),
	'b': {1},
	'i': {1, 7},
	'c': {34},
	'o': {27, 34},
	't': {26, 32, 33},
	'f': {36},
	'n': span(40, 42),
}

var everyKind = append(append(span(1, 16), span(20, 37)...), span(40, 42)...)

var treeRows = []treeRow{
	{impl.Node{Kind: 1}, "", []string{"", "s", "ss", strings.Repeat("s", 200)}, []string{strings.Repeat("s", 201)}},
	{impl.Node{Kind: 2, Names: []string{"a"}}, "names", []string{"", "e", "ee", strings.Repeat("e", 200)}, []string{strings.Repeat("e", 201)}},
	{impl.Node{Kind: 3, Names: []string{"a"}}, "names", []string{"e"}, []string{"", "ee"}},
	{impl.Node{Kind: 4, Names: []string{"a"}}, "names", []string{"f"}, []string{"", "ff"}},
	{impl.Node{Kind: 5, Num: 1}, "num", []string{"te", "tee", "t" + strings.Repeat("e", 199)}, []string{"", "t", "t" + strings.Repeat("e", 200)}},
	{impl.Node{Kind: 5, Num: 2}, "num", []string{"tte", "ttee"}, []string{"", "t", "tt"}},
	{impl.Node{Kind: 5, Num: 199}, "num", []string{strings.Repeat("t", 199) + "e"}, []string{strings.Repeat("t", 199), strings.Repeat("t", 199) + "ee"}},
	{impl.Node{Kind: 6}, "", []string{"c"}, []string{"", "cc"}},
	{impl.Node{Kind: 7}, "", []string{"eb", "ebi"}, []string{"", "e", "b", "ebbb", "ebib"}},
	{impl.Node{Kind: 8}, "", []string{"eb"}, []string{"", "e", "b", "ebb"}},
	{impl.Node{Kind: 9, Names: []string{"a"}}, "names", []string{"eeb", "eeeb"}, []string{"", "eb", "ee", "eee", "eeeeb", "eeebb"}},
	{impl.Node{Kind: 10, Names: []string{"a"}}, "names", []string{"eb"}, []string{"", "e", "b", "eeb", "ebb"}},
	{impl.Node{Kind: 11}, "", []string{""}, []string{"e", "s"}},
	{impl.Node{Kind: 12}, "", []string{""}, []string{"e", "s"}},
	{impl.Node{Kind: 13}, "", []string{"", "e", "ee", strings.Repeat("e", 200)}, []string{strings.Repeat("e", 201)}},
	{impl.Node{Kind: 14, Names: []string{"a"}}, "names", []string{"bb"}, []string{"", "b", "bbb"}},
	{impl.Node{Kind: 15}, "", []string{"e"}, []string{"", "ee"}},
	{impl.Node{Kind: 16}, "", []string{"c"}, []string{"", "cc"}},
	{impl.Node{Kind: 20}, "", []string{""}, []string{"e"}},
	{impl.Node{Kind: 21}, "", []string{""}, []string{"e"}},
	{impl.Node{Kind: 22}, "", []string{""}, []string{"e"}},
	{impl.Node{Kind: 23, Num: 1}, "num", []string{""}, []string{"e"}},
	{impl.Node{Kind: 24, Text: "1.5"}, "text", []string{""}, []string{"e"}},
	{impl.Node{Kind: 25, Text: "a b"}, "text", []string{""}, []string{"e"}},
	{impl.Node{Kind: 26, Text: "a"}, "text", []string{""}, []string{"e"}},
	{impl.Node{Kind: 27}, "", []string{""}, []string{"e"}},
	{impl.Node{Kind: 28}, "", []string{"ee"}, []string{"", "e", "eee"}},
	{impl.Node{Kind: 29}, "", []string{"ee"}, []string{"", "e", "eee"}},
	{impl.Node{Kind: 30, Op: 19}, "op", []string{"e"}, []string{"", "ee"}},
	{impl.Node{Kind: 31, Op: 1}, "op", []string{"ee"}, []string{"", "e", "eee"}},
	{impl.Node{Kind: 32}, "", []string{"he"}, []string{"", "h", "hee"}},
	{impl.Node{Kind: 33, Text: "a"}, "text", []string{"h"}, []string{"", "he"}},
	{impl.Node{Kind: 34}, "", []string{"h", "he", "hee", "h" + strings.Repeat("e", 199)}, []string{"", "h" + strings.Repeat("e", 200)}},
	{impl.Node{Kind: 35}, "", []string{"", "n", "nn", strings.Repeat("n", 200)}, []string{strings.Repeat("n", 201)}},
	{impl.Node{Kind: 36}, "names op", []string{"b"}, []string{"", "bb"}},
	{impl.Node{Kind: 37}, "", []string{"o"}, []string{"", "oo"}},
	{impl.Node{Kind: 40}, "", []string{"e"}, []string{"", "ee"}},
	{impl.Node{Kind: 41}, "", []string{"ee"}, []string{"", "e", "eee"}},
	{impl.Node{Kind: 42, Text: "a"}, "text", []string{"e"}, []string{"", "ee"}},
}

func wantTree(t *testing.T, x impl.Tree, code, node int) {
	t.Helper()
	want := impl.Fault{Code: code, Node: node}
	if got := impl.TreeOk(x); got != want {
		shown := x.Nodes[:min(len(x.Nodes), 12)]
		t.Errorf("%+v, want %+v, of %d nodes %+v", got, want, len(x.Nodes), shown)
	}
}

// wantFits fails unless a node is as the tables say, or is the first that is not.
func wantFits(t *testing.T, x twig, fits bool) {
	t.Helper()
	list, place := held(x)
	if fits {
		wantTree(t, list, 0, 0)
	} else {
		wantTree(t, list, 2, place)
	}
}

func TestP2ConstantsKeepTheirValues(t *testing.T) {
	limits := []int{impl.MaxNodes, impl.MaxNest, impl.MaxKids}
	if !slices.Equal(limits, []int{3000, 100, 200}) {
		t.Error(limits)
	}
	ops := []int{
		impl.OpAdd, impl.OpSub, impl.OpMul, impl.OpDiv, impl.OpIDiv, impl.OpMod, impl.OpAnd, impl.OpOr, impl.OpXor, impl.OpShl, impl.OpShr,
		impl.OpJoin, impl.OpEq, impl.OpNe, impl.OpLt, impl.OpLe, impl.OpGt, impl.OpGe, impl.OpNeg, impl.OpFlip, impl.OpNot, impl.OpLen,
	}
	if !slices.Equal(ops, span(1, 22)) {
		t.Error(ops)
	}
	kinds := []int{
		impl.SBlock, impl.SLet, impl.SConst, impl.SFn, impl.SSet, impl.SDo, impl.SIf, impl.SWhile, impl.SFor, impl.SEach, impl.SBreak,
		impl.SNext, impl.SReturn, impl.STry, impl.SThrow, impl.SDefer,
		impl.ENil, impl.ETrue, impl.EFalse, impl.EInt, impl.EFlt, impl.EStr, impl.EName, impl.ERest, impl.EAnd, impl.EOr, impl.EUnary,
		impl.EBinary, impl.EIndex, impl.EField, impl.ECall, impl.ETable, impl.EFn, impl.EOne, impl.NItem, impl.NPair, impl.NNamed,
	}
	if !slices.Equal(kinds, everyKind) {
		t.Error(kinds)
	}
}

func TestP2EachRowIsKnown(t *testing.T) {
	for _, r := range treeRows {
		for _, kids := range r.good {
			wantFits(t, r.with(kids), true)
		}
		for _, kids := range r.wrong {
			wantFits(t, r.with(kids), false)
		}
	}
}

func TestP2KindsOfKids(t *testing.T) {
	for _, r := range treeRows {
		for _, kids := range r.good {
			for i := range min(len(kids), 4) {
				for _, k := range everyKind {
					x := r.with(kids)
					x.below[i] = sample(k)
					wantFits(t, x, slices.Contains(standing[kids[i]], k))
				}
			}
		}
	}
}

func TestP2TheLastOfManyKids(t *testing.T) {
	for _, r := range treeRows {
		kids := r.good[len(r.good)-1]
		if len(kids) < 100 {
			continue
		}
		for _, k := range everyKind {
			x := r.with(kids)
			x.below[len(kids)-1] = sample(k)
			wantFits(t, x, slices.Contains(standing[kids[len(kids)-1]], k))
		}
	}
}

func TestP2KindsThatThereAreNot(t *testing.T) {
	for _, k := range []int{-1 << 63, -1, 0, 17, 18, 19, 38, 39, 43, 44, 100, 1<<63 - 1, 1<<32 + 11} {
		for _, r := range treeRows {
			x := r.with(r.good[0])
			list, place := held(x)
			list.Nodes[place].Kind = k
			wantTree(t, list, 2, place)
		}
	}
}

func TestP2OtherKinds(t *testing.T) {
	for _, r := range treeRows {
		for _, k := range everyKind {
			list, place := held(r.with(r.good[0]))
			list.Nodes[place].Kind = k
			want := slowFault(list)
			wantTree(t, list, want.Code, want.Node)
		}
	}
}

func TestP2FieldsThatARowDoesNotName(t *testing.T) {
	for _, r := range treeRows {
		for field, set := range map[string]func(*impl.Node){
			"op":    func(n *impl.Node) { n.Op = 1 },
			"num":   func(n *impl.Node) { n.Num = 1 },
			"text":  func(n *impl.Node) { n.Text = "a" },
			"names": func(n *impl.Node) { n.Names = []string{"a"} },
		} {
			if strings.Contains(r.named, field) {
				continue
			}
			x := r.with(r.good[0])
			set(&x.Node)
			wantFits(t, x, false)
		}
		x := r.with(r.good[0])
		if !strings.Contains(r.named, "names") {
			x.Names = []string{}
			wantFits(t, x, true)
			x.Names = []string{""}
			wantFits(t, x, false)
		}
		if !strings.Contains(r.named, "op") {
			x = r.with(r.good[0])
			x.Op = -1
			wantFits(t, x, false)
		}
		if !strings.Contains(r.named, "num") {
			x = r.with(r.good[0])
			x.Num = -1 << 63
			wantFits(t, x, false)
		}
	}
}

func manyNames(n int) []string {
	var names []string
	for range n {
		names = append(names, "a")
	}
	return names
}

func TestP2HowManyNames(t *testing.T) {
	most := map[int]int{impl.SLet: 200, impl.SConst: 1, impl.SFn: 1, impl.SFor: 1, impl.SEach: 200, impl.STry: 2, impl.EFn: 200}
	for k, n := range most {
		for _, count := range []int{0, 1, 2, 3, 199, 200, 201, 5000} {
			x := sample(k)
			x.Names = manyNames(count)
			wantFits(t, x, count <= n && (count > 0 || k == impl.EFn))
		}
	}
}

func TestP2Names(t *testing.T) {
	good := []string{"a", "Z", "_", "a9", "If", "iff", strings.Repeat("n", 40)}
	bad := []string{"", "if", "nil", "while", "9", "9a", "a b", "a ", " a", "a.b", "ä", "a\n", "a\x00", "\xff", strings.Repeat("n", 41), strings.Repeat("n", 70000)}
	for _, r := range treeRows {
		for i, name := range append(slices.Clone(good), bad...) {
			x := r.with(r.good[0])
			switch {
			case r.node.Kind == impl.EName || r.node.Kind == impl.EField || r.node.Kind == impl.NNamed:
				x.Text = name
				wantFits(t, x, i < len(good))
			case strings.Contains(r.named, "names"):
				x.Names = []string{name}
				wantFits(t, x, i < len(good))
			}
		}
	}
	for _, k := range []int{impl.SLet, impl.SEach, impl.STry, impl.EFn} {
		x := sample(k)
		for _, names := range [][]string{{"a", "if"}, {"if", "a"}, {"a", ""}, {"a", strings.Repeat("n", 41)}} {
			x.Names = names
			wantFits(t, x, false)
		}
		x.Names = []string{"a", "a"}
		wantFits(t, x, true)
	}
	x := sample(impl.SLet)
	x.Names = append(manyNames(199), "or")
	wantFits(t, x, false)
}

func TestP2Floats(t *testing.T) {
	for _, text := range []string{"0.0", "1.5", "1e5", "0e0", "1.5e-10", "9223372036854775808", strings.Repeat("1", 40), "1." + strings.Repeat("0", 38)} {
		wantFits(t, tw(impl.Node{Kind: impl.EFlt, Text: text}), true)
	}
	for _, text := range []string{
		"", "0", "12", "9223372036854775807", "0x1f", "1.", ".5", "01.5", "1e", "1e+", "-1.5", "1.5 ", " 1.5", "1.5\n", "1E5", "a", "nil", "1.5--",
		strings.Repeat("1", 41), "1." + strings.Repeat("0", 39),
	} {
		wantFits(t, tw(impl.Node{Kind: impl.EFlt, Text: text}), false)
	}
}

func TestP2IntsAndStrings(t *testing.T) {
	for _, num := range []int64{0, 1, -1, 1<<63 - 1, -1 << 63} {
		wantFits(t, tw(impl.Node{Kind: impl.EInt, Num: num}), true)
	}
	for _, content := range []string{"", "a", "if", "\"\n\\\x00\xff", strings.Repeat("a", 4000), strings.Repeat("\xff", 4000)} {
		wantFits(t, tw(impl.Node{Kind: impl.EStr, Text: content}), true)
	}
	for _, content := range []string{strings.Repeat("a", 4001), strings.Repeat("\x00", 70000)} {
		wantFits(t, tw(impl.Node{Kind: impl.EStr, Text: content}), false)
	}
}

func TestP2Operations(t *testing.T) {
	for _, op := range append(span(-1, 25), -1<<63, 1<<63-1, 1<<32+1) {
		x := sample(impl.EBinary)
		x.Op = op
		wantFits(t, x, op >= 1 && op <= 18)
		x = sample(impl.EUnary)
		x.Op = op
		wantFits(t, x, op >= 19 && op <= 22)
		x = sample(impl.EFn)
		x.Op = op
		wantFits(t, x, op == 0 || op == 1)
	}
}

func TestP2Targets(t *testing.T) {
	one, name := kind(impl.ENil), sample(impl.EName)
	for _, num := range []int64{-1 << 63, -1, 0, 1, 2, 3, 4, 1<<63 - 1, 1<<32 + 1} {
		wantFits(t, tw(impl.Node{Kind: impl.SSet, Num: num}, name, name, name), num == 1 || num == 2)
		wantFits(t, tw(impl.Node{Kind: impl.SSet, Num: num}, name, one, name), num == 1)
		wantFits(t, tw(impl.Node{Kind: impl.SSet, Num: num}, one, name, name), false)
	}
}

func TestP2Places(t *testing.T) {
	big := 1<<63 - 1
	for _, r := range treeRows {
		for _, p := range []struct {
			from, to, line int
			fits           bool
		}{
			{0, 0, 0, true}, {0, 1, 0, true}, {1, 1, 1, true}, {5, 9, 2, true}, {big, big, big, true}, {0, big, 0, true},
			{1, 0, 0, false}, {9, 5, 1, false}, {-1, 0, 0, false}, {-1, -1, 0, false}, {-2, -1, 3, false}, {0, -1, 0, false},
			{0, 0, -1, false}, {0, 5, -1 << 63, false}, {-1 << 63, big, 1, false}, {big, 0, 1, false},
		} {
			x := r.with(r.good[0])
			x.From, x.To, x.Line = p.from, p.to, p.line
			wantFits(t, x, p.fits)
		}
	}
	// the last node is no other in this
	for _, n := range []impl.Node{{Kind: 1, From: 1}, {Kind: 1, From: -1}, {Kind: 1, Line: -1}, {Kind: 1, Op: 1}, {Kind: 1, Text: "a"}} {
		wantTree(t, impl.Tree{Nodes: []impl.Node{n}}, 2, 0)
	}
}

// broad is a sound tree of so many nodes, from 202 on.
func broad(size int) impl.Tree {
	root := kind(impl.SBlock)
	for range 200 {
		root.below = append(root.below, kind(impl.SBlock))
	}
	for i := range size - 201 {
		b := &root.below[i%200]
		b.below = append(b.below, kind(impl.SBreak))
	}
	return listed(root)
}

func TestP2TheList(t *testing.T) {
	wantTree(t, impl.Tree{}, 1, 0)
	wantTree(t, impl.Tree{Nodes: []impl.Node{}}, 1, 0)
	wantTree(t, impl.Tree{Nodes: []impl.Node{{Kind: impl.SBlock}}}, 0, 0)
	wantTree(t, broad(2999), 0, 0)
	wantTree(t, broad(3000), 0, 0)
	wantTree(t, broad(3001), 1, 0)
	wantTree(t, broad(9000), 1, 0)
	for _, r := range treeRows {
		if r.node.Kind != impl.SBlock {
			wantTree(t, listed(r.with(r.good[0])), 1, 0)
		}
	}
	for _, k := range []int{-1, 0, 17, 43} {
		wantTree(t, impl.Tree{Nodes: []impl.Node{{Kind: impl.SBlock}, {Kind: k, Kids: []int{0}}}}, 1, 0)
	}
}

func TestP2KidsThatAreNotAhead(t *testing.T) {
	// break, {break}, the text
	for _, kid := range []int{-1 << 63, -2, -1, 1, 2, 3, 1<<63 - 1} {
		x := text(kind(impl.SBlock, kind(impl.SBreak)))
		x.Nodes[1].Kids = []int{kid}
		wantTree(t, x, 2, 1)
		x.Nodes[1].Kids = []int{0, kid}
		wantTree(t, x, 2, 1)
	}
	for _, kid := range []int{-1, 0, 1} {
		wantTree(t, impl.Tree{Nodes: []impl.Node{{Kind: impl.SBlock, Kids: []int{kid}}}}, 2, 0)
	}
}

func TestP2Order(t *testing.T) {
	stop, call := kind(impl.SBreak), sample(impl.ECall)
	join := tw(impl.Node{Kind: impl.EBinary, Op: impl.OpJoin}, call, kind(impl.EUnary, kind(impl.ENil)))
	join.below[1].Op = impl.OpNot
	// f, f(), nil, not, .., throw, break, the text
	good := text(kind(impl.SThrow, join), stop)
	wantTree(t, good, 0, 0)
	for _, c := range []struct {
		node int
		kids []int
		code int
		at   int
	}{
		{4, []int{3, 1}, 3, 4}, // the kids the wrong way round
		{4, []int{0, 3}, 3, 4}, // a grandkid for a kid
		{4, []int{1, 2}, 3, 4}, // a node between the last kid and this one
		{4, []int{3, 3}, 3, 4}, // twice the same
		{4, []int{1, 1}, 3, 4},
		{5, []int{3}, 3, 5}, // below another one too
		{5, []int{0}, 3, 5},
		{7, []int{6}, 3, 7}, // a node that stands below none
		{7, []int{5}, 3, 7},
		{7, nil, 3, 7},
		{7, []int{6, 5}, 3, 7},
		{7, []int{5, 6, 6}, 3, 7},
		{7, []int{5, 5, 6}, 3, 7},
		{4, []int{1, 3, 3}, 2, 4}, // no order makes up for a wrong number
		{5, []int{5}, 2, 5},
		{6, []int{5}, 2, 6},
		{7, []int{4, 6}, 2, 7},
		{7, []int{5, 6, 7}, 2, 7},
		{7, []int{-1, 5, 6}, 2, 7},
		{3, []int{1}, 3, 3}, // ahead of the kid's own parent
		{1, []int{0, 0}, 3, 1},
		{1, []int{0, 0, 0, 0}, 3, 1},
	} {
		x := impl.Bare(good)
		x.Nodes[c.node].Kids = c.kids
		wantTree(t, x, c.code, c.at)
	}
}

func TestP2TheSmallestTreeOfEachCode(t *testing.T) {
	wantTree(t, impl.Tree{}, 1, 0)
	wantTree(t, impl.Tree{Nodes: []impl.Node{{Kind: impl.SBlock, Num: 1}}}, 2, 0)
	wantTree(t, impl.Tree{Nodes: []impl.Node{{Kind: impl.SBreak}, {Kind: impl.SBlock}}}, 3, 1)
	wantTree(t, impl.Tree{Nodes: []impl.Node{{Kind: impl.SBreak}, {Kind: impl.SBlock, Kids: []int{0, 0}}}}, 3, 1)
	wantTree(t, chain(101), 4, 0)
}

func TestP2NodesBelowTwoAreNotGoneThroughTwice(t *testing.T) {
	x := impl.Tree{Nodes: []impl.Node{{Kind: impl.ENil}}}
	for i := range 2997 {
		x.Nodes = append(x.Nodes, impl.Node{Kind: impl.EAnd, Kids: []int{i, i}})
	}
	x.Nodes = append(x.Nodes, impl.Node{Kind: impl.SThrow, Kids: []int{2997}}, impl.Node{Kind: impl.SBlock, Kids: []int{2998}})
	wantTree(t, x, 3, 1)
	if got := impl.Path(x, 0); len(got) != 0 {
		t.Error(got)
	}
}

// chain is a tree in which a nil stands at this depth.
func chain(depth int) impl.Tree {
	x := kind(impl.ENil)
	for range depth - 2 {
		x = tw(impl.Node{Kind: impl.EUnary, Op: impl.OpNot}, x)
	}
	return text(kind(impl.SThrow, x))
}

func TestP2Depth(t *testing.T) {
	for _, depth := range []int{2, 99, 100} {
		wantTree(t, chain(depth), 0, 0)
	}
	for _, depth := range []int{101, 102, 150, 2990} {
		wantTree(t, chain(depth), 4, 0)
	}
	blocks := func(depth int) twig {
		x := kind(impl.SBlock)
		for range depth {
			x = kind(impl.SBlock, x)
		}
		return x
	}
	wantTree(t, listed(blocks(100)), 0, 0)
	wantTree(t, listed(blocks(101)), 4, 0)
	// nodes ahead that stand deep enough, and nodes behind that stand too deep as well
	wantTree(t, text(blocks(99), kind(impl.SBreak), blocks(99)), 0, 0)
	wantTree(t, text(blocks(99), kind(impl.SBreak), blocks(100)), 4, 101)
	wantTree(t, text(blocks(5), blocks(101), blocks(105)), 4, 6)
	// the first node of those that stand too deep is the innermost
	wantTree(t, text(blocks(102)), 4, 0)
}

func TestP2TwoFaults(t *testing.T) {
	deep, wide := chain(101), broad(3001)
	set := func(x impl.Tree, node int, change func(*impl.Node)) impl.Tree {
		x = impl.Bare(x)
		change(&x.Nodes[node])
		return x
	}
	spoilt := func(n *impl.Node) { n.Op = 99 }
	twice := func(n *impl.Node) { n.Kids = append(n.Kids, n.Kids...) }
	small := text(kind(impl.SBlock, kind(impl.SBreak)), kind(impl.SBlock, kind(impl.SNext)))

	wantTree(t, set(wide, 0, spoilt), 1, 0)
	wantTree(t, set(set(small, 4, func(n *impl.Node) { n.Kind = impl.SLet }), 0, spoilt), 1, 0)
	wantTree(t, set(deep, len(deep.Nodes)-2, spoilt), 2, len(deep.Nodes)-2)
	wantTree(t, set(deep, len(deep.Nodes)-1, spoilt), 2, len(deep.Nodes)-1)
	wantTree(t, set(deep, len(deep.Nodes)-1, twice), 3, len(deep.Nodes)-1)
	wantTree(t, set(set(small, 1, twice), 4, spoilt), 2, 4)
	wantTree(t, set(set(small, 3, spoilt), 1, spoilt), 2, 1)
	wantTree(t, set(set(small, 3, twice), 1, twice), 3, 1)
	wantTree(t, set(set(small, 3, twice), 4, twice), 3, 3)
	wantTree(t, set(set(small, 2, spoilt), 2, func(n *impl.Node) { n.Kids = []int{2} }), 2, 2)
}

// slowFault is a second reading of chapter 2, for lists of a few nodes.
func slowFault(x impl.Tree) impl.Fault {
	last := len(x.Nodes) - 1
	if last < 0 || last >= 3000 || x.Nodes[last].Kind != 1 {
		return impl.Fault{Code: 1}
	}
	for n := range x.Nodes {
		if !slowFits(x, n) {
			return impl.Fault{Code: 2, Node: n}
		}
	}
	for n := range x.Nodes {
		below := slowBelow(x, n)
		if !slices.Equal(below, span(n-len(below), n-1)) || n == last && len(below) < last {
			return impl.Fault{Code: 3, Node: n}
		}
	}
	for n := range x.Nodes {
		if slowDepth(x, n) > 100 {
			return impl.Fault{Code: 4, Node: n}
		}
	}
	return impl.Fault{}
}

func slowBelow(x impl.Tree, n int) []int {
	var below []int
	for _, kid := range x.Nodes[n].Kids {
		below = append(append(below, slowBelow(x, kid)...), kid)
	}
	return below
}

func slowDepth(x impl.Tree, n int) int {
	for parent, p := range x.Nodes {
		if slices.Contains(p.Kids, n) {
			return slowDepth(x, parent) + 1
		}
	}
	return 0
}

// slowFits looks for a row of the tables that a node is as; names, floats and ops are few enough here to be told by eye.
func slowFits(x impl.Tree, n int) bool {
	node := x.Nodes[n]
	var kinds []int
	for _, kid := range node.Kids {
		if kid < 0 || kid >= n {
			return false
		}
		kinds = append(kinds, x.Nodes[kid].Kind)
	}
	if node.From < 0 || node.To < node.From || node.Line < 0 || len(node.Kids) > 200 || len(node.Names) > 200 {
		return false
	}
	for _, r := range treeRows {
		if r.node.Kind == node.Kind && slowFields(r, node) && slowKids(node, kinds) {
			return true
		}
	}
	return false
}

func slowFields(r treeRow, n impl.Node) bool {
	named := func(field string) bool { return strings.Contains(r.named, field) }
	if !named("op") && n.Op != 0 || !named("num") && n.Num != 0 || !named("text") && n.Text != "" || !named("names") && len(n.Names) > 0 {
		return false
	}
	isName := func(s string) bool { return s == "a" || s == "b" }
	for _, name := range n.Names {
		if !isName(name) {
			return false
		}
	}
	switch n.Kind {
	case impl.SLet, impl.SEach:
		return len(n.Names) > 0
	case impl.SConst, impl.SFn, impl.SFor:
		return len(n.Names) == 1
	case impl.STry:
		return len(n.Names) == 1 || len(n.Names) == 2
	case impl.EName, impl.EField, impl.NNamed:
		return isName(n.Text)
	case impl.EFlt:
		return n.Text == "1.5"
	case impl.EUnary:
		return 18 < n.Op && n.Op < 23
	case impl.EBinary:
		return 0 < n.Op && n.Op < 19
	case impl.EFn:
		return n.Op == 0 || n.Op == 1
	}
	return true
}

func slowKids(n impl.Node, kinds []int) bool {
	all := func(letter byte, some []int) bool {
		for _, k := range some {
			if !slices.Contains(standing[letter], k) {
				return false
			}
		}
		return true
	}
	row := func(letters string) bool {
		if len(letters) != len(kinds) {
			return false
		}
		for i := range len(letters) {
			if !all(letters[i], kinds[i:i+1]) {
				return false
			}
		}
		return true
	}
	switch n.Kind {
	case impl.SBlock:
		return all('s', kinds)
	case impl.SLet, impl.SReturn:
		return all('e', kinds)
	case impl.ETable:
		return all('n', kinds)
	case impl.ECall:
		return len(kinds) > 0 && all('h', kinds[:1]) && all('e', kinds[1:])
	case impl.SSet:
		return n.Num >= 1 && n.Num < int64(len(kinds)) && all('t', kinds[:n.Num]) && all('e', kinds[n.Num:])
	}
	for _, r := range treeRows {
		if r.node.Kind == n.Kind && slices.ContainsFunc(r.good, row) {
			return true
		}
	}
	return false
}

// dice is a row of numbers that is always the same.
type dice uint64

func (d *dice) roll(n int) int {
	*d = *d*6364136223846793005 + 1442695040888963407
	return int(uint64(*d)>>33) % n
}

// grown is a twig of a Kind for a letter, with kids that the dice choose, as deep as size allows.
func (d *dice) grown(letter byte, size int) twig {
	kinds := standing[letter]
	var rows []treeRow
	for _, r := range treeRows {
		if slices.Contains(kinds, r.node.Kind) && r.node.Num < 100 {
			rows = append(rows, r)
		}
	}
	r := rows[d.roll(len(rows))]
	kids := r.good[d.roll(min(len(r.good), 3))]
	if size <= 0 {
		kids = r.good[0]
	}
	x := tw(r.node)
	switch x.Kind {
	case impl.EBinary:
		x.Op = 1 + d.roll(18)
	case impl.EUnary:
		x.Op = 19 + d.roll(4)
	case impl.EFn:
		x.Op = d.roll(2)
		x.Names = manyNames(d.roll(3))
	case impl.SLet, impl.STry, impl.SEach:
		x.Names = []string{"a", "b"}[:1+d.roll(2)]
	}
	for i := range len(kids) {
		if size <= 0 {
			x.below = append(x.below, sample(standing[kids[i]][0]))
		} else {
			x.below = append(x.below, d.grown(kids[i], size-1-d.roll(2)))
		}
	}
	return x
}

// spoil changes something about one node.
func (d *dice) spoil(x *impl.Tree) {
	n := &x.Nodes[d.roll(len(x.Nodes))]
	switch d.roll(12) {
	case 0:
		n.Kind = d.roll(45)
	case 1:
		n.Op = d.roll(25) - 1
	case 2:
		n.Num = int64(d.roll(4)) - 1
	case 3:
		n.Text = []string{"", "a", "b", "if", "1.5"}[d.roll(5)]
	case 4:
		n.Names = [][]string{nil, {"a"}, {"a", "b"}, {"if"}, {"b", ""}}[d.roll(5)]
	case 5:
		n.From, n.To, n.Line = d.roll(4)-1, d.roll(4), d.roll(4)-1
	case 6:
		n.Kids = append(slices.Clone(n.Kids), d.roll(len(x.Nodes)))
	case 7:
		n.Kids = n.Kids[:len(n.Kids)/2]
	case 8:
		n.Kids = slices.Clone(n.Kids)
		slices.Reverse(n.Kids)
	case 9, 10:
		n.Kids = slices.Clone(n.Kids)
		for i := range n.Kids {
			n.Kids[i] += d.roll(3) - 1
		}
	case 11:
		cut := d.roll(len(x.Nodes))
		x.Nodes = slices.Delete(x.Nodes, cut, cut+1)
	}
}

func TestP2TreesOfChanceByASecondReading(t *testing.T) {
	var d dice = 2
	seen := map[impl.Fault]int{}
	for range 20000 {
		x := text(d.grown('s', d.roll(4)), d.grown('s', d.roll(3)))
		if got := impl.TreeOk(x); got != (impl.Fault{}) {
			t.Fatalf("%+v of a sound tree %+v", got, x)
		}
		for range 1 + d.roll(3) {
			if len(x.Nodes) > 0 {
				d.spoil(&x)
			}
		}
		want := slowFault(x)
		seen[impl.Fault{Code: want.Code}]++
		if got := impl.TreeOk(x); got != want {
			t.Fatalf("%+v, want %+v, of %+v", got, want, x)
		}
	}
	for code := range 4 {
		if seen[impl.Fault{Code: code}] < 50 {
			t.Errorf("code %d came %d times", code, seen[impl.Fault{Code: code}])
		}
	}
}

// copied is a tree with no memory of the one that it is a copy of.
func copied(x impl.Tree) impl.Tree {
	y := impl.Tree{}
	for _, n := range x.Nodes {
		n.Names = append([]string(nil), n.Names...)
		n.Kids = append([]int(nil), n.Kids...)
		y.Nodes = append(y.Nodes, n)
	}
	return y
}

// sameTree tells whether two trees are the same, with nil for an empty list or not.
func sameTree(x, y impl.Tree) bool {
	return len(x.Nodes) == len(y.Nodes) && reflect.DeepEqual(copied(x), copied(y))
}

func TestP2TreeOkLeavesItsArgument(t *testing.T) {
	var d dice = 3
	for range 300 {
		x := text(d.grown('s', 3))
		d.spoil(&x)
		before := copied(x)
		first := impl.TreeOk(x)
		impl.Path(x, 0)
		impl.Bare(x)
		if !sameTree(x, before) || impl.TreeOk(x) != first {
			t.Fatalf("%+v was %+v", x, before)
		}
	}
}

func wantBare(t *testing.T, x impl.Tree) {
	t.Helper()
	want := copied(x)
	for i := range want.Nodes {
		want.Nodes[i].From, want.Nodes[i].To, want.Nodes[i].Line = 0, 0, 0
	}
	if got := impl.Bare(x); !sameTree(got, want) {
		t.Fatalf("%+v, want %+v", got, want)
	}
}

func TestP2Bare(t *testing.T) {
	var d dice = 4
	for range 1000 {
		x := text(d.grown('s', 3), d.grown('s', 2))
		for range d.roll(4) {
			d.spoil(&x)
		}
		for i := range x.Nodes {
			x.Nodes[i].From, x.Nodes[i].To, x.Nodes[i].Line = d.roll(9)-1, d.roll(9)-1, d.roll(9)-1
		}
		wantBare(t, x)
	}
	for _, x := range []impl.Tree{{}, {Nodes: []impl.Node{}}} {
		if got := impl.Bare(x); len(got.Nodes) != 0 {
			t.Error(got)
		}
	}
	odd := impl.Tree{Nodes: []impl.Node{
		{Kind: -5, From: -1, To: -2, Line: -3, Op: -4, Num: -6, Text: "\xff", Names: []string{"", "if"}, Kids: []int{-9, 0, 99}},
		{Kind: 99, From: 3, Op: 1 << 62, Num: -1 << 63, Names: manyNames(300), Kids: make([]int, 300)},
	}}
	wantBare(t, odd)
	if got := impl.Bare(broad(9000)); len(got.Nodes) != 9000 {
		t.Error(len(got.Nodes))
	}
}

func TestP2BareSharesNoMemory(t *testing.T) {
	shared := []int{0, 0}
	names := []string{"a", "b"}
	x := impl.Tree{Nodes: []impl.Node{
		{Kind: 26, Text: "x"}, {Kind: 28, Kids: shared}, {Kind: 2, Names: names}, {Kind: 36, Names: names, Kids: shared}, {Kind: 1},
	}}
	got := impl.Bare(x)
	before := copied(x)
	scribble := func(y impl.Tree) {
		for i := range y.Nodes {
			y.Nodes[i].Kind, y.Nodes[i].Text = 99, "y"
			for j := range y.Nodes[i].Kids {
				y.Nodes[i].Kids[j] = 77
			}
			for j := range y.Nodes[i].Names {
				y.Nodes[i].Names[j] = "y"
			}
		}
	}
	scribble(got)
	if !sameTree(x, before) {
		t.Errorf("the argument is seen to change: %+v", x)
	}
	got = impl.Bare(x)
	scribble(x)
	if !sameTree(got, before) {
		t.Errorf("the answer is seen to change: %+v", got)
	}
	got.Nodes[1].Kids[0], got.Nodes[2].Names[0] = 5, "z"
	if got.Nodes[3].Kids[0] != 0 || got.Nodes[3].Names[0] != "a" {
		t.Errorf("two lists of the answer share memory: %+v", got)
	}
	_ = append(got.Nodes[1].Kids, 1)
	_ = append(got.Nodes[2].Names, "c")
	if !slices.Equal(got.Nodes[3].Kids, []int{0, 0}) || !slices.Equal(got.Nodes[3].Names, []string{"a", "b"}) {
		t.Errorf("two lists of the answer share memory: %+v", got)
	}
}

func wantPath(t *testing.T, x impl.Tree, at int, want ...int) {
	t.Helper()
	if got := impl.Path(x, at); !slices.Equal(got, want) {
		t.Errorf("Path at %d: %v, want %v", at, got, want)
	}
}

// at gives a twig its places.
func (x twig) at(from, to int) twig {
	x.From, x.To, x.Line = from, to, 1
	return x
}

func TestP2Path(t *testing.T) {
	// " if a { break } else {} -- r"
	x := text(kind(impl.SIf,
		sample(impl.EName).at(4, 5),
		kind(impl.SBlock, kind(impl.SBreak).at(8, 13)).at(6, 15),
		kind(impl.SBlock).at(21, 23),
	).at(1, 23))
	x.Nodes[5].To = 28
	wantTree(t, x, 0, 0)
	for at := range 28 {
		switch {
		case at == 4:
			wantPath(t, x, at, 5, 4, 0)
		case at >= 8 && at < 13:
			wantPath(t, x, at, 5, 4, 2, 1)
		case at >= 6 && at < 15:
			wantPath(t, x, at, 5, 4, 2)
		case at == 21 || at == 22:
			wantPath(t, x, at, 5, 4, 3)
		case at >= 1 && at < 23:
			wantPath(t, x, at, 5, 4)
		default:
			wantPath(t, x, at, 5)
		}
	}
	for _, at := range []int{-1 << 63, -2, -1, 28, 29, 1<<63 - 1} {
		wantPath(t, x, at)
	}
}

func TestP2PathWherePlacesOverlap(t *testing.T) {
	pair := func(a, b, whole twig) impl.Tree {
		x := text(kind(impl.SReturn, a, b))
		x.Nodes[2].From, x.Nodes[2].To = whole.From, whole.To
		x.Nodes[3].From, x.Nodes[3].To = 0, 20
		return x
	}
	leaf := kind(impl.ENil)
	x := pair(leaf.at(2, 6), leaf.at(4, 8), leaf.at(0, 10))
	wantPath(t, x, 3, 3, 2, 0)
	wantPath(t, x, 4, 3, 2, 0)
	wantPath(t, x, 5, 3, 2, 0)
	wantPath(t, x, 6, 3, 2, 1)
	wantPath(t, x, 8, 3, 2)
	x = pair(leaf.at(4, 8), leaf.at(4, 8), leaf.at(0, 10))
	wantPath(t, x, 4, 3, 2, 0)
	// an empty node has no place, and one outside its parent is not come to
	x = pair(leaf.at(4, 4), leaf.at(12, 15), leaf.at(0, 10))
	wantPath(t, x, 4, 3, 2)
	wantPath(t, x, 12, 3)
	// no kid is looked into when the node itself has not got the place
	x.Nodes[3].To = 0
	wantPath(t, x, 0)
	wantPath(t, x, 4)
	x.Nodes[3].From, x.Nodes[3].To = 5, 1<<63-1
	wantPath(t, x, 4)
	wantPath(t, x, 5, 3, 2)
	wantPath(t, x, 1<<63-2, 3)
	wantPath(t, x, 1<<63-1)
}

func TestP2PathOfTreesThatAreNotSound(t *testing.T) {
	x := text(kind(impl.SThrow, kind(impl.ENil).at(1, 5)).at(0, 5))
	x.Nodes[2].To = 9
	wantPath(t, x, 2, 2, 1, 0)
	for _, change := range []func(*impl.Tree){
		func(x *impl.Tree) { x.Nodes = nil },
		func(x *impl.Tree) { x.Nodes = x.Nodes[:2] },
		func(x *impl.Tree) { x.Nodes[0].Text = "a" },
		func(x *impl.Tree) { x.Nodes[0].From = 6 },
		func(x *impl.Tree) { x.Nodes[1].Kids = []int{1} },
		func(x *impl.Tree) { x.Nodes[1].Kids = []int{-1} },
		func(x *impl.Tree) { x.Nodes[2].Kids = []int{2} },
		func(x *impl.Tree) { x.Nodes[2].Kids = nil },
		func(x *impl.Tree) { x.Nodes[2].Kids = []int{1, 1} },
	} {
		y := copied(x)
		change(&y)
		wantPath(t, y, 2)
	}
	for depth, want := range map[int]int{100: 101, 101: 0} {
		x := chain(depth)
		for i := range x.Nodes {
			x.Nodes[i].To = 1
		}
		if got := impl.Path(x, 0); len(got) != want {
			t.Errorf("depth %d: %v", depth, got)
		}
	}
}
