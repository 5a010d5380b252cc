package tests

import (
	"slices"
	"strings"
	"testing"

	"loop.example/warp/impl"
)

// wantNothing fails unless Print gives nothing.
func wantNothing(t *testing.T, x impl.Tree) {
	t.Helper()
	if got := impl.Print(x); got != "" {
		t.Fatalf("%d bytes of a tree of %d nodes, want none: %.200q", len(got), len(x.Nodes), got)
	}
}

// behindFn is a tree with a fn ahead of its first statement, and all else, its faults too, as it was.
func behindFn(x impl.Tree) impl.Tree {
	if len(x.Nodes) == 0 {
		return x
	}
	var nodes []impl.Node
	fn := lay(&nodes, withNames(impl.SFn, "f", fnOf("")))
	for _, n := range copied(x).Nodes {
		for i, kid := range n.Kids {
			if kid >= 0 {
				n.Kids[i] += fn + 1
			}
		}
		nodes = append(nodes, n)
	}
	last := &nodes[len(nodes)-1]
	last.Kids = append([]int{fn}, last.Kids...)
	return impl.Tree{Nodes: nodes}
}

// wantUnsound fails unless a tree is not sound, and nothing is given for it, nor for it behind a fn that Outline would tell.
func wantUnsound(t *testing.T, x impl.Tree) {
	t.Helper()
	for _, x := range []impl.Tree{x, behindFn(x)} {
		if impl.TreeOk(x).Code == 0 {
			t.Fatalf("a sound tree of %d nodes: %+v", len(x.Nodes), x)
		}
		wantNothing(t, x)
		if got := impl.Dump(x); got != "" {
			t.Fatalf("Dump of a tree of %d nodes: %d bytes, want none: %.200q", len(x.Nodes), len(got), got)
		}
		if got := impl.Outline(x); len(got) != 0 {
			t.Fatalf("Outline of a tree of %d nodes: %+v, want nothing", len(x.Nodes), got)
		}
	}
}

func TestP10NothingForTheFaultsOfTheList(t *testing.T) {
	wantUnsound(t, impl.Tree{})
	wantUnsound(t, impl.Tree{Nodes: []impl.Node{}})
	wantComesBack(t, broad(3000))
	wantUnsound(t, broad(3001))
	wantUnsound(t, broad(9000))
	for _, r := range treeRows {
		if r.node.Kind != impl.SBlock {
			wantUnsound(t, listed(r.with(r.good[0])))
		}
	}
	for _, k := range []int{-1 << 63, -1, 0, 17, 19, 38, 43, 1<<63 - 1} {
		wantUnsound(t, impl.Tree{Nodes: []impl.Node{{Kind: impl.SBreak}, {Kind: k, Kids: []int{0}}}})
	}
}

// Each node that is not as the tables say stands in a tree that is sound otherwise.
func TestP10NothingForTheFaultsOfANode(t *testing.T) {
	for _, r := range treeRows {
		for _, kids := range r.wrong {
			x, _ := held(r.with(kids))
			wantUnsound(t, x)
		}
		good, place := held(r.with(r.good[0]))
		if impl.Print(good) == "" && len(good.Nodes) > 1 {
			t.Fatalf("nothing for a sound tree: %+v", good)
		}
		for name, change := range map[string]func(*impl.Node){
			"Kind below": func(n *impl.Node) { n.Kind = -1 },
			"Kind 0":     func(n *impl.Node) { n.Kind = 0 },
			"no Kind":    func(n *impl.Node) { n.Kind = 38 },
			"Kind above": func(n *impl.Node) { n.Kind = 43 },
			"great Kind": func(n *impl.Node) { n.Kind = 1<<63 - 1 },
			"From":       func(n *impl.Node) { n.From = -1 },
			"To":         func(n *impl.Node) { n.From, n.To = 2, 1 },
			"Line":       func(n *impl.Node) { n.Line = -1 },
			"Op":         func(n *impl.Node) { n.Op = 23 },
			"Op below":   func(n *impl.Node) { n.Op = -1 },
			"Text":       func(n *impl.Node) { n.Text = strings.Repeat("7", 4001) },
			"Names":      func(n *impl.Node) { n.Names = []string{"if"} },
			"many Names": func(n *impl.Node) { n.Names = manyNames(201) },
			"own kid":    func(n *impl.Node) { n.Kids = append(slices.Clone(n.Kids), place) },
			"later kid":  func(n *impl.Node) { n.Kids = append(slices.Clone(n.Kids), place+1) },
			"no kid":     func(n *impl.Node) { n.Kids = append(slices.Clone(n.Kids), -1) },
			"far kid":    func(n *impl.Node) { n.Kids = append(slices.Clone(n.Kids), 1<<63-1) },
			"many Kids":  func(n *impl.Node) { n.Kids = make([]int, 201) },
		} {
			x := copied(good)
			change(&x.Nodes[place])
			if impl.TreeOk(x).Code == 0 {
				t.Fatalf("%s: the tree is sound: %+v", name, x)
			}
			wantUnsound(t, x)
		}
		for i := range min(len(r.good[0]), 4) {
			for _, k := range everyKind {
				if !slices.Contains(standing[r.good[0][i]], k) {
					x := r.with(r.good[0])
					x.below[i] = sample(k)
					wrong, _ := held(x)
					wantUnsound(t, wrong)
				}
			}
		}
	}
	wantUnsound(t, text(setOf(0, aName, bName)))
	wantUnsound(t, text(setOf(2, aName, bName)))
	wantUnsound(t, text(setOf(-1, aName, bName)))
	wantUnsound(t, text(throwOf(callOf(restOf))))
	wantUnsound(t, text(throwOf(fieldOf(restOf, "a"))))
	wantUnsound(t, text(throwOf(indexOf(restOf, aName))))
	wantUnsound(t, text(throwOf(oneOf(aName))))
	wantUnsound(t, text(doOf(oneOf(fCall))))
}

func TestP10NothingForNodesOutOfOrder(t *testing.T) {
	// a, b, .., throw, break, the text
	good := text(throwOf(infixOf("..", aName, bName)), stopStat)
	wantSameText(t, impl.Print(good), "throw a .. b\nbreak\n")
	for node, lists := range map[int][][]int{
		2: {{1, 0}, {0, 0}, {1, 1}},
		3: {{0}, {1}},
		5: {{4, 3}, {3}, {4}, nil, {3, 3, 4}, {3, 4, 4}},
	} {
		for _, kids := range lists {
			x := copied(good)
			x.Nodes[node].Kids = kids
			if impl.TreeOk(x).Code != 3 {
				t.Fatalf("%+v has another fault", x)
			}
			wantUnsound(t, x)
		}
	}
	wantUnsound(t, impl.Tree{Nodes: []impl.Node{{Kind: impl.SBreak}, {Kind: impl.SBlock}}})
}

func TestP10NothingForNodesTooDeep(t *testing.T) {
	wantComesBack(t, chain(100))
	wantUnsound(t, chain(101))
	wantUnsound(t, chain(2990))
}

func TestP10SpoiltTreesOfChance(t *testing.T) {
	t.Parallel()
	var d dice = 24
	seen := map[int]int{}
	for range 6000 {
		x := text(d.grown('s', d.roll(4)), d.grown('s', d.roll(3)))
		for range 1 + d.roll(3) {
			if len(x.Nodes) > 0 {
				d.spoil(&x)
			}
		}
		code := slowFault(x).Code
		seen[code]++
		if code != 0 {
			wantUnsound(t, x)
		} else {
			wantComesBack(t, x)
		}
	}
	for code := range 4 {
		if seen[code] < 50 {
			t.Errorf("code %d came %d times", code, seen[code])
		}
	}
}

// filled makes the strings of a root longer until its text has so many bytes; each byte that it puts in has size bytes there.
func filled(t *testing.T, root twig, total int, content string, size int) twig {
	t.Helper()
	missing := total - len(pennedText(root))
	var fill func(x twig) twig
	fill = func(x twig) twig {
		if x.Kind == impl.EStr {
			n := min(4000-len(x.Text), missing/size)
			x.Text += strings.Repeat(content, n)
			missing -= n * size
			// what is left over is less than one more, and is made up by bytes that stand for themselves
			for missing > 0 && missing < size && len(x.Text) < 4000 {
				x.Text += "q"
				missing--
			}
		}
		x.below = slices.Clone(x.below)
		for i := range x.below {
			x.below[i] = fill(x.below[i])
		}
		return x
	}
	root = fill(root)
	if got := len(pennedText(root)); got != total {
		t.Fatalf("%d bytes, not %d", got, total)
	}
	return root
}

// longRoots is roots with some empty strings, whose texts end in different ways.
func longRoots() map[string]twig {
	var thrown, items []twig
	for range 17 {
		thrown = append(thrown, throwOf(stringOf("")))
		items = append(items, itemOf(stringOf("")))
	}
	deep := blockOf(thrown...)
	for range 60 {
		deep = blockOf(deep)
	}
	return map[string]twig{
		"statements": blockOf(thrown...),
		"a block":    blockOf(blockOf(thrown...)),
		"deep":       blockOf(deep),
		"a table":    blockOf(throwOf(kind(impl.ETable, items...))),
		"a fn":       blockOf(throwOf(callOf(fName, fnOf("a b ...", thrown...)))),
		"last":       blockOf(append(slices.Clone(thrown), stopStat)...),
		"first":      blockOf(append([]twig{withNames(impl.SLet, strings.Repeat("name ", 200))}, thrown...)...),
		"empty last": blockOf(append(slices.Clone(thrown), blockOf(), kind(impl.SReturn))...),
	}
}

func TestP10TextsOfJustMaxText(t *testing.T) {
	t.Parallel()
	for name, root := range longRoots() {
		for content, size := range map[string]int{"q": 1, "\"": 2, "\x00": 4} {
			for _, total := range []int{65534, 65535, 65536} {
				long := filled(t, root, total, content, size)
				wantPenned(t, long)
				if got := impl.Print(listed(long)); len(got) != total {
					t.Fatalf("%s: %d bytes, want %d", name, len(got), total)
				}
				wantComesBack(t, listed(long))
			}
			for _, total := range []int{65537, 65538, 65539, 65600, 67000} {
				wantNothing(t, listed(filled(t, root, total, content, size)))
			}
		}
	}
}

func TestP10TextsOfFarMoreThanMaxText(t *testing.T) {
	full := strings.Repeat("\xff", 4000)
	root := kind(impl.SBlock)
	for range 200 {
		stat := kind(impl.SReturn)
		for range 13 {
			stat.below = append(stat.below, stringOf(full))
		}
		root.below = append(root.below, stat)
	}
	wantTree(t, listed(root), 0, 0)
	wantNothing(t, listed(root))
	// a long piece in the midst, with pieces behind it that would find room
	wantNothing(t, listed(blockOf(throwOf(stringOf(full)), throwOf(stringOf(full)), throwOf(stringOf(full)), throwOf(stringOf(full)),
		throwOf(stringOf(full[:500])), stopStat)))
	names := strings.Fields(strings.Repeat(strings.Repeat("n", 40)+" ", 200))
	many := kind(impl.SBlock)
	for range 8 {
		many.below = append(many.below, tw(impl.Node{Kind: impl.SLet, Names: names}))
	}
	wantNothing(t, listed(many))
	many.below = many.below[:7]
	wantPenned(t, many)
	// tabs count: these breaks would find room without them
	deep := blockOf(slices.Repeat([]twig{stopStat}, 200)...)
	deep = blockOf(slices.Repeat([]twig{deep}, 5)...)
	for range 90 {
		deep = blockOf(deep)
	}
	wantNothing(t, text(deep))
}

func TestP12PrintWritesIntoNoTree(t *testing.T) {
	var d dice = 25
	for range 400 {
		x := text(d.grown('s', 4), d.grown('s', 3))
		if d.roll(4) == 0 {
			d.spoil(&x)
		}
		// behind each list there is memory of the caller's
		for i := range x.Nodes {
			n := &x.Nodes[i]
			n.Names = append(slices.Clone(n.Names), "over", "over")[:len(n.Names)]
			n.Kids = append(slices.Clone(n.Kids), 77, 77)[:len(n.Kids)]
		}
		before := copied(x)
		first := impl.Print(x)
		if !sameTree(x, before) {
			t.Fatalf("%+v was %+v", x, before)
		}
		for _, n := range x.Nodes {
			names, kids := n.Names[:len(n.Names)+2], n.Kids[:len(n.Kids)+2]
			if names[len(n.Names)] != "over" || names[len(n.Names)+1] != "over" || kids[len(n.Kids)] != 77 || kids[len(n.Kids)+1] != 77 {
				t.Fatalf("behind the lists of %+v stand %v and %v", n, names, kids)
			}
		}
		wantSameText(t, impl.Print(x), first)
		// what is printed stays as it is, whatever becomes of the tree
		kept := strings.Clone(first)
		for i := range x.Nodes {
			x.Nodes[i].Text = "y"
			for j := range x.Nodes[i].Names {
				x.Nodes[i].Names[j] = "y"
			}
		}
		wantSameText(t, first, kept)
	}
}
