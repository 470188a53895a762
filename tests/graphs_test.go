package tests

import (
	"fmt"
	"math"
	"math/rand"
	"slices"
	"testing"

	"loop.example/g00973/impl"
)

// graphOf returns a graph with the given nodes, 2 workers and capacity 3.
func graphOf(nodes ...impl.Node) impl.Graph {
	return impl.Graph{Nodes: nodes, Workers: 2, Cap: 3}
}

// loopGraph returns a valid graph with one loop: 1, 2, 3.
func loopGraph() impl.Graph {
	return graphOf(
		nodeOf(impl.OpIn, 0, 0, 1),
		nodeOf(impl.OpMin, 0, 0, 2, 4),
		nodeOf(impl.OpMove, 1, 0, 3),
		nodeOf(impl.OpBack, 0, 0, 1),
		nodeOf(impl.OpOut, 0, 0),
	)
}

// loopWith returns loopGraph with another node in place of one of its own.
func loopWith(op int, x impl.Node) impl.Graph {
	g := loopGraph()
	g.Nodes[op] = x
	return g
}

// loopAnd returns loopGraph with more outputs behind it.
func loopAnd(more int) impl.Graph {
	g := loopGraph()
	for range more {
		g.Nodes = append(g.Nodes, nodeOf(impl.OpOut, 0, 0))
	}
	return g
}

// loopSized returns loopGraph with other numbers of workers and credits.
func loopSized(workers int, limit int) impl.Graph {
	g := loopGraph()
	g.Workers, g.Cap = workers, limit
	return g
}

// doubleLoop returns a valid graph of eight nodes: the loops 1, 2, 3 and 1, 2, 4, 5, 6 share the nodes 1 and 2, node 5 is its own loop with 6, and node 7 is outside.
func doubleLoop() impl.Graph {
	return graphOf(
		nodeOf(impl.OpIn, 0, 0, 1, 7),
		nodeOf(impl.OpNew, 0, 0, 2),
		nodeOf(impl.OpAdd, 3, 0, 3, 4),
		nodeOf(impl.OpBack, 0, 0, 1),
		nodeOf(impl.OpKeep, 2, 1, 5),
		nodeOf(impl.OpMin, 0, 0, 6, 7),
		nodeOf(impl.OpBack, 0, 0, 1, 5),
		nodeOf(impl.OpOut, 0, 0),
	)
}

// looseBack returns a valid graph without a loop: its OpBack node leads to the node 1, which leads to no OpBack node.
func looseBack() impl.Graph {
	return graphOf(
		nodeOf(impl.OpIn, 0, 0, 1, 2),
		nodeOf(impl.OpMin, 0, 0, 3),
		nodeOf(impl.OpBack, 0, 0, 1),
		nodeOf(impl.OpOut, 0, 0),
	)
}

// textOf writes nil and empty slices the same, and everything else differently.
func textOf(value any) string {
	return fmt.Sprintf("%v", value)
}

// plainGraphOk goes by the numbers that the document gives.
func plainGraphOk(g impl.Graph) bool {
	within := func(n int, least int, most int) bool { return least <= n && n <= most }
	count := len(g.Nodes)
	ok := within(count, 1, 8) && within(g.Workers, 1, 4) && within(g.Cap, 1, 4)
	for from, x := range g.Nodes {
		ok = ok && (x.Kind == 1) == (from == 0) && plainNodeOk(x)
		for _, to := range x.Outs {
			switch {
			case to < 0, to >= count:
				ok = false
			case x.Kind == 7:
				ok = ok && to <= from && within(g.Nodes[to].Kind, 5, 6)
			default:
				ok = ok && to > from
			}
		}
	}
	return ok
}

// plainPaths tells between which nodes there is a path of at least one edge that visits no node of an avoided kind, its ends included.
func plainPaths(g impl.Graph, avoided ...int) [][]bool {
	count := len(g.Nodes)
	paths := make([][]bool, count)
	for from, x := range g.Nodes {
		paths[from] = make([]bool, count)
		for _, to := range x.Outs {
			if to >= 0 && to < count && !slices.Contains(avoided, x.Kind) && !slices.Contains(avoided, g.Nodes[to].Kind) {
				paths[from][to] = true
			}
		}
	}
	for by := range count {
		for from := range count {
			for to := range count {
				paths[from][to] = paths[from][to] || paths[from][by] && paths[by][to]
			}
		}
	}
	return paths
}

// listsUpTo returns the ascending lists of at most two numbers from 0 to most.
func listsUpTo(most int) [][]int {
	lists := [][]int{nil}
	for a := range most + 1 {
		lists = append(lists, []int{a})
		for b := range a {
			lists = append(lists, []int{b, a})
		}
	}
	return lists
}

// eachSmallGraph visits the graphs of one to three nodes: of every kind, with every ascending list of numbers of nodes, and of the first number that is none.
func eachSmallGraph(visit func(g impl.Graph)) {
	for count := 1; count <= 3; count++ {
		lists := listsUpTo(count)
		var fill func(nodes []impl.Node)
		fill = func(nodes []impl.Node) {
			if len(nodes) == count {
				visit(graphOf(nodes...))
				return
			}
			for kind := 1; kind <= 8; kind++ {
				for _, outs := range lists {
					fill(append(nodes, nodeOf(kind, leastA(kind), 0, outs...)))
				}
			}
		}
		fill(make([]impl.Node, 0, count))
	}
}

// anyNode returns a valid node without successors, of a kind other than OpIn; those that can be in a loop come more often.
func anyNode(random *rand.Rand) impl.Node {
	switch kind := []int{2, 3, 4, 5, 5, 6, 6, 7, 7, 7, 8}[random.Intn(11)]; kind {
	case impl.OpAdd:
		return nodeOf(kind, random.Intn(1000), 0)
	case impl.OpKeep:
		a := 1 + random.Intn(10)
		return nodeOf(kind, a, random.Intn(a))
	case impl.OpMove:
		return nodeOf(kind, random.Intn(100), 0)
	default:
		return nodeOf(kind, 0, 0)
	}
}

// someOf returns at most two of the numbers, in any order; two of them most often.
func someOf(random *rand.Rand, numbers []int) []int {
	random.Shuffle(len(numbers), func(a int, b int) { numbers[a], numbers[b] = numbers[b], numbers[a] })
	return numbers[:min(len(numbers), 2-random.Intn(3)/2)]
}

// anyValid returns a valid graph with the given number of nodes.
func anyValid(random *rand.Rand, count int) impl.Graph {
	g := impl.Graph{Workers: 1 + random.Intn(4), Cap: 1 + random.Intn(4)}
	g.Nodes = append(g.Nodes, nodeOf(impl.OpIn, 0, 0))
	for len(g.Nodes) < count {
		g.Nodes = append(g.Nodes, anyNode(random))
	}
	for from, x := range g.Nodes {
		var allowed []int
		for to, y := range g.Nodes {
			stateful := y.Kind == impl.OpMin || y.Kind == impl.OpNew
			if x.Kind == impl.OpBack && to <= from && stateful || x.Kind != impl.OpBack && to > from {
				allowed = append(allowed, to)
			}
		}
		if x.Kind != impl.OpOut {
			g.Nodes[from].Outs = someOf(random, allowed)
		}
	}
	return g
}

// validGraphs returns many valid graphs of every size.
func validGraphs() []impl.Graph {
	random := rand.New(rand.NewSource(8))
	graphs := []impl.Graph{loopGraph(), loopAnd(3), doubleLoop(), looseBack(), graphOf(nodeOf(impl.OpIn, 0, 0))}
	for count := 1; count <= 8; count++ {
		for range 400 * count {
			graphs = append(graphs, anyValid(random, count))
		}
	}
	return graphs
}

// someOfEach returns every tenth graph, so that all sizes are among them.
func someOfEach(graphs []impl.Graph) []impl.Graph {
	var some []impl.Graph
	for at := 0; at < len(graphs); at += 10 {
		some = append(some, graphs[at])
	}
	return some
}

// alteredGraphs returns graphs that differ from a valid one in the kind or the successors of one node, or of two; many of them are not valid.
func alteredGraphs() []impl.Graph {
	random := rand.New(rand.NewSource(88))
	var graphs []impl.Graph
	for range 30000 {
		count := 1 + random.Intn(8)
		g := anyValid(random, count)
		for range 1 + random.Intn(2) {
			x := &g.Nodes[random.Intn(count)]
			if random.Intn(3) == 0 {
				kind := 1 + random.Intn(8)
				*x = nodeOf(kind, leastA(kind), 0, x.Outs...)
			} else {
				x.Outs = []int{random.Intn(count), random.Intn(count + 1)}[random.Intn(2):]
			}
		}
		graphs = append(graphs, g)
	}
	return graphs
}

// wrongGraphs returns graphs that are not valid. Where it is possible only one condition is broken, and the loop of loopGraph is still there.
func wrongGraphs() map[string]impl.Graph {
	graphs := map[string]impl.Graph{
		"the zero graph": {},
		"no node":        {Workers: 2, Cap: 3},
		"an empty list":  {Nodes: []impl.Node{}, Workers: 2, Cap: 3},
		"nine nodes":     loopAnd(4),
		"ten nodes":      loopAnd(5),
		"264 nodes":      loopAnd(259),
		"1000 nodes":     loopAnd(995),
	}
	for name, more := range wrongNodesInGraphs() {
		graphs[name] = more
	}
	for name, more := range wrongPlaces() {
		graphs[name] = more
	}
	for name, more := range wrongEdges() {
		graphs[name] = more
	}
	for name, more := range wrongFeedback() {
		graphs[name] = more
	}
	for _, n := range []int{0, 5, -1, -2, 6, 8, 1<<32 + 2, 256 + 2, math.MinInt, math.MinInt + 2, math.MaxInt} {
		graphs[fmt.Sprintf("%d workers", n)] = loopSized(n, 3)
		graphs[fmt.Sprintf("capacity %d", n)] = loopSized(2, n)
	}
	return graphs
}

// wrongNodesInGraphs has a node that is not valid at the first place, in the middle and at the last.
func wrongNodesInGraphs() map[string]impl.Graph {
	return map[string]impl.Graph{
		"a first node with A":                    loopWith(0, nodeOf(impl.OpIn, 1, 0, 1)),
		"a first node with B":                    loopWith(0, nodeOf(impl.OpIn, 0, -1, 1)),
		"a first node with equal successors":     loopWith(0, nodeOf(impl.OpIn, 0, 0, 1, 1)),
		"a first node with three successors":     loopWith(0, nodeOf(impl.OpIn, 0, 0, 1, 2, 3)),
		"a single node with A":                   graphOf(nodeOf(impl.OpIn, 1, 0)),
		"a minimum with A":                       loopWith(1, nodeOf(impl.OpMin, 1, 0, 2, 4)),
		"a minimum with equal successors":        loopWith(1, nodeOf(impl.OpMin, 0, 0, 2, 2)),
		"a minimum with three successors":        loopWith(1, nodeOf(impl.OpMin, 0, 0, 2, 3, 4)),
		"a middle node of kind 0":                loopWith(2, nodeOf(0, 0, 0, 3)),
		"a middle node of kind 9":                loopWith(2, nodeOf(9, 0, 0, 3)),
		"a middle node of kind -1":               loopWith(2, nodeOf(-1, 0, 0, 3)),
		"a middle node that moves by 100":        loopWith(2, nodeOf(impl.OpMove, 100, 0, 3)),
		"a middle node that moves by -1":         loopWith(2, nodeOf(impl.OpMove, -1, 0, 3)),
		"a middle node that adds 1000":           loopWith(2, nodeOf(impl.OpAdd, 1000, 0, 3)),
		"a middle node that keeps 0 of 0":        loopWith(2, nodeOf(impl.OpKeep, 0, 0, 3)),
		"a middle node that keeps 3 of 3":        loopWith(2, nodeOf(impl.OpKeep, 3, 3, 3)),
		"a middle output with a successor":       loopWith(2, nodeOf(impl.OpOut, 0, 0, 3)),
		"a middle node with equal successors":    loopWith(2, nodeOf(impl.OpMove, 1, 0, 3, 3)),
		"a middle node with a negative number":   loopWith(2, nodeOf(impl.OpMove, 1, 0, 3, -1)),
		"a middle node with the least number":    loopWith(2, nodeOf(impl.OpMove, 1, 0, math.MinInt, 3)),
		"a feedback edge with A":                 loopWith(3, nodeOf(impl.OpBack, 1, 0, 1)),
		"a feedback edge with B":                 loopWith(3, nodeOf(impl.OpBack, 0, 1, 1)),
		"a feedback edge with equal successors":  loopWith(3, nodeOf(impl.OpBack, 0, 0, 1, 1)),
		"a feedback edge with a negative number": loopWith(3, nodeOf(impl.OpBack, 0, 0, 1, -1)),
		"a feedback edge with the least number":  loopWith(3, nodeOf(impl.OpBack, 0, 0, math.MinInt)),
		"a last node of kind 0":                  loopWith(4, impl.Node{}),
		"a last node of kind 9":                  loopWith(4, nodeOf(9, 0, 0)),
		"a last output with A":                   loopWith(4, nodeOf(impl.OpOut, 1, 0)),
		"a last output with B":                   loopWith(4, nodeOf(impl.OpOut, 0, 1)),
		"a last node that adds -1":               loopWith(4, nodeOf(impl.OpAdd, -1, 0)),
		"a last node that keeps 10 of 10":        loopWith(4, nodeOf(impl.OpKeep, 10, 10)),
	}
}

// wrongPlaces has inputs where there may be none, and no input at the first place.
func wrongPlaces() map[string]impl.Graph {
	graphs := map[string]impl.Graph{
		"an input in place of the minimum":       loopWith(1, nodeOf(impl.OpIn, 0, 0, 2, 4)),
		"an input in place of a middle node":     loopWith(2, nodeOf(impl.OpIn, 0, 0, 3)),
		"an input in place of the last node":     loopWith(4, nodeOf(impl.OpIn, 0, 0)),
		"two inputs alone":                       graphOf(nodeOf(impl.OpIn, 0, 0), nodeOf(impl.OpIn, 0, 0)),
		"an input only at the second place":      graphOf(nodeOf(impl.OpMin, 0, 0, 1), nodeOf(impl.OpIn, 0, 0)),
		"a first node that is an output":         loopWith(0, nodeOf(impl.OpOut, 0, 0)),
		"a first node that is a feedback edge":   loopWith(0, nodeOf(impl.OpBack, 0, 0)),
		"a first node that is of kind 0":         loopWith(0, nodeOf(0, 0, 0, 1)),
		"a single node that is an output":        graphOf(nodeOf(impl.OpOut, 0, 0)),
		"a single node that is a minimum":        graphOf(nodeOf(impl.OpMin, 0, 0)),
		"an eighth node that is an input":        loopAnd(3),
		"an input and a feedback edge to itself": graphOf(nodeOf(impl.OpIn, 0, 0, 1), nodeOf(impl.OpBack, 0, 0, 1)),
	}
	graphs["an eighth node that is an input"].Nodes[7].Kind = impl.OpIn
	for kind := 2; kind <= 6; kind++ {
		graphs["a first node that is "+kindNames[kind]] = loopWith(0, nodeOf(kind, leastA(kind), 0, 1))
	}
	return graphs
}

// wrongEdges has successors that are no node, and successors of a node other than OpBack that do not come after it.
func wrongEdges() map[string]impl.Graph {
	graphs := map[string]impl.Graph{
		"an input to itself":                      loopWith(0, nodeOf(impl.OpIn, 0, 0, 0)),
		"an input to itself first":                loopWith(0, nodeOf(impl.OpIn, 0, 0, 0, 1)),
		"an input to itself second":               loopWith(0, nodeOf(impl.OpIn, 0, 0, 1, 0)),
		"a minimum to itself":                     loopWith(1, nodeOf(impl.OpMin, 0, 0, 2, 1)),
		"a minimum to the input":                  loopWith(1, nodeOf(impl.OpMin, 0, 0, 0, 2)),
		"a last node to itself":                   loopWith(4, nodeOf(impl.OpNew, 0, 0, 4)),
		"a last node to the minimum":              loopWith(4, nodeOf(impl.OpNew, 0, 0, 1)),
		"a feedback edge to 5 in a graph of five": loopWith(3, nodeOf(impl.OpBack, 0, 0, 1, 5)),
	}
	for _, to := range []int{5, 6, 7, 8, 9, 256, 1 << 32, math.MaxInt} {
		graphs[fmt.Sprintf("an input to %d in a graph of five", to)] = loopWith(0, nodeOf(impl.OpIn, 0, 0, 1, to))
		graphs[fmt.Sprintf("a minimum to %d first in a graph of five", to)] = loopWith(1, nodeOf(impl.OpMin, 0, 0, to, 2))
		graphs[fmt.Sprintf("a last node to %d in a graph of five", to)] = loopWith(4, nodeOf(impl.OpNew, 0, 0, to))
	}
	for count := 1; count <= 7; count++ {
		g := graphOf(nodeOf(impl.OpIn, 0, 0))
		for len(g.Nodes) < count {
			g.Nodes = append(g.Nodes, nodeOf(impl.OpMin, 0, 0))
		}
		g.Nodes[count-1].Outs = []int{count}
		graphs[fmt.Sprintf("a last node to the number of nodes %d", count)] = g
	}
	for kind := 2; kind <= 6; kind++ {
		for _, outs := range [][]int{{2}, {1}, {0}, {2, 3}, {3, 2}, {1, 3}, {3, 1}, {0, 3}, {3, 0}, {2, 1}} {
			graphs[fmt.Sprintf("a middle node %s to %v", kindNames[kind], outs)] = loopWith(2, nodeOf(kind, leastA(kind), 0, outs...))
		}
	}
	return graphs
}

// wrongFeedback has feedback edges that lead forward, or not to a stateful operator.
func wrongFeedback() map[string]impl.Graph {
	graphs := map[string]impl.Graph{
		"a feedback edge to itself":           loopWith(3, nodeOf(impl.OpBack, 0, 0, 3)),
		"a feedback edge to itself second":    loopWith(3, nodeOf(impl.OpBack, 0, 0, 1, 3)),
		"a feedback edge to the input":        loopWith(3, nodeOf(impl.OpBack, 0, 0, 0)),
		"a feedback edge to the input second": loopWith(3, nodeOf(impl.OpBack, 0, 0, 1, 0)),
		"a feedback edge to a later output":   loopWith(3, nodeOf(impl.OpBack, 0, 0, 4)),
		"a feedback edge to another":          loopWith(1, nodeOf(impl.OpBack, 0, 0)),
		"a feedback edge to an output":        loopWith(1, nodeOf(impl.OpOut, 0, 0)),
	}
	for _, kind := range []int{impl.OpMin, impl.OpNew} {
		for _, outs := range [][]int{{4}, {4, 1}, {1, 4}} {
			g := loopWith(4, nodeOf(kind, 0, 0))
			g.Nodes[3].Outs = outs
			graphs[fmt.Sprintf("a feedback edge to %v, forward to %s", outs, kindNames[kind])] = g
		}
	}
	for _, kind := range []int{impl.OpAdd, impl.OpKeep, impl.OpMove} {
		graphs["a feedback edge to "+kindNames[kind]] = loopWith(1, nodeOf(kind, leastA(kind), 0, 2, 4))
		for _, outs := range [][]int{{2}, {1, 2}, {2, 1}} {
			g := loopWith(2, nodeOf(kind, leastA(kind), 0, 3))
			g.Nodes[3].Outs = outs
			graphs[fmt.Sprintf("a feedback edge to %v, with %s", outs, kindNames[kind])] = g
		}
	}
	return graphs
}

func TestLimitsOfGraphs(t *testing.T) {
	if impl.MaxNodes != 8 || impl.MaxWorkers != 4 {
		t.Errorf("MaxNodes is %d and MaxWorkers is %d, want 8 and 4", impl.MaxNodes, impl.MaxWorkers)
	}
}

func TestGraphOk(t *testing.T) {
	cases := map[string]impl.Graph{
		"a loop":                           loopGraph(),
		"two loops, eight nodes":           doubleLoop(),
		"no loop, but a feedback edge":     looseBack(),
		"an input alone":                   graphOf(nodeOf(impl.OpIn, 0, 0)),
		"an input alone, with empty Outs":  graphOf(impl.Node{Kind: impl.OpIn, Outs: []int{}}),
		"an input and an output":           graphOf(nodeOf(impl.OpIn, 0, 0, 1), nodeOf(impl.OpOut, 0, 0)),
		"eight nodes":                      loopAnd(3),
		"a successor at the last number":   loopWith(0, nodeOf(impl.OpIn, 0, 0, 1, 4)),
		"successors in descending order":   loopWith(0, nodeOf(impl.OpIn, 0, 0, 4, 1)),
		"feedback to the node before it":   loopWith(2, nodeOf(impl.OpNew, 0, 0, 3)),
		"feedback without successors":      loopWith(3, nodeOf(impl.OpBack, 0, 0)),
		"feedback that nothing leads to":   loopWith(2, nodeOf(impl.OpMove, 1, 0)),
		"a loop without duplicates":        loopWith(1, nodeOf(impl.OpNew, 0, 0, 2, 4)),
		"nodes that nothing leads to":      graphOf(nodeOf(impl.OpIn, 0, 0), nodeOf(impl.OpMin, 0, 0), nodeOf(impl.OpOut, 0, 0)),
		"a last node that is a feedback":   loopWith(4, nodeOf(impl.OpBack, 0, 0, 1)),
		"a minimum and its feedback alone": graphOf(nodeOf(impl.OpIn, 0, 0), nodeOf(impl.OpMin, 0, 0, 2), nodeOf(impl.OpBack, 0, 0, 1)),
		"feedback with two successors": graphOf(
			nodeOf(impl.OpIn, 0, 0, 1), nodeOf(impl.OpMin, 0, 0, 2), nodeOf(impl.OpNew, 0, 0, 3), nodeOf(impl.OpBack, 0, 0, 2, 1)),
		"an edge to the eighth node": graphOf(append(slices.Clone(loopAnd(2).Nodes[:6]), nodeOf(impl.OpNew, 0, 0, 7), nodeOf(impl.OpBack, 0, 0, 6))...),
	}
	for workers := 1; workers <= 4; workers++ {
		for limit := 1; limit <= 4; limit++ {
			cases[fmt.Sprintf("%d workers, capacity %d", workers, limit)] = loopSized(workers, limit)
		}
	}
	for name, g := range cases {
		if !impl.GraphOk(g) {
			t.Errorf("%s: GraphOk(%v) = false", name, g)
		}
	}
}

func TestGraphOkOfWrongGraphs(t *testing.T) {
	for name, g := range wrongGraphs() {
		if impl.GraphOk(g) {
			t.Errorf("%s: GraphOk(%v) = true", name, g)
		}
		if plainGraphOk(g) {
			t.Errorf("%s: %v is valid", name, g)
		}
	}
}

// TestGraphOkOfEveryWrongNode puts each node that is not valid at each place of a graph.
func TestGraphOkOfEveryWrongNode(t *testing.T) {
	for _, x := range wrongNodes() {
		for op := range 5 {
			if g := loopWith(op, x); impl.GraphOk(g) {
				t.Errorf("GraphOk(%v) = true", g)
			}
		}
	}
}

func TestGraphOkOfManyGraphs(t *testing.T) {
	for _, g := range append(validGraphs(), alteredGraphs()...) {
		if want := plainGraphOk(g); impl.GraphOk(g) != want {
			t.Fatalf("GraphOk(%v) = %v, want %v", g, !want, want)
		}
	}
}

func TestGraphOkOfEverySize(t *testing.T) {
	numbers := []int{math.MinInt, math.MinInt + 1, -5, -4, -2, -1, 0, 1, 2, 3, 4, 5, 6, 8, 9, 1 << 32, 1<<32 + 1, math.MaxInt - 1, math.MaxInt}
	for _, workers := range numbers {
		for _, limit := range numbers {
			g := loopSized(workers, limit)
			if want := plainGraphOk(g); impl.GraphOk(g) != want {
				t.Errorf("GraphOk(%v) = %v, want %v", g, !want, want)
			}
		}
	}
	for count := range 20 {
		g := graphOf(slices.Repeat([]impl.Node{nodeOf(impl.OpNew, 0, 0)}, count)...)
		if count > 0 {
			g.Nodes[0].Kind = impl.OpIn
		}
		if want := count >= 1 && count <= 8; impl.GraphOk(g) != want {
			t.Errorf("GraphOk of %d nodes = %v, want %v", count, !want, want)
		}
	}
}

// checkCycles checks that a node of a graph that GraphOk accepts reaches itself only on paths that pass an OpBack node and a stateful operator.
func checkCycles(t *testing.T, g impl.Graph) {
	t.Helper()
	if !impl.GraphOk(g) {
		return
	}
	all := plainPaths(g)
	withoutBack := plainPaths(g, impl.OpBack)
	withoutState := plainPaths(g, impl.OpMin, impl.OpNew, impl.OpOut)
	loop := false
	for op := range g.Nodes {
		if impl.Reaches(g, op, op) != all[op][op] {
			t.Fatalf("Reaches(%v, %d, %d) = %v", g, op, op, !all[op][op])
		}
		if withoutBack[op][op] {
			t.Fatalf("%v is valid, and node %d reaches itself without a feedback edge", g, op)
		}
		if withoutState[op][op] {
			t.Fatalf("%v is valid, and node %d reaches itself without a stateful operator", g, op)
		}
		loop = loop || all[op][op]
	}
	if impl.HasLoop(g) != loop {
		t.Fatalf("HasLoop(%v) = %v", g, !loop)
	}
	if loop && !slices.ContainsFunc(g.Nodes, isBack) {
		t.Fatalf("%v is valid and has a loop, but no feedback edge", g)
	}
}

func isBack(x impl.Node) bool { return x.Kind == impl.OpBack }

func TestCyclesOfValidGraphs(t *testing.T) {
	for _, g := range validGraphs() {
		if !impl.GraphOk(g) {
			t.Fatalf("GraphOk(%v) = false", g)
		}
		checkCycles(t, g)
	}
}

// TestCyclesOfAcceptedGraphs looks for a cycle that should have been rejected among graphs of which most are not valid.
func TestCyclesOfAcceptedGraphs(t *testing.T) {
	for _, g := range alteredGraphs() {
		checkCycles(t, g)
	}
	for _, g := range wrongGraphs() {
		checkCycles(t, g)
	}
}

func TestEverySmallGraph(t *testing.T) {
	eachSmallGraph(func(g impl.Graph) {
		if want := plainGraphOk(g); impl.GraphOk(g) != want {
			t.Fatalf("GraphOk(%v) = %v, want %v", g, !want, want)
		}
		checkCycles(t, g)
	})
}

// TestValidGraphsDiffer checks that the graphs of the other tests are of all the sorts that matter.
func TestValidGraphsDiffer(t *testing.T) {
	seen := map[string]int{}
	for _, g := range validGraphs() {
		backs, loops := 0, 0
		paths := plainPaths(g)
		for op, x := range g.Nodes {
			if paths[op][op] {
				loops++
			}
			if isBack(x) {
				backs++
				for _, to := range x.Outs {
					seen["feedback to "+kindNames[g.Nodes[to].Kind]]++
				}
			}
		}
		seen[fmt.Sprintf("%d nodes, a loop: %v", len(g.Nodes), loops > 0)]++
		seen[fmt.Sprintf("feedback: %v, several: %v, a loop: %v", backs > 0, backs > 1, loops > 0)]++
	}
	wanted := []string{
		"feedback to min", "feedback to new",
		"1 nodes, a loop: false", "2 nodes, a loop: false",
		"feedback: false, several: false, a loop: false", "feedback: true, several: false, a loop: false",
		"feedback: true, several: true, a loop: false", "feedback: true, several: false, a loop: true", "feedback: true, several: true, a loop: true",
	}
	for count := 3; count <= 8; count++ {
		wanted = append(wanted, fmt.Sprintf("%d nodes, a loop: true", count), fmt.Sprintf("%d nodes, a loop: false", count))
	}
	for _, sort := range wanted {
		if seen[sort] < 5 {
			t.Errorf("%d of the valid graphs are of the sort %q", seen[sort], sort)
		}
	}
}

// farNumbers returns numbers that are no node of any graph of these tests.
func farNumbers() []int {
	return []int{-1, -2, -8, -256, -1 << 32, math.MinInt, math.MinInt + 1, 1 << 32, 1<<32 + 1, math.MaxInt - 1, math.MaxInt}
}

func TestNodeOf(t *testing.T) {
	graphs := []impl.Graph{{}, {Nodes: []impl.Node{nodeOf(9, -1, -2, -3, 99, -3)}}}
	for _, g := range wrongGraphs() {
		graphs = append(graphs, g)
	}
	for _, g := range append(graphs, validGraphs()...) {
		for op, want := range g.Nodes {
			if x, ok := impl.NodeOf(g, op); !ok || textOf(x) != textOf(want) {
				t.Errorf("NodeOf(%v, %d) = %v, %v, want %v", g, op, x, ok, want)
			}
		}
		for _, op := range append(farNumbers(), len(g.Nodes), len(g.Nodes)+1, -len(g.Nodes)-1) {
			if x, ok := impl.NodeOf(g, op); ok || textOf(x) != textOf(impl.Node{}) {
				t.Errorf("NodeOf(%v, %d) = %v, %v, want the zero node and false", g, op, x, ok)
			}
		}
	}
}

func TestNodeOfNamedGraphs(t *testing.T) {
	g := loopGraph()
	texts := []string{"in 0 0 1", "min 0 0 2 4", "move 1 0 3", "back 0 0 1", "out 0 0"}
	for op, want := range texts {
		x, ok := impl.NodeOf(g, op)
		if got := impl.NodeText(x); got != want || !ok {
			t.Errorf("node %d is %q, %v, want %q", op, got, ok, want)
		}
	}
	many := loopAnd(995)
	many.Nodes[999] = nodeOf(impl.OpAdd, 7, 0, 3)
	if x, ok := impl.NodeOf(many, 999); !ok || impl.NodeText(x) != "add 7 0 3" {
		t.Errorf("node 999 is %v, %v", x, ok)
	}
	if x, ok := impl.NodeOf(many, 1000); ok || textOf(x) != textOf(impl.Node{}) {
		t.Errorf("node 1000 is %v, %v", x, ok)
	}
}

func TestReaches(t *testing.T) {
	loop, double, loose := loopGraph(), doubleLoop(), looseBack()
	cases := []struct {
		name     string
		g        impl.Graph
		from, to int
		want     bool
	}{
		{"one edge", loop, 0, 1, true},
		{"one edge to the second successor", loop, 1, 4, true},
		{"two edges", loop, 0, 2, true},
		{"two edges to the end", loop, 0, 4, true},
		{"three edges", loop, 0, 3, true},
		{"the feedback edge", loop, 3, 1, true},
		{"through the feedback edge", loop, 3, 2, true},
		{"through the feedback edge to the end", loop, 2, 4, true},
		{"around the loop from its first node", loop, 1, 1, true},
		{"around the loop from its middle", loop, 2, 2, true},
		{"around the loop from the feedback edge", loop, 3, 3, true},
		{"the input to itself", loop, 0, 0, false},
		{"the output to itself", loop, 4, 4, false},
		{"back to the input", loop, 1, 0, false},
		{"from the feedback edge to the input", loop, 3, 0, false},
		{"from the output", loop, 4, 0, false},
		{"from the output to the loop", loop, 4, 1, false},
		{"through two loops", double, 3, 6, true},
		{"from the inner loop to the outer", double, 5, 3, true},
		{"from the inner loop to itself", double, 5, 5, true},
		{"from the outer loop to the end", double, 4, 7, true},
		{"from the end to the end", double, 7, 7, false},
		{"the input of two loops to itself", double, 0, 0, false},
		{"from the input to the last node", double, 0, 6, true},
		{"feedback without a loop", loose, 2, 1, true},
		{"on from feedback without a loop", loose, 2, 3, true},
		{"feedback without a loop to itself", loose, 2, 2, false},
		{"the target of feedback without a loop to itself", loose, 1, 1, false},
		{"against feedback without a loop", loose, 1, 2, false},
		{"an input alone to itself", graphOf(nodeOf(impl.OpIn, 0, 0)), 0, 0, false},
		{"nodes without an edge", graphOf(nodeOf(impl.OpIn, 0, 0), nodeOf(impl.OpOut, 0, 0)), 0, 1, false},
		{"two ways that meet", graphOf(nodeOf(impl.OpIn, 0, 0, 1, 2), nodeOf(impl.OpMin, 0, 0, 3), nodeOf(impl.OpMin, 0, 0, 3), nodeOf(impl.OpNew, 0, 0, 4), nodeOf(impl.OpOut, 0, 0)), 0, 4, true},
		{"one way beside the other", graphOf(nodeOf(impl.OpIn, 0, 0, 1, 2), nodeOf(impl.OpMin, 0, 0, 3), nodeOf(impl.OpMin, 0, 0, 3), nodeOf(impl.OpOut, 0, 0)), 1, 2, false},
	}
	for _, c := range cases {
		if got := impl.Reaches(c.g, c.from, c.to); got != c.want {
			t.Errorf("%s: Reaches(%v, %d, %d) = %v, want %v", c.name, c.g, c.from, c.to, got, c.want)
		}
	}
}

// TestReachesAlongTheLongestPath goes through eight nodes in a row.
func TestReachesAlongTheLongestPath(t *testing.T) {
	var nodes []impl.Node
	for op := range 8 {
		nodes = append(nodes, nodeOf(impl.OpMin, 0, 0, op+1))
	}
	nodes[0].Kind = impl.OpIn
	nodes[7] = nodeOf(impl.OpBack, 0, 0, 1)
	g := graphOf(nodes...)
	for from := range 8 {
		for to := range 8 {
			if want := to != 0; impl.Reaches(g, from, to) != want {
				t.Errorf("Reaches(%v, %d, %d) = %v, want %v", g, from, to, !want, want)
			}
		}
	}
}

func TestReachesOfManyGraphs(t *testing.T) {
	for _, g := range validGraphs() {
		paths := plainPaths(g)
		for from := range g.Nodes {
			for to := range g.Nodes {
				if want := paths[from][to]; impl.Reaches(g, from, to) != want {
					t.Fatalf("Reaches(%v, %d, %d) = %v, want %v", g, from, to, !want, want)
				}
			}
		}
	}
}

func TestReachesNoNode(t *testing.T) {
	for _, g := range []impl.Graph{loopGraph(), doubleLoop(), looseBack(), graphOf(nodeOf(impl.OpIn, 0, 0))} {
		count := len(g.Nodes)
		for _, n := range append(farNumbers(), count, count+1, -count, 7+count, 256, 257) {
			for op := range count {
				if impl.Reaches(g, n, op) || impl.Reaches(g, op, n) {
					t.Errorf("%v: there is a path between %d and %d", g, n, op)
				}
			}
			if impl.Reaches(g, n, n) {
				t.Errorf("Reaches(%v, %d, %d) = true", g, n, n)
			}
		}
	}
}

func TestReachesOfWrongGraphs(t *testing.T) {
	for name, g := range wrongGraphs() {
		for from := -1; from <= 9; from++ {
			for to := -1; to <= 9; to++ {
				if impl.Reaches(g, from, to) {
					t.Errorf("%s: Reaches(%v, %d, %d) = true", name, g, from, to)
				}
			}
		}
		for _, n := range farNumbers() {
			if impl.Reaches(g, n, 1) || impl.Reaches(g, 1, n) || impl.Reaches(g, n, n) {
				t.Errorf("%s: Reaches(%v, ..) = true for %d", name, g, n)
			}
		}
	}
}

func TestHasLoop(t *testing.T) {
	cases := []struct {
		name string
		g    impl.Graph
		want bool
	}{
		{"a loop", loopGraph(), true},
		{"a loop in eight nodes", loopAnd(3), true},
		{"two loops", doubleLoop(), true},
		{"a loop that the input does not reach", loopWith(0, nodeOf(impl.OpIn, 0, 0)), true},
		{"a loop at the end", graphOf(nodeOf(impl.OpIn, 0, 0), nodeOf(impl.OpMin, 0, 0, 2), nodeOf(impl.OpBack, 0, 0, 1)), true},
		{"a loop through the second successors", graphOf(
			nodeOf(impl.OpIn, 0, 0, 1), nodeOf(impl.OpMin, 0, 0), nodeOf(impl.OpNew, 0, 0, 4, 3), nodeOf(impl.OpBack, 0, 0, 1, 2), nodeOf(impl.OpOut, 0, 0)), true},
		{"feedback that no node of a loop reaches", looseBack(), false},
		{"feedback that nothing leads to", loopWith(2, nodeOf(impl.OpMove, 1, 0, 4)), false},
		{"feedback without successors", loopWith(3, nodeOf(impl.OpBack, 0, 0)), false},
		{"feedback from beside its target", graphOf(nodeOf(impl.OpIn, 0, 0, 1, 2), nodeOf(impl.OpMin, 0, 0), nodeOf(impl.OpNew, 0, 0, 3), nodeOf(impl.OpBack, 0, 0, 1)), false},
		{"no feedback", loopWith(3, nodeOf(impl.OpNew, 0, 0, 4)), false},
		{"two ways that meet", graphOf(nodeOf(impl.OpIn, 0, 0, 1, 2), nodeOf(impl.OpMin, 0, 0, 3), nodeOf(impl.OpMin, 0, 0, 3), nodeOf(impl.OpOut, 0, 0)), false},
		{"an input alone", graphOf(nodeOf(impl.OpIn, 0, 0)), false},
	}
	for _, c := range cases {
		if got := impl.HasLoop(c.g); got != c.want {
			t.Errorf("%s: HasLoop(%v) = %v, want %v", c.name, c.g, got, c.want)
		}
	}
	for name, g := range wrongGraphs() {
		if impl.HasLoop(g) {
			t.Errorf("%s: HasLoop(%v) = true", name, g)
		}
	}
}

func TestOutsOf(t *testing.T) {
	cases := []struct {
		name string
		g    impl.Graph
		want []int
	}{
		{"no output", graphOf(nodeOf(impl.OpIn, 0, 0, 1), nodeOf(impl.OpMin, 0, 0)), nil},
		{"one output", loopGraph(), []int{4}},
		{"one output in the middle", loopWith(2, nodeOf(impl.OpOut, 0, 0)), []int{2, 4}},
		{"outputs at the end", loopAnd(3), []int{4, 5, 6, 7}},
		{"outputs alone behind the input", graphOf(nodeOf(impl.OpIn, 0, 0, 2, 1), nodeOf(impl.OpOut, 0, 0), nodeOf(impl.OpOut, 0, 0)), []int{1, 2}},
		// Graphs that are not valid.
		{"the zero graph", impl.Graph{}, nil},
		{"a first node that is an output", graphOf(nodeOf(impl.OpOut, 0, 0)), []int{0}},
		{"outputs that are not valid", graphOf(nodeOf(impl.OpOut, 1, 0), nodeOf(impl.OpIn, 0, 0), nodeOf(impl.OpOut, 0, 0, 1, 9, -1)), []int{0, 2}},
		{"no workers, and capacity 9", loopSized(0, 9), []int{4}},
		{"nine nodes", loopAnd(4), []int{4, 5, 6, 7, 8}},
		{"nine nodes, none an output", graphOf(slices.Repeat([]impl.Node{nodeOf(impl.OpIn, 0, 0)}, 9)...), nil},
		{"numbers that are no kind", graphOf(nodeOf(0, 0, 0), nodeOf(9, 0, 0), nodeOf(-8, 0, 0), nodeOf(8+1<<32, 0, 0), nodeOf(264, 0, 0), nodeOf(8+math.MinInt, 0, 0)), nil},
	}
	for _, c := range cases {
		if got := impl.OutsOf(c.g); !slices.Equal(got, c.want) {
			t.Errorf("%s: OutsOf(%v) = %v, want %v", c.name, c.g, got, c.want)
		}
	}
}

func TestOutsOfManyGraphs(t *testing.T) {
	graphs := append(validGraphs(), alteredGraphs()...)
	for _, g := range wrongGraphs() {
		graphs = append(graphs, g)
	}
	for _, g := range graphs {
		outs := impl.OutsOf(g)
		if !slices.IsSorted(outs) || len(slices.Compact(slices.Clone(outs))) != len(outs) {
			t.Fatalf("OutsOf(%v) = %v: not strictly ascending", g, outs)
		}
		for op := -1; op <= len(g.Nodes); op++ {
			x, _ := impl.NodeOf(g, op)
			if want := x.Kind == impl.OpOut; slices.Contains(outs, op) != want {
				t.Fatalf("OutsOf(%v) = %v: it has %d: %v", g, outs, op, !want)
			}
		}
	}
}

// checkSame compares in both orders.
func checkSame(t *testing.T, name string, a impl.Graph, b impl.Graph, want bool) {
	t.Helper()
	if impl.SameGraph(a, b) != want || impl.SameGraph(b, a) != want {
		t.Errorf("%s: SameGraph(%v, %v) = %v and %v, want %v", name, a, b, impl.SameGraph(a, b), impl.SameGraph(b, a), want)
	}
}

func TestSameGraphOfOneDifference(t *testing.T) {
	for _, n := range []int{-1, 0, 1, 3, 1<<32 + 2, math.MinInt, math.MaxInt} {
		checkSame(t, "Workers", loopGraph(), loopSized(n, 3), false)
	}
	for _, n := range []int{-1, 0, 1, 2, 4, 1<<32 + 3, math.MinInt, math.MaxInt} {
		checkSame(t, "Cap", loopGraph(), loopSized(2, n), false)
	}
	checkSame(t, "Workers and Cap exchanged", loopSized(2, 3), loopSized(3, 2), false)
	for op, x := range doubleLoop().Nodes {
		others := map[string]impl.Node{
			"a smaller Kind": {Kind: x.Kind - 1, A: x.A, B: x.B, Outs: x.Outs},
			"a greater Kind": {Kind: x.Kind + 1, A: x.A, B: x.B, Outs: x.Outs},
			"A":              {Kind: x.Kind, A: x.A + 1, B: x.B, Outs: x.Outs},
			"B":              {Kind: x.Kind, A: x.A, B: x.B - 1, Outs: x.Outs},
			"one more":       {Kind: x.Kind, A: x.A, B: x.B, Outs: append(slices.Clone(x.Outs), 0)},
		}
		if len(x.Outs) > 0 {
			others["one less"] = impl.Node{Kind: x.Kind, A: x.A, B: x.B, Outs: x.Outs[1:]}
			others["none"] = impl.Node{Kind: x.Kind, A: x.A, B: x.B}
			others["another first"] = impl.Node{Kind: x.Kind, A: x.A, B: x.B, Outs: append([]int{0}, x.Outs[1:]...)}
		}
		if len(x.Outs) > 1 {
			others["another second"] = impl.Node{Kind: x.Kind, A: x.A, B: x.B, Outs: []int{x.Outs[0], 0}}
			others["another order"] = impl.Node{Kind: x.Kind, A: x.A, B: x.B, Outs: []int{x.Outs[1], x.Outs[0]}}
		}
		for name, other := range others {
			g := doubleLoop()
			g.Nodes[op] = other
			checkSame(t, fmt.Sprintf("node %d: %s", op, name), doubleLoop(), g, false)
			checkSame(t, fmt.Sprintf("node %d: %s", op, name), g, g, true)
		}
	}
}

func TestSameGraphOfOtherNodes(t *testing.T) {
	g := loopGraph()
	exchanged := loopGraph()
	exchanged.Nodes[2], exchanged.Nodes[3] = exchanged.Nodes[3], exchanged.Nodes[2]
	checkSame(t, "exchanged nodes", g, exchanged, false)
	checkSame(t, "one node more", g, loopAnd(1), false)
	checkSame(t, "many nodes more", g, loopAnd(300), false)
	checkSame(t, "no nodes", g, impl.Graph{Workers: 2, Cap: 3}, false)
	checkSame(t, "one zero node", impl.Graph{}, impl.Graph{Nodes: []impl.Node{{}}}, false)
	for count := range g.Nodes {
		checkSame(t, "only the first nodes", g, graphOf(g.Nodes[:count]...), false)
		checkSame(t, "only the last nodes", g, graphOf(g.Nodes[count+1:]...), false)
	}
}

func TestSameGraphOfNilAndEmpty(t *testing.T) {
	checkSame(t, "zero graphs", impl.Graph{}, impl.Graph{}, true)
	checkSame(t, "no nodes", impl.Graph{}, impl.Graph{Nodes: []impl.Node{}}, true)
	checkSame(t, "empty lists of nodes", impl.Graph{Nodes: make([]impl.Node, 0, 3)}, impl.Graph{Nodes: []impl.Node{}}, true)
	for op := range 5 {
		a, b := loopGraph(), loopGraph()
		a.Nodes[op].Outs, b.Nodes[op].Outs = nil, []int{}
		checkSame(t, "no successors", a, b, true)
		checkSame(t, "no successors in both", a, a, true)
		checkSame(t, "empty successors in both", b, b, true)
	}
}

// TestSameGraphOfManyPairs compares each graph with a copy of it, with its neighbours, and with graphs that differ from it in one node or two.
func TestSameGraphOfManyPairs(t *testing.T) {
	graphs := append(someOfEach(alteredGraphs()), someOfEach(validGraphs())...)
	for _, g := range wrongGraphs() {
		graphs = append(graphs, g)
	}
	texts := make([]string, len(graphs))
	for at, g := range graphs {
		texts[at] = textOf(g)
	}
	for at, g := range graphs {
		checkSame(t, "a copy", g, roomyGraph(g, impl.Node{}, 0), true)
		for other := at; other < min(at+20, len(graphs)); other++ {
			checkSame(t, "two graphs", g, graphs[other], texts[at] == texts[other])
		}
	}
}

// roomyGraph returns a copy of a graph whose lists have spare capacity, filled with the given elements.
func roomyGraph(g impl.Graph, spare impl.Node, spareOp int) impl.Graph {
	nodes := slices.Clone(g.Nodes)
	for op, x := range nodes {
		nodes[op].Outs = roomyList(x.Outs, spareOp)
	}
	g.Nodes = roomyList(nodes, spare)
	return g
}

// memoryOf writes a graph with everything behind its lists.
func memoryOf(g impl.Graph) string {
	nodes := slices.Clone(g.Nodes[:cap(g.Nodes)])
	for op, x := range nodes {
		nodes[op].Outs = x.Outs[:cap(x.Outs)]
	}
	g.Nodes = nodes
	return textOf(g)
}

// spareNodes returns nodes to be behind a list: an output, an input, a node that is valid nowhere, and the zero node.
func spareNodes() []impl.Node {
	return []impl.Node{nodeOf(impl.OpOut, 0, 0), nodeOf(impl.OpIn, 0, 0, 1), nodeOf(77, 77, 77, 77, 77, 77), {}}
}

// graphsForMemory returns graphs, valid and not.
func graphsForMemory() []impl.Graph {
	graphs := someOfEach(validGraphs())
	for _, g := range wrongGraphs() {
		graphs = append(graphs, g)
	}
	return append(graphs, doubleLoop())
}

func TestGraphsDoNotChangeTheirLists(t *testing.T) {
	for _, g := range graphsForMemory() {
		for _, spare := range spareNodes() {
			for _, spareOp := range []int{1, 77} {
				a, b := roomyGraph(g, spare, spareOp), roomyGraph(g, spare, spareOp)
				want := memoryOf(a)
				impl.GraphOk(a)
				impl.HasLoop(a)
				overwrite(impl.OutsOf(a), 55)
				for op := -1; op <= min(len(g.Nodes), 9); op++ {
					x, _ := impl.NodeOf(a, op)
					overwrite(x.Outs, 55)
					impl.Reaches(a, 0, op)
					impl.Reaches(a, op, 1)
				}
				impl.SameGraph(a, b)
				if memoryOf(a) != want || memoryOf(b) != want {
					t.Fatalf("the memory of %v was changed", g)
				}
			}
		}
	}
}

func TestGraphsDoNotDependOnSpareCapacity(t *testing.T) {
	for _, g := range graphsForMemory() {
		for _, spare := range spareNodes() {
			for _, spareOp := range []int{1, 77} {
				roomy := roomyGraph(g, spare, spareOp)
				if impl.GraphOk(roomy) != plainGraphOk(g) || impl.HasLoop(roomy) != impl.HasLoop(g) || !slices.Equal(impl.OutsOf(roomy), impl.OutsOf(g)) {
					t.Fatalf("GraphOk, HasLoop or OutsOf of %v depends on what is behind its lists", g)
				}
				for op := -1; op <= min(len(g.Nodes)+2, 9); op++ {
					x, ok := impl.NodeOf(roomy, op)
					y, found := impl.NodeOf(g, op)
					if ok != found || textOf(x) != textOf(y) || impl.Reaches(roomy, 1, op) != impl.Reaches(g, 1, op) {
						t.Fatalf("NodeOf or Reaches of %v at %d depends on what is behind its lists", g, op)
					}
				}
				checkSame(t, "other spare capacity", roomy, roomyGraph(g, impl.Node{Kind: 55}, 55), true)
			}
		}
	}
}

// TestResultsOfGraphsAreNewMemory changes the graph and the result of another call, and looks at the result again.
func TestResultsOfGraphsAreNewMemory(t *testing.T) {
	for _, g := range graphsForMemory() {
		for op := range min(len(g.Nodes), 9) {
			roomy := roomyGraph(g, impl.Node{Kind: 77}, 77)
			first, _ := impl.NodeOf(roomy, op)
			second, _ := impl.NodeOf(roomy, op)
			outs, outsAgain := impl.OutsOf(roomy), impl.OutsOf(roomy)
			overwrite(second.Outs, 55)
			overwrite(outsAgain, 55)
			if memoryOf(roomy) != memoryOf(roomyGraph(g, impl.Node{Kind: 77}, 77)) {
				t.Fatalf("a result is in the memory of %v", g)
			}
			for at := range roomy.Nodes {
				overwrite(roomy.Nodes[at].Outs, 66)
			}
			overwrite(roomy.Nodes, impl.Node{Kind: 66})
			if textOf(first) != textOf(g.Nodes[op]) || !slices.Equal(outs, impl.OutsOf(g)) {
				t.Fatalf("NodeOf(%v, %d) or OutsOf changed later", g, op)
			}
		}
	}
}

// TestResultsOfGraphsStayTheSame calls everything twice, because no call may leave anything behind.
func TestResultsOfGraphsStayTheSame(t *testing.T) {
	g := doubleLoop()
	results := func() string {
		text := fmt.Sprint(impl.GraphOk(g), impl.HasLoop(g), impl.OutsOf(g))
		for from := range 8 {
			for to := range 8 {
				text += fmt.Sprint(impl.Reaches(g, from, to))
			}
		}
		return text
	}
	first := results()
	impl.HasLoop(looseBack())
	impl.Reaches(loopGraph(), 0, 1)
	if results() != first {
		t.Errorf("the results of %v change", g)
	}
}
