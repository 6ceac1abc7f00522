package bundle

import (
	"slices"

	"stepwell/api"
)

// Same tells whether two bundles are equal.
func Same(a, b api.Bundle) bool {
	return a.Input == b.Input && a.Classes == b.Classes && slices.EqualFunc(a.Models, b.Models, sameModel)
}

func sameModel(a, b api.Model) bool {
	return slices.EqualFunc(a.Blocks, b.Blocks, sameBlock)
}

func sameBlock(a, b api.Block) bool {
	return slices.EqualFunc(a.Nodes, b.Nodes, sameNode) && a.Exit == b.Exit && sameHead(a.Head, b.Head)
}

func sameHead(a, b api.Head) bool {
	return slices.Equal(a.W, b.W) && slices.Equal(a.Bias, b.Bias) && a.Need == b.Need
}

func sameNode(a, b api.Node) bool {
	return wide(a) == wide(b) && small(a) == small(b) && a.Q == b.Q && a.R == b.R &&
		slices.Equal(a.W, b.W) && slices.Equal(a.Bias, b.Bias)
}

func wide(n api.Node) [7]int {
	return [7]int{n.Kind, n.A, n.B, n.K, n.S, n.P, n.Out}
}

func small(n api.Node) [4]int8 {
	return [4]int8{n.ZA, n.ZB, n.Lo, n.Hi}
}

// Copy is an equal bundle with lists of its own.
func Copy(u api.Bundle) api.Bundle {
	u.Models = slices.Clone(u.Models)
	for i, m := range u.Models {
		u.Models[i].Blocks = copyBlocks(m.Blocks)
	}
	return u
}

func copyBlocks(l []api.Block) []api.Block {
	blocks := slices.Clone(l)
	for i, b := range blocks {
		blocks[i].Nodes = copyNodes(b.Nodes)
		blocks[i].Head.W, blocks[i].Head.Bias = slices.Clone(b.Head.W), slices.Clone(b.Head.Bias)
	}
	return blocks
}

func copyNodes(l []api.Node) []api.Node {
	nodes := slices.Clone(l)
	for i, n := range nodes {
		nodes[i].W, nodes[i].Bias = slices.Clone(n.W), slices.Clone(n.Bias)
	}
	return nodes
}
