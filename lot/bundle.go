package lot

import "stepwell/api"

// Head is an exit for a shape and some classes.
func (next Draw) Head(s api.Shape, classes int) api.Head {
	h := api.Head{Need: int32(next(0, 400))}
	for range classes * s.H * s.W * s.C {
		h.W = append(h.W, int8(next(-9, 9)))
	}
	for range classes {
		h.Bias = append(h.Bias, int32(next(-99, 99)))
	}
	return h
}

// Model is blocks of which each one can take what goes out of the one before. The last one has an exit, others may have one.
func (next Draw) Model(in api.Shape, classes, blocks int) api.Model {
	var m api.Model
	for i := range blocks {
		nodes, shapes := next.Block(in, next(1, api.MaxNodes))
		in = shapes[len(nodes)]
		b := api.Block{Nodes: nodes}
		if i == blocks-1 || next(0, 1) == 0 {
			b.Exit, b.Head = true, next.Head(in, classes)
		}
		m.Blocks = append(m.Blocks, b)
	}
	return m
}

// Bundles visits bundles of as many models and blocks as there may be, and of fewer.
func Bundles(visit func(u api.Bundle)) {
	next := From(23)
	for round := range 8 * api.MaxModels * api.MaxBlocks {
		u := api.Bundle{Input: api.Shape{H: next(1, 6), W: next(1, 6), C: next(1, 4)}, Classes: next(2, api.MaxClasses)}
		for range 1 + round%api.MaxModels {
			u.Models = append(u.Models, next.Model(u.Input, u.Classes, 1+round/api.MaxModels%api.MaxBlocks))
		}
		visit(u)
	}
}
