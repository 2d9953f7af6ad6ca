package tests

import (
	"fmt"
	"strings"

	"loop.example/loom/impl"
)

// A second reading of chapter 2, row by row: what Prepare and QuickListing
// answer is held against it.

func plainPrepare(c impl.Code) impl.Quick {
	var q impl.Quick
	if plainCheck(c).Code != 0 {
		return q
	}
	for _, p := range c.Protos {
		var list []impl.QIns
		for i := range p.Ins {
			x := plainQuick(p, i)
			if x.Op == impl.QField {
				x.D = q.Caches
				q.Caches++
			}
			list = append(list, x)
		}
		q.Protos = append(q.Protos, impl.QProto{Ins: list})
	}
	return q
}

// plainQuick is the quick instruction for number i, but for the number of its cache.
func plainQuick(p impl.Proto, i int) impl.QIns {
	n, x := p.Ins[i], impl.Ins{}
	if i+1 < len(p.Ins) {
		x = p.Ins[i+1]
	}
	reads, taken := n.A, -1-n.A
	other := func(o int) bool { return o != reads && o != taken }
	switch {
	case n.Op == impl.IDrop && x.Op == impl.IDrop && x.A == n.A+1:
		return impl.QIns{Op: impl.QDrops, A: n.A, B: plainDrops(p, i)}
	case n.Op == impl.IBinary && n.B > 12 && x.Op == impl.IIf && x.A == taken:
		return impl.QIns{Op: impl.QTest, A: n.A, B: n.B, C: n.C, D: n.D, E: x.B, F: 1}
	case n.Op == impl.IBinary && n.B > 12 && x.Op == impl.IUnless && x.A == taken:
		return impl.QIns{Op: impl.QTest, A: n.A, B: n.B, C: n.C, D: n.D, E: x.B, F: 0}
	case n.Op == impl.IConst && x.Op == impl.IBinary && x.C == taken && other(x.D):
		return impl.QIns{Op: impl.QWith, A: x.A, B: x.B, C: x.D, D: n.B, E: 1, F: n.A}
	case n.Op == impl.IConst && x.Op == impl.IBinary && x.D == taken && other(x.C):
		return impl.QIns{Op: impl.QWith, A: x.A, B: x.B, C: x.C, D: n.B, E: 0, F: n.A}
	case n.Op == impl.IConst && p.Consts[n.B].Kind == impl.KStr && x.Op == impl.IIndex && x.C == taken && other(x.B):
		return impl.QIns{Op: impl.QField, A: x.A, B: x.B, C: n.B, F: n.A}
	}
	return own(n)
}

// plainDrops counts the drops from i on that go one register up each.
func plainDrops(p impl.Proto, i int) int {
	if i+1 < len(p.Ins) && p.Ins[i+1].Op == impl.IDrop && p.Ins[i+1].A-p.Ins[i].A == 1 {
		return 1 + plainDrops(p, i+1)
	}
	return 1
}

// own is an instruction of the code as a quick one.
func own(n impl.Ins) impl.QIns {
	return impl.QIns{Op: n.Op, A: n.A, B: n.B, C: n.C, D: n.D}
}

const plainNames = "line at tick const move box get put upget upput fn table raw rawall index set unary binary " +
	"jump if unless list add join first pick copy call return throw try endtry scope keep defer leave " +
	"for fortest fornext each eachnext drop qtest qwith qfield qdrops"

func plainListing(q impl.Quick) string {
	var out strings.Builder
	names := strings.Fields(plainNames)
	for p, proto := range q.Protos {
		for i, x := range proto.Ins {
			fmt.Fprintf(&out, "%d:%d %s %d %d %d %d %d %d\n", p, i, names[x.Op-1], x.A, x.B, x.C, x.D, x.E, x.F)
		}
	}
	return out.String()
}
