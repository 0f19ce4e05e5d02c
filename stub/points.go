package stub

import (
	"slices"

	"stylet/api"
)

// points are addresses, in no order.
type points struct {
	at    [api.MaxPoints]uint16
	count int
}

func (p *points) find(at uint16) int { return slices.Index(p.at[:p.count], at) }

func (p *points) has(at uint16) bool { return p.find(at) >= 0 }

func (p *points) add(at uint16) string {
	if p.has(at) {
		return done
	}
	if p.count == api.MaxPoints {
		return noRoom
	}
	p.at[p.count] = at
	p.count++
	return done
}

func (p *points) remove(at uint16) string {
	i := p.find(at)
	if i < 0 {
		return notThere
	}
	p.count--
	p.at[i] = p.at[p.count]
	return done
}
