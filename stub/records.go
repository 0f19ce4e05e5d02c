package stub

import "stylet/api"

// records are cycles, from the first one on round the ring.
type records struct {
	ring  [api.Ring]api.Bus
	first int
	count int
}

func (r *records) full() bool { return r.count == api.Ring }

func (r *records) put(bus api.Bus) {
	r.ring[(r.first+r.count)%api.Ring] = bus
	r.count++
}

func (r *records) take() api.Bus {
	bus := r.ring[r.first]
	r.first = (r.first + 1) % api.Ring
	r.count--
	return bus
}
