"""Wires laid into a net at corners."""


# The wire comes into the lists ahead of the ends of these corners' places, the places being those of the lists as
# they were; twice where both corners are one.
def with_wire_at(net, corners, wire, worth):
    rows = []
    for point, wires in net[1]:
        laid = []
        for place in range(len(wires) + 1):
            laid.extend([wire for corner in corners if corner == (point, place)])
            laid.extend(wires[place:place + 1])
        rows.append((point, laid))
    return (list(net[0]), rows, sorted(net[2] + [(wire, worth)]))
