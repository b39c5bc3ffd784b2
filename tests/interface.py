"""The interface as the document lists it: of each file the functions and classes, with their arguments."""

# Below a class its methods stand a step in, and its fields last.
INTERFACE = {
    "errors": """
        class FabricFault(ValueError)
        class BadGate(FabricFault)
        class BadNet(FabricFault)
        class BadRate(FabricFault)
        class BadSize(FabricFault)
        class Blocked(FabricFault)
        class BadPaper(FabricFault)
        class BadText(FabricFault)
        class BadStore(FabricFault)
        class NoSuch(FabricFault)
    """,
    "pairings": """
        check_pairing(pairs, many)
        is_full(pairs)
        filled(pairs)
        turned_over(pairs)
        behind(first, second)
        circles(pairs)
        is_even(pairs)
        how_many(many)
        by_number(number, many)
        number_of(pairs)
        logarithm(many)
        power_of_two(count)
        figures(number, count)
        from_figures(row)
        shuffled(many)
        mirrored(many)
        is_order(pairs)
        apart(one, other)
    """,
    "elements": """
        class Net(many, wires)
            stages()
            count()
            check(settings)
            carried(settings)
            way(settings, gate)
            straight()
            fields many, wires
        all_settings(net, most=4096)
        all_carried(net)
        joined(one, other)
        plain_wires(many)
    """,
    "benes": """
        size_of(many)
        parted_wires(many)
        in_halves(one, other)
        net_of(many)
        halves_of(pairs)
        partner(gate)
        settings_for(pairs)
        carries(pairs)
        least_elements(many)
        loops(pairs)
    """,
    "banyans": """
        plain_net(many)
        way(many, gate, goal)
        meetings(pairs)
        passes(pairs)
        own_settings(pairs)
        is_dense(pairs)
        rounds(pairs)
        put(pairs, one, gate)
        load(pairs)
    """,
}
