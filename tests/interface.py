"""The interface as the document lists it: of each file the functions and classes, with their arguments."""

# Below a class its methods stand a step in, and its fields last.
INTERFACE = {
    "errors": """
        class FabricFault(ValueError)
        class BadGate(FabricFault)
        class BadNet(FabricFault)
        class BadRate(FabricFault)
        class BadSize(FabricFault)
        class Blocked(FabricFault)
        class BadPaper(FabricFault)
        class BadText(FabricFault)
        class BadStore(FabricFault)
        class NoSuch(FabricFault)
    """,
    "pairings": """
        check_pairing(pairs, many)
        is_full(pairs)
        filled(pairs)
        turned_over(pairs)
        behind(first, second)
        circles(pairs)
        is_even(pairs)
        how_many(many)
        by_number(number, many)
        number_of(pairs)
        logarithm(many)
        power_of_two(count)
        figures(number, count)
        from_figures(row)
        shuffled(many)
        mirrored(many)
        is_order(pairs)
        apart(one, other)
    """,
    "elements": """
        class Net(many, wires)
            stages()
            count()
            check(settings)
            carried(settings)
            way(settings, gate)
            straight()
            fields many, wires
        all_settings(net, most=4096)
        all_carried(net)
        joined(one, other)
        plain_wires(many)
    """,
    "benes": """
        size_of(many)
        parted_wires(many)
        in_halves(one, other)
        net_of(many)
        halves_of(pairs)
        partner(gate)
        settings_for(pairs)
        carries(pairs)
        least_elements(many)
        loops(pairs)
    """,
    "banyans": """
        plain_net(many)
        way(many, gate, goal)
        meetings(pairs)
        passes(pairs)
        own_settings(pairs)
        is_dense(pairs)
        rounds(pairs)
        put(pairs, one, gate)
        load(pairs)
    """,
    "sorters": """
        check_net(net, many)
        through(net, row)
        odd_even(many)
        sorted_part(low, many)
        merged_part(low, many, step)
        bitonic(many)
        bubble(many)
        sorts_all(net, many)
        fault_of(net, many)
        layers(net)
        without_idle(net, many)
        sorted_in(pairs)
        fabric_passes(pairs)
        origin(pairs, place)
    """,
    "copiers": """
        check_groups(groups, many)
        sums(groups)
        intervals(groups)
        split(low, high, place, count)
        copied(groups, many)
        goals(groups, many)
        carried(groups, many)
        nodes_used(groups, many)
    """,
    "colours": """
        class Calls(calls, left, right)
            most_calls()
            at(side, gate, colour)
            first_free(side, gate, many)
            exchange(start, here, other)
            colour(number, many)
            colour_all()
            fields calls, left, right, colours
        coloured(calls, left, right)
        check_colours(calls, colours, many)
        by_colour(calls, colours, many)
    """,
    "clos": """
        class Clos(middle, gates, switches)
            size()
            check(one, other)
            ends(one, other)
            used_in(switch)
            used_out(switch)
            free_middle(one, other)
            put(one, other)
            put_by(one, other, number)
            end(one)
            put_moving(one, other)
            exchange(start, one, other)
            at(side, switch, number)
            is_sound()
            shown()
            fields middle, gates, switches, calls
        never_blocks(middle, gates)
        can_carry(middle, gates)
        blocking_row(middle, gates)
        short_row(middle, gates)
        assigned(pairs, gates)
        carried_net(pairs, middle, gates)
    """,
    "matches": """
        check_wants(wants, many)
        is_match(wants, match)
        is_maximal(wants, match)
        next_of(ones, start, many)
        class Turns(many)
            round(wants, match, first)
            match(wants, rounds)
            fields many, grants, takes
        by_draws(wants, draws)
        greatest(wants)
        lengthen(wants, owner, one, seen)
        heaviest(weights)
        weight_of(weights, match)
        count(match)
    """,
    "frames": """
        check_rates(rates, slots)
        frame(rates, slots)
        has_rates(plan, rates)
        served(plan, one, gate, start, slots)
        least_served(plan, one, gate, slots)
        longest_wait(plan, one, gate)
        too_much(rates, slots)
        free_slots(rates, slots)
        widened(rates, one, gate, much)
    """,
    "buckets": """
        class Bucket(burst, rate)
            take(count)
            fields burst, rate, marks
        keeps(arrivals, burst, rate)
        taken(arrivals, burst, rate)
        least_burst(arrivals, rate)
        shaped(arrivals, burst, rate)
        longest_queue(arrivals, burst, rate)
        together(one, other)
        both_kept(one, other)
    """,
    "curves": """
        check_curve(curve)
        bucket_curve(burst, rate, slots)
        late_curve(wait, rate, slots)
        folded(one, other)
        unfolded(one, other)
        is_under(row, curve)
        most_queue(comes, serves)
        most_wait(comes, serves)
        tightest(row)
        served_by(row, offers)
        surely(offers)
        cell_waits(row, out)
    """,
    "rounds": """
        class Deficits(quanta)
            put(queue, length)
            visit(queue)
            round()
            fields quanta, queues, left, sent
        check_packets(packets, weights)
        tag(packets, weights, place)
        is_ahead(one, other)
        fair_order(packets, weights)
        end_times(packets, order)
        fluid_time(packets, weights, place)
        longest(packets)
        behind_fluid(packets, weights)
    """,
    "crossbars": """
        class Crossbar(many)
            put(one, gate, cell)
            wants()
            row_lengths()
            how_many()
            serve(match)
            fields many, queues, slot, came, went
        run(many, arrivals, choose)
        emptied(bar, choose, most)
        single_queue(many, arrivals, slots)
        heads(bar)
    """,
    "mimics": """
        class Ideal(many)
            leaving(gate, slot)
            fields free
        class Mimic(many)
            put(one, gate, cell)
            wanted(gate)
            place(one, cell)
            matched()
            cross()
            send()
            turn(cells, times)
            slack(one, place)
            fields many, ideal, lists, crossed, slot
        ideal_run(many, arrivals, slots)
        mimic_run(many, arrivals, slots, times)
    """,
    "grids": """
        class Grid(wide, high, round_ends)
            nodes()
            step(node, way)
            near(node)
            links()
            far(one, other)
            fields wide, high, round_ends
        class Cube(ways)
            nodes()
            step(node, way)
            near(node)
            links()
            far(one, other)
            fields ways
        gray(ways)
        widest(shape)
        steps_between(shape, one, other)
        cut_links(shape, side)
    """,
    "ways": """
        by_columns(grid, one, other)
        by_figures(cube, one, other)
        links_of(way)
        waits(ways)
        numbered(pairs)
        check_numbers(pairs, numbers)
        ring_of(pairs)
        back_from(came, last)
        check_ring(pairs, ring)
        all_ways(shape, route)
        levels(near, root)
        goes_up(levels_of, one, other)
        up_and_down(near, root, one, other)
        is_up_and_down(near, root, way)
    """,
    "worms": """
        class Worms(packets)
            is_over(number)
            all_over()
            next_link(number)
            can_move(number)
            move(number)
            leave(number)
            go()
            run(most)
            waits_for(number)
            ring()
            fields ways, lengths, taken, left, holder, slots
        alone(way, length)
    """,
    "marks": """
        class Link(room, there, back)
            turn(cells, drains)
            counted()
            fields room, there, back, marks, cells, notes, inside, slot, most
        sent_in(room, there, back, slots)
        room_for_all(there, back)
        link_run(room, there, back, cells, drains)
    """,
    "fairs": """
        shared(one, other)
        small(top, low)
        less(one, other)
        check_flows(flows, rooms)
        next_full(left, open_flows, found)
        rates(flows, rooms)
        link_load(flows, given, link)
        necks(flows, rooms, given)
        check_fair(flows, rooms, given, links)
    """,
    "rooms": """
        class Room(gates, most)
            full()
            longest()
            put(gate)
            put_pushing(gate)
            put_within(gate, part)
            send()
            fields most, waiting, lost, sent
        sent_by(gates, most, arrivals, pushing)
        best_sent(gates, most, arrivals)
        with_cell(states, gate, most)
        sent_once(states)
    """,
    "throws": """
        class Throws(shape, cells)
            choose(node, goal, taken)
            throw()
            run(most)
            away()
            fields shape, cells, arrived, slots
        bound(shape, cells)
        most_away(shape)
    """,
    "trees": """
        class Tree(leaves, switches, tops)
            size()
            switch(leaf)
            way(one, other, top)
            loads(pairs, tops)
            most_load(pairs, tops)
            spread(pairs)
            by_goal(pairs)
            least_load(pairs)
            fields leaves, switches, tops
        has_room(tree)
    """,
    "times": """
        class Exchange(lines, slots, inner)
            spot(line, slot)
            connect(line, slot, other, goal)
            part(line, slot)
            reads(line)
            joins(number)
            writes(line)
            frame(cells)
            fields lines, slots, inner, net
        inner_needed(slots, moving)
        wait_of(slot, inner_slot, goal, slots)
    """,
    "spreads": """
        class Spread(many)
            put(one, gate, cell)
            joined(one)
            out_of(place)
            turn()
            left_inside()
            short()
            longest(gate)
            fields many, waiting, rows, middle, slot
        drained(spread, most)
    """,
    "guards": """
        check_near(near)
        widen(near, used, one, other)
        flow(near, one, other)
        apart_ways(near, one, other)
        cut(near, one, other)
        cut_size(near, side)
        check_ways(near, one, other, ways, side)
        still_joined(near, one, other, broken)
        near_of(shape)
    """,
    "switches": """
        class Stream(one, gate, burst, rate)
            fields one, gate, burst, rate
        class Switch(many, slots)
            all_rates()
            admit(one, gate, burst, rate)
            offer(counts)
            turn(counts)
            comes(number, slots)
            serves(number, slots)
            far(number)
            queue_bound(number)
            wait_bound(number)
            fields many, slots, streams, buckets, plan, bar, refused
    """,
    "tables": """
        joints_of_crossbar(many)
        joints_of_rows(middle, gates, switches)
        least_joints(many, moving)
        elements_of_banyan(many)
        comparers(many)
        glance(many)
        cheaper(many)
    """,
    "desks": """
        number(word)
        figure_of(text)
        class Desk()
            say(line)
            do(line)
            open_net()
            change(word, numbers)
            give(one, gate, much)
            sure()
            wait(one, gate)
            write(body)
            fields net, slots, rates, text, many
        wanted(word)
        lines_of(text)
        done_again(text)
        told_block(middle, gates)
    """,
}
