"""The functions of the interface by their modules, and the methods of a bench, with their arguments."""

FUNCTIONS = {
    "walkhands.shapes": {
        "is_shape": ["row"],
        "is_strip": ["upper", "lower"],
        "grow": ["rho", "mu", "nu", "count"],
        "shrink": ["mu", "nu", "shape"],
        "is_chain": ["shapes"],
        "toggled": ["chain", "index"],
    },
    "walkhands.corners": {
        "shapes_of": ["board"],
        "border_of": ["board"],
        "board_of": ["right", "bottom"],
    },
    "walkhands.tableaux": {
        "is_tableau": ["rows"],
        "chain_of": ["tableau", "letters"],
        "tableau_of": ["chain"],
        "insert": ["tableau", "letter"],
        "take_out": ["tableau", "row"],
        "pair_of": ["word"],
        "word_of": ["first", "second"],
        "word_of_board": ["board", "rows"],
    },
    "walkhands.walks": {
        "collected": ["board", "family"],
        "best_family": ["board", "count", "rows", "columns"],
    },
    "walkhands.heights": {
        "told_heights": ["board", "count", "rows", "columns"],
        "bound": ["board", "heights", "count"],
        "judge": ["board", "family", "heights"],
    },
    "walkhands.stairs": {
        "is_stair": ["path", "shapes"],
        "taken_off": ["path", "shapes", "index"],
        "put_in": ["path", "shapes", "index", "count"],
        "stair_of": ["board"],
        "amounts_above": ["path", "shapes"],
    },
    "walkhands.turning": {
        "transposed": ["board"],
        "turned": ["board"],
    },
    "walkhands.lists": {
        "content_of": ["tableau", "letters"],
        "tableaux_of": ["shape", "content"],
        "boards_of": ["rows", "columns"],
    },
}

METHODS = {
    "put": ["row", "column", "amount"],
    "insert_row": ["at", "amounts"],
    "remove_row": ["at"],
    "insert_column": ["at", "amounts"],
    "remove_column": ["at"],
    "undo": [],
    "redo": [],
    "board": [],
    "shape": ["row", "column"],
    "most": ["count", "row", "column"],
    "grown": [],
    "changes": [],
    "undone": [],
}
