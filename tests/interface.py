"""The names of the interface, by the files under which they are listed."""

import importlib

FUNCTIONS = {
    "names": ("is_topic", "is_wish", "meets", "lesser_way"),
    "frames": ("is_frame", "frame_octets", "read_frame", "read_all", "joined"),
    "frametexts": ("frame_text", "read_text"),
    "worlds": ("is_world", "fresh_world", "free_number", "is_at_rest", "faults_of"),
    "events": ("is_event", "can_happen", "happened", "happened_all", "events_that_can"),
    "wishes": ("is_as_wide", "common_wish", "topic_beside"),
    "wishlots": ("is_lot", "way_in", "topic_between", "idle_wishes", "fewest_wishes"),
    "wishtrees": (
        "wish_tree", "is_wish_tree", "lot_of_tree", "met_in_tree", "trees_visited", "tree_with", "tree_without",
    ),
    "rights": (
        "are_rights", "is_let", "part_let", "let_topic", "barred_topic", "idle_rules", "topic_at_odds",
    ),
    "cards": ("is_card", "is_possible", "card_events", "card_behind"),
    "cardways": ("way_to", "is_way_to", "cards_of"),
    "windows": ("are_sizes", "window_behind", "window_events"),
    "windowharms": ("are_sound", "window_harm", "is_harm"),
    "allruns": ("is_state", "state_steps", "state_behind", "has_sign"),
    "runlots": ("count_states", "layers_of", "ends_of"),
    "badruns": ("shortest_bad", "least_harm", "is_bad_run"),
    "closedlots": ("closed_lot", "is_closed_lot"),
    "calms": ("calmed", "witness"),
    "logchanges": ("is_memory", "is_change", "can_change", "changed", "changes_between", "change_octets"),
    "logtracks": ("lot_octets", "begin_octets", "read_track", "read_disk", "resumed"),
    "stops": (
        "is_diary", "disk_of", "held_of", "sure_steps", "told_steps", "disk_kept", "is_harmful", "harm_of",
    ),
    "sessionhouses": ("is_house", "is_house_step", "house_stepped", "sessions_for", "house_of_world"),
    "sessionruns": ("house_course", "told_in", "fates_of", "fate_counts"),
    "sessionterms": ("least_room", "least_keep"),
    "laneplans": ("is_lane_plan", "lanes_met", "dead_rings", "old_way"),
    "yards": ("is_yard", "fresh_yard", "place_of_letter", "deaths_in", "ticks_to_rest"),
    "yardacts": ("is_act", "can_act", "acted", "acted_all", "acts_that_can", "fed"),
    "meshes": ("is_mesh", "fresh_mesh", "words_had", "is_settled", "mesh_faults"),
    "meshevents": ("is_mesh_event", "can_in_mesh", "mesh_after", "mesh_after_all", "crossings"),
    "meshpaths": ("brokers_reached", "paths_between", "rings_of_topic", "comes_to_rest"),
    "meshruns": ("settled_by", "doubling_run", "is_doubling_run"),
    "pools": ("is_pool", "fresh_pool", "key_of", "reader_for", "moved_keys"),
    "poolevents": ("is_pool_event", "pool_can", "pool_after", "pool_after_all", "pool_told"),
    "poolfacts": ("where_is", "fair_lag", "slow_in", "share_events"),
    "lifetales": ("is_tale", "world_of", "told_on", "told_back", "harms_of", "calm_event", "led_calm"),
    "lifeback": ("are_facts", "facts_hold", "worlds_near", "least_told", "explaining", "explains"),
    "lifetexts": ("event_text", "tale_text", "read_event", "read_tale"),
}

# Each class, and what the interface lists for it.
CLASSES = {
    "lifevalues": ("Story", (
        "__init__", "read", "tale", "world", "rest", "faults", "__add__", "__iadd__", "__lshift__", "__rshift__",
        "__getitem__", "__contains__", "__len__", "__bool__", "__str__", "__iter__", "__eq__",
    )),
    "lifebenches": ("Bench", (
        "__init__", "do", "__iadd__", "undo", "redo", "attempt", "tale", "world", "faults", "lines", "__len__",
        "__contains__", "__bool__", "__eq__",
    )),
}

MESSAGE_ERRORS = (
    "InvalidFrame", "InvalidTopic", "InvalidWish", "InvalidWay", "InvalidText", "InvalidManner", "InvalidNames",
    "InvalidSide", "InvalidWorld", "InvalidEvent", "InvalidEvents", "CannotHappen", "InvalidWishes", "InvalidLot",
    "InvalidWishTree", "InvalidRights", "InvalidDeed", "InvalidCard", "InvalidSizes", "InvalidState", "InvalidSign",
    "InvalidMemory", "InvalidChange", "InvalidChanges", "CannotChange", "InvalidDisk", "InvalidDiary", "InvalidStop",
    "InvalidNumber", "Unlike", "InvalidHouse", "InvalidStep", "InvalidSteps", "CannotStep", "InvalidPlan",
    "InvalidYard", "InvalidLane", "InvalidMark", "InvalidAct", "InvalidActs", "InvalidMesh", "InvalidMeshEvent",
    "InvalidMeshManner", "InvalidBridges", "InvalidPool", "InvalidTale", "InvalidFacts", "NothingToUndo",
    "NothingToRedo",
)


def function_of(module, name):
    return getattr(importlib.import_module(f"heardonce.{module}"), name)


def all_names():
    names = {name: function_of(module, name) for module, names in FUNCTIONS.items() for name in names}
    return {**names, **{name: function_of(module, name) for module, (name, _) in CLASSES.items()}}
