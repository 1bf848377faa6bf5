"""A fleet's catch, whole: ships that hold, give and use up rights to catch fish."""
