"""An event trigger: decides for each event whether it is kept."""
