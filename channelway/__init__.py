"""Soundings across a channel: channelway.survey.answers goes through a list of calls."""
